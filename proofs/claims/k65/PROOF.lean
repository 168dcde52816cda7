import PyProof.Rows.All
import Wide.All
import OpenK.AllK
import Wide.FinOn
import Lean
import PyProof.EqAt
import PyProof.EqKinds
import PyProof.TupleCall
import PyProof.StrLawsIn
import PyProof.StationsW
import PyProof.NeData
import OpenK.KOwn
import PyProof.NsDelKeeps
import PyProof.ExcArgsOwn
import PyProof.ExcAttrAll.ValueError
import PyProof.IsiH_tuple
import KE.KIsAll
import PyProof.CollectStr
import PyProof.ZipIter
import PyProof.Rows.ZipGen
import PyProof.JoinWalk
import PyProof.CollectIter
import PyProof.EnumMake
import PyProof.SumAny
import PyProof.MeetsSeq3
import PyProof.ListRange
import PyProof.ListNew
import PyProof.DictUpdate
import PyProof.FitsBits
import PyProof.StrCalls6
import PySem.Challenge.RW_trunksay_k65_kept_rooms
set_option Elab.async false
set_option linter.all false
set_option maxRecDepth 100000
def aa:=@PySem.wpAny_bind
def ah:=@List.length_append
def aj:=@List.getElem?_eq_getElem
def ak:=@List.append_assoc
def am:=@List.prefix_refl
def aq:=@PySem.Heap.get?_push_of_some
def ar:=@List.getElem?_eq_some_iff
def au:=@Nat.le_of_ble_eq_true
def ay:=@PySem.wpAny_pure
def az:=@Nat.le_refl
def aB:=@PySem.Heap.get?_push_size
def aE:=@List.length_map
def aF:=@List.getD_eq_getElem?_getD
def aG:=@List.getElem?_map
def aI:=@PySem.Heap.lt_size
def aJ:=@if_pos
def aK:=@List.getElem?_append_left
def aL:=@List.length_take
def aM:=@Nat.le_trans
def aO:=@List.mem_append_right
def aQ:=@Nat.lt_of_lt_of_le
def aR:=@List.mem_cons_of_mem
def aS:=@List.mem_cons
def aT:=@List.size_toArray
def aU:=@List.mem_append
def aV:=@if_neg
def aW:=@List.getElem?_append_right
def aY:=@List.mem_singleton
def a7:=@Nat.ne_of_lt
def a8:=@List.map_append
def a9:=@List.prefix_append
def ba:=@decide_eq_false
def bd:=@List.length_cons
def bf:=@List.append_nil
def bj:=@beq_eq_false_iff_ne
def bn:=@List.map_cons
def bp:=@Nat.le_succ
def bt:=@PySem.Heap.size_push
def bv:=@List.reverse_cons
def bx:=@Option.some.inj
def bz:=@List.take_of_length_le
def bB:=@List.mem_cons_self
def bI:=@PySem.wpAny_callSpecial?_slot
def bK:=@PySem.boot_len
def bQ:=@List.pairwise_cons
def bX:=@List.mem_append_left
def bY:=@decide_eq_true
def bZ:=@Nat.lt_succ_self
def b6:=@PySem.wpAny_call_entry
def b7:=@List.map_map
def b8:=@List.length_singleton
def b9:=@List.getElem?_eq_none
def cb:=@List.getElem?_set_self
def ce:=@Nat.zero_le
def cf:=@List.mem_of_getElem?
def cm:=@List.length_drop
def cq:=@Int.toNat_natCast
def cr:=@PySem.wpAny_newObj_type
def cv:=@PySem.wpAny_setField_rec
def cw:=@List.take_append_of_le_length
def cC:=@PySem.Heap.get?_update_other
def cE:=@List.getElem?_take_of_lt
def cJ:=@Nat.lt_succ_of_lt
def cN:=@List.getElem?_set_ne
def cO:=@PySem.Around.under_plainId
def cS:=@List.mem_map
def c7:=@PySem.wpAny_field
def c8:=@PySem.wpAny_holding
def c9:=@PySem.wpAny_loadPart'
def dr:=@Bool.and_eq_true
def dv:=@beq_iff_eq
def dw:=@List.flatten_append
def dy:=@PySem.Heap.get?_update_self
def dz:=@Nat.lt_irrefl
def dA:=@Bool.and_true
def dB:=@PySem.codeAny_builtin
def dD:=@List.getElem_mem
def dE:=@List.take_length
def dF:=@PyProof.Rows.callWith_type1
def dS:=@Nat.ne_of_gt
def dU:=@PySem.wpAny_seqItems
def dX:=@PySem.isSubtype_type
def dY:=@Array.length_toList
def d7:=@List.nil_append
def ec:=@PyProof.Rows.slot_tuple_getitem
def eh:=@Array.getElem?_eq_getElem
def eD:=@Bool.false_ne_true
def eN:=@PyProof.Rows.boot_tuple
def eO:=@List.map_congr_left
def eP:=@PyProof.Rows.F.plain_set_update_loop
def eV:=@Option.map_eq_some_iff
def eX:=@PySem.plainId_quiet
def fw:=@PySem.wpAny_pyIter_tuple
def fx:=@PySem.Calls.spliced_cons
def fy:=@Bool.false_eq_true
def fz:=@PySem.wpAny_Call_Name_kw
def fA:=@PySem.F.slot_tuple_iterator_next
def fB:=@Array.getElem?_toList
def fD:=@List.drop_eq_getElem_cons
def fG:=@PySem.wpAny_passesOwn
def fH:=@Int.natCast_add
def fL:=@Nat.le_of_lt
def fM:=@PySem.wpAny_setState_of
def fW:=@List.filterMap_cons
def fX:=@if_true
def fY:=@PySem.wpAny_setEntries_of
def f_:=@Array.eq_empty_of_size_eq_zero
def ga:=@PySem.wpAny_isInstance
def gb:=@List.not_mem_nil
def gc:=@List.take_left
def gl:=@List.eq_nil_of_length_eq_zero
def gy:=@List.length_eq_one_iff
def gH:=@Nat.min_eq_left
def gI:=@List.drop_left'
def gM:=@PySem.wpAny_attempt
def gO:=@PySem.StrLaws.glued_eq_join
def gP:=@List.getElem?_reverse
def gT:=@Nat.le_succ_of_le
def gU:=@PySem.wpAny_truthy_bool
def gW:=@PySem.Calls.spliced_nil
def gX:=@Bool.not_eq_true'
def hJ:=@congrArg
def hU:=@List.Perm.refl
def ig:=@PySem.codeAny_mono
def ii:=@PySem.wpAny_typeOf
def ip:=@PySem.Heap.SameBut.update
def iq:=@PyProof.Rows.F.entry_set_update_loop
def iu:=@List.getElem?_range
def iJ:=@List.mem_filter
def iK:=@List.nodup_cons
def iL:=@Int.natCast_mul
def iM:=@Int.emod_nonneg
def iR:=@Nat.lt_of_le_of_lt
def iS:=@List.lookup_append
def iT:=@Nat.not_lt
def i6:=@List.getElem?_replicate
def i7:=@PySem.wpAny_pyNext_ascii_item
def i8:=@List.map_id
def jl:=@PySem.wpAny_pyNext_wide_item
def jm:=@PySem.Calls.callWith_builtin
def jn:=@List.ext_getElem?
def jo:=@Nat.lt_of_succ_lt_succ
def jp:=@List.take_add_one
def ju:=@List.length_filter_le
def jH:=@PyProof.Rows.callWith_builtin1
def jI:=@List.lookup_cons
def jJ:=@PySem.wpAny_rule
def jT:=@PySem.sizeLine_eq
def jU:=@if_false
def jV:=@PySem.Calls.evalArgs_plain
def jW:=@PySem.wpAny_updateSeq_pair
def kg:=@PySem.wpAny_execs_nil
def kh:=@PySem.pushCells_keeps
def ki:=@List.forIn_cons
def kj:=@PySem.F.args_tuple_iterator_next_1
def km:=@Nat.not_lt_zero
def ko:=@PySem.F.slot_zip_next
def kr:=@List.take_left'
def kB:=@PySem.Value.isStrOf_shape
def kC:=@List.filter_eq_self
def kJ:=@PySem.F.entry_tuple_iterator_next
def kK:=@Array.getD_eq_getD_getElem?
def kU:=@List.mem_range
def kW:=@PySem.wpAny_mono
def kX:=@PySem.Calls.Name_function_global
def kY:=@List.mem_filterMap
def kZ:=@Int.fdiv_eq_ediv_of_nonneg
def k6:=@PySem.typeIs_str
def k7:=@PySem.wpAny_pyIter_ascii
def k8:=@PySem.isSubtype_stop
def k9:=@PySem.wpAny_fieldsOf
def k_:=@Int.emod_lt_of_pos
def lc:=@congrFun
def lg:=@decide_eq_true_iff
def lj:=@PySem.Calls.call_function_entry
def lN:=@PySem.wpAny_pyIter_wide
def lS:=@Array.toList_push
def lT:=@List.nodup_append
def lU:=@List.flatten_cons
def me:=@Bool.or_false
def mf:=@PySem.wpAny_onRaise
def mh:=@List.map_take
def mi:=@List.map_drop
def mj:=@Nat.add_assoc
def mG:=@Nat.le_add_right
def mH:=@PySem.noFill_tuple_add
def mI:=@LawfulBEq.eq_of_beq
def mJ:=@PySem.wpAny_askSetting
def mK:=@List.getElem_map
def m_:=@PyProof.Rows.subscriptTail_builtinR
def ng:=@List.range_succ_eq_map
def nh:=@List.drop_eq_nil_of_le
def ni:=@PySem.wpAny_Call_method_late
def nj:=@List.drop_of_length_le
def nn:=@Int.mul_comm
def nq:=@Nat.zero_add
def nr:=@List.set_set
def nJ:=@List.of_mem_zip
def nK:=@List.length_set
def nL:=@PySem.wpAny_ite_split
def nM:=@PySem.wpAny_updateSeq
def nN:=@List.length_nil
def nO:=@Bool.eq_iff_iff
def nS:=@PySem.wpAny_storeName_local
def nT:=@PySem.wpAny_isTrue_Compare1
def nU:=@PySem.F.slot_enumerate_next
def nV:=@PySem.builtinLookup_eq_fast
def nX:=@List.Perm.append_left
def nY:=@List.set_append_right
def nZ:=@List.dropLast_eq_take
def oR:=@List.forIn_nil
def oS:=@PyProof.Rows.sorted_out_str
def oT:=@PySem.wpAny_runValue
def oU:=@or_false
def oV:=@PyProof.Rows.boot_sorted
def oX:=@PyProof.Rows.boot_int
def oY:=@List.take_take
def pV:=@PyProof.Rows.Constant_none
def pW:=@PySem.wpAny_standAt
def pX:=@PySem.seq_tuple_add
def pY:=@PyProof.Rows.strKind_oneLt
def pZ:=@PySem.SeqAt.str_beq
def p5:=@List.sum_cons
def qx:=@PySem.wpAny_call
def qy:=@PySem.call_meets
def rK:=@PySem.concat_meets
def rL:=@PySem.seqIndex_neg
def rM:=@Nat.add_zero
def rN:=@PyProof.Rows.keyKind_strs
def rO:=@Nat.lt_trans
def rP:=@Int.zero_add
def rQ:=@List.map_set
def tf:=@PySem.putSet_of
def tj:=@PyProof.Rows.boot_bool
set_option compiler.extract_closed false
noncomputable section
open PySem.W (Frag)
open PySem.W (instObj hideAll lookIn plainGet findIn isFn makesIn emptyDict keepIn kia_one fnOf codeIn excIn nsIn mg_of mg_none_of)
namespace L2
open PySem PySem.Spec PyProof.Rows
theorem xp{M:Model}{Γ:PySem.Ctx}{p:Pos}{t:Sem Fin}{fs:List Frame}{s s':Shared}{e:End}(h:Runs M Γ p t fs s e s'):s.toks<=s'.toks:=by
 induction h
 case fresh ih=>exact aM (bp _) ih
 case call i1 i2=>exact aM i1 i2
 case resumeFresh i1 i2=>exact aM i1 i2
 case resumeSuspended i1 i2=>exact aM i1 i2
 case segRet i1 i2=>exact aM i1 i2
 case segGen i1 i2=>exact aM i1 i2
 case segSuspGen i1 i2=>exact aM i1 i2
 all_goals first|exact az _|assumption
theorem EA{M:Model}{Γ:PySem.Ctx}{p:Pos}{g:Nat}{r:Resume}{s s':Shared}{res:GenResult}(h:Wakes M Γ p g r s res s'):s.toks<=s'.toks:=by
 unfold Wakes at h
 split at h
 ·exact h.elim
 ·split at h
  ·obtain⟨e,s1,h1,_,_,rfl⟩:=h;have q:=xp h1;exact q
  ·rw[h.2];exact az _
  ·rw[h.2];exact az _
 ·obtain⟨e,s1,h1,_,_,rfl⟩:=h;have q:=xp h1;exact q
 ·rw[h.2];exact az _
 ·rw[h.2];exact az _
theorem Oc{α:Type}{M:Model}{Γ:PySem.Ctx}(n:Nat)(m:Sem α):∀{Q:α->Pos->Shared->Prop} {E:Value->Pos->Shared->Prop} {p:Pos} {s:Shared},n<=s.toks->Sem.wp M Γ m Q E p s ->
  Sem.wp M Γ m (fun a p' s'=>n<=s'.toks/\Q a p' s') (fun e p' s'=>n<=s'.toks/\E e p' s') p s:=by
 induction m
 all_goals intro Q E p s hn h
 all_goals (first|(rename_i ih)|skip)
 all_goals (try simp only[Sem.wp]at h ⊢)
 all_goals first
  |exact⟨hn,h⟩
  |exact ih _ hn h
  |exact ih _ (gT hn) h
  |(obtain⟨o,h1,h2⟩:=h;exact⟨o,h1,ih _ hn h2⟩)
  |exact⟨h.1,ih _ hn h.2⟩
  |(obtain⟨r,s',h1,h2⟩:=h;exact⟨r,s',h1,ih _ (aM hn (xp h1)) h2⟩)
  |(obtain⟨r,s',h1,h2⟩:=h;exact⟨r,s',h1,ih _ (aM hn (EA h1)) h2⟩)
theorem up{α:Type}{M:Model}{A:Around}{m:Sem α}{Q:α->Shared->Prop}{E:Value->Shared->Prop}{s:Shared}(h:wpAny M A m (fun a s'=>s.toks<=s'.toks->Q a s') (fun e s'=>s.toks<=s'.toks->E e s') s):wpAny M A m Q E s:=fun Γ p hΓ=>
 Sem.wp_mono M Γ m (fun a p' s' h'=>h'.2 h'.1) (fun e p' s' h'=>h'.2 h'.1) p s (Oc s.toks m (az _) (h Γ p hΓ))
end L2
namespace L2
variable{nk:Nat}
open PySem PySem.Spec PyProof.Rows
abbrev uy:=Sum Int Str
def JW:uy->Value->Bool
 |.inl k,v=>Value.isInt k v
 |.inr x,v=>Value.isStrOf x v
def Rx(w:World):uy->Int
 |.inl k=>hashInt k
 |.inr x=>hashStr w x
theorem fI:∀{k:uy} {v:Value},JW k v=true->(∃i t,k=Sum.inl i/\v=Value.int i t)\/(∃x t,k=Sum.inr x/\v=Value.str x t)
 |.inl i,v,h=>by
  obtain⟨t,e⟩:=Value.isInt_shape (k:=i) (v:=v) h
  exact .inl ⟨i,t,rfl,e⟩
 |.inr x,v,h=>by
  obtain⟨t,e⟩:=kB (x:=x) (v:=v) h
  exact .inr ⟨x,t,rfl,e⟩
theorem Lg(a b:Int):decide ((Sum.inl a:uy)=Sum.inl b)=(a==b):=by
 by_cases e:a=b
 ·subst e;simp
 ·have h:¬ (Sum.inl a:uy)=Sum.inl b:=fun q=>e (Sum.inl.inj q)
  rw[ba h]
  exact(bj.mpr e).symm
theorem Lh(a b:Str):decide ((Sum.inr a:uy)=Sum.inr b)=decide (a=b):=by
 by_cases e:a=b
 ·subst e;simp
 ·have h:¬ (Sum.inr a:uy)=Sum.inr b:=fun q=>e (Sum.inr.inj q)
  rw[ba h,ba e]
theorem Li(a:Int)(b:Str):decide ((Sum.inl a:uy)=Sum.inr b)=false:=ba (fun q=>nomatch q)
theorem Lj(a:Str)(b:Int):decide ((Sum.inr a:uy)=Sum.inl b)=false:=ba (fun q=>nomatch q)
def Cz(prog:Program)(w:World):PySem.KeyKind prog w uy where
 is:=JW
 hash:=Rx w
 inj:=fun v a b ha hb=>by
  rcases fI ha with⟨i,t,rfl,rfl⟩|⟨x,t,rfl,rfl⟩
  ·rcases fI hb with⟨j,u,rfl,e⟩|⟨y,u,rfl,e⟩
   ·injection e with e1 _;rw[e1]
   ·exact nomatch e
  ·rcases fI hb with⟨j,u,rfl,e⟩|⟨y,u,rfl,e⟩
   ·exact nomatch e
   ·injection e with e1 _;rw[e1]
 byValue:=fun k v h=>by
  rcases fI h with⟨i,t,rfl,rfl⟩|⟨x,t,rfl,rfl⟩<;>rfl
 pyHash:=fun hv h=>by
  rcases fI hv with⟨i,t,rfl,rfl⟩|⟨x,t,rfl,rfl⟩
  ·exact wpAny_pyHash_int h
  ·exact wpAny_pyHash_str h
 eqBool:=fun hu hv h=>by
  rcases fI hu with⟨i,t,rfl,rfl⟩|⟨x,t,rfl,rfl⟩
  ·rcases fI hv with⟨j,u,rfl,rfl⟩|⟨y,u,rfl,rfl⟩
   ·rw[Lg]at h;exact wpAny_eqBool_int h
   ·rw[Li]at h;exact SeqAt.EqAt.int_str i t y u _ _ _ _ h
  ·rcases fI hv with⟨j,u,rfl,rfl⟩|⟨y,u,rfl,rfl⟩
   ·rw[Lj]at h;exact SeqAt.EqAt.str_int x t j u _ _ _ _ h
   ·rw[Lh]at h;exact wpAny_eqBool_str h
 «strs»:=fun k x t v h=>by
  rcases fI h with⟨i,u,rfl,e⟩|⟨y,u,rfl,e⟩
  ·exact nomatch e
  ·injection e with e1 _
   subst e1
   cases v<;>rfl
end L2
namespace L2
variable{nk:Nat}
open PySem PySem.Spec PyProof.Rows
inductive V where
 |non|bl (b:Bool)|int (i:Int)|str (x:Str)|byt (b:Array UInt8)|flt (b:UInt64)|ref (a:Addr)|ty (n:String)
 deriving DecidableEq
def Tk(n:Nat)(x:Str):Type:={ t:Tok // x.length=1->0<t/\t<n }
instance {n:Nat} {x:Str}:CoeOut (Tk n x) Tok:=⟨fun t=>t.1⟩
def Tk.up{n n':Nat}{x:Str}(h:n<=n')(t:Tk n x):Tk n' x:=⟨t.1,fun e=>⟨(t.2 e).1,aQ (t.2 e).2 h⟩⟩
def c_(n:Nat):V->Value->Prop
 |.non,u=>u=Value.none
 |.bl b,u=>u=Value.bool b
 |.int i,u=>∃t,u=Value.int i t
 |.str x,u=>∃t:Tk n x,u=Value.str x t.1
 |.byt b,u=>∃t,u=Value.bytes b t
 |.flt b,u=>∃t,u=Value.float b t
 |.ref a,u=>u=Value.ref a
 |.ty n,u=>u=Value.type n
theorem c_.up{n n':Nat}(h:n<=n'){v:V}{u:Value}(r:c_ n v u):c_ n' v u:=by
 cases v with
 |str x=>obtain⟨t,e⟩:=r;exact⟨t.up h,e⟩
 |_=>exact r
abbrev cG(n:Nat):List V->List Value->Prop:=Paired (c_ n)
theorem cG.up{n n':Nat}(h:n<=n'):∀{xs:List V} {us:List Value},cG n xs us->cG n' xs us
 |_,_,.nil=>.nil
 |_,_,.cons r t=>.cons (r.up h) (cG.up h t)
theorem cG.length{xs:List V}{us:List Value}(r:cG nk xs us):xs.length=us.length:=Paired.length r
theorem cG.get:∀{xs:List V} {us:List Value} {i:Nat} {x:V},cG nk xs us->xs[i]?=some x->∃u,us[i]?=some u/\c_ nk x u
 |_,_,_,_,.nil,e=>by simp at e
 |_,_,0,_,.cons r _,e=>by simp at e;subst e;exact⟨_,rfl,r⟩
 |_,_,i+1,x,.cons _ t,e=>by
  obtain⟨u,h1,h2⟩:=cG.get (i:=i) (x:=x) t (by simpa using e)
  exact⟨u,by simpa using h1,h2⟩
theorem cG.set{x:V}{u:Value}(r:c_ nk x u):∀{xs:List V} {us:List Value} (i:Nat),cG nk xs us->cG nk (xs.set i x) (us.set i u)
 |_,_,_,.nil=>.nil
 |_,_,0,.cons _ t=>.cons r t
 |_,_,i+1,.cons q t=>.cons q (cG.set r i t)
theorem cG.append:∀{xs ys:List V} {us ws:List Value},cG nk xs us->cG nk ys ws->cG nk (xs++ys) (us++ws)
 |_,_,_,_,.nil,s=>s
 |_,_,_,_,.cons r t,s=>.cons r (cG.append t s)
theorem cG.take:∀{xs:List V} {us:List Value} (n:Nat),cG nk xs us->cG nk (xs.take n) (us.take n)
 |_,_,0,_=>.nil
 |_,_,_+1,.nil=>.nil
 |_,_,n+1,.cons r t=>.cons r (cG.take n t)
theorem cG.drop:∀{xs:List V} {us:List Value} (n:Nat),cG nk xs us->cG nk (xs.drop n) (us.drop n)
 |_,_,0,r=>r
 |_,_,_+1,.nil=>.nil
 |_,_,n+1,.cons _ t=>cG.drop n t
def rV(n:Nat):Option V->Option Value->Prop
 |some v,some u=>c_ n v u
 |none,none=>True
 |_,_=>False
theorem rV.up{n n':Nat}(h:n<=n'):∀{o:Option V} {u:Option Value},rV n o u->rV n' o u
 |some _,some _,r=>c_.up h r
 |none,none,_=>trivial
 |none,some _,r=>r
 |some _,none,r=>r
def KV{κ:Type}(n:Nat):List (κ×V)->List (κ×Value)->Prop:=Paired fun(p:κ×V) (q:κ×Value)=>p.1=q.1/\c_ n p.2 q.2
def kV:uy->V
 |.inl i=>.int i
 |.inr x=>.str x
inductive HO where
 /-- a list -/
 |lst (xs:List V)
 /-- a tuple (never changes) -/
 |tup (xs:List V)
 /-- a dict whose keys are ints and texts;one whose keys are tuples of ints and texts (the empty one is both) -/
 |dK (gk:List (uy×V))|dT (gk:List (List uy×V))
 /-- a set of ints: bF members,bF size -/
 |set (S:Int->Bool) (n:Nat)
 /-- an instance of the class at C,bF dict at dx,bF attributes -/
 |ins (C dx:Addr) (fs:List (Str×V))
 /-- the dict of the instance at x -/
 |own (x:Addr)
 /-- the dict of an exception -/
 |xd (fs:List (Str×V))
 /-- a bound method,f of x -/
 |met (f x:Addr)
 /-- a range object lo,lo+1,.. below hi -/
 |rng (lo hi:Int)
 /-- a thing that is known to the object (the script;a dict while a loop walks it): read,never written while it is so -/
 |frz (o:Obj) (u:HO)
 /-- a code object's table -/
 |tbl (ps:Array Value)
 /-- any other thing,by what is true of bF one object (a def of Tf own: SetO a S n:=HO.ext fun h=>..) -/
 |ext (φ:Heap->Prop)
abbrev Hp:=Addr->Option HO
def gf(H:Hp)(a:Addr)(o:HO):Hp:=fun b=>if b=a then some o else H b
theorem iA{H:Hp}{a:Addr}{o:HO}:gf H a o a=some o:=by unfold gf;rw[aJ rfl]
theorem cZ{H:Hp}{a b:Addr}{o:HO}(h:b≠a):gf H a o b=H b:=by unfold gf;rw[aV h]
theorem fg{H:Hp}{a b:Addr}{o:HO}(h:H a=some o)(h':H b=none):a≠b:=by
 intro e;subst e;rw[h]at h';cases h'
section
variable(P:Program)(w:World)
def gz(n:Nat)(H:Hp)(h:Heap)(a:Addr):HO->Prop
 |.lst xs=>xs.length<=sizeLine/\∃(bF:List Value) (m:Nat),cG n xs bF/\h.get? a=some { cls:=.type "list",data:=.seq bF.toArray m }
 |.tup xs=>xs.length<=sizeLine/\∃bF:List Value,cG n xs bF/\IsTup h a bF.toArray
 |.dK gk=>gk.length<=sizeLine/\(a==sysModules)=false/\∃vs,KV n gk vs/\h.DictOf (Cz P w) a vs
 |.dT gk=>gk.length<=sizeLine/\(a==sysModules)=false/\∃xs:List (List uy×Addr×Value),
   Paired (fun(p:List uy×V) (q:List uy×Addr×Value)=>p.1=q.1/\H q.2.1=some (.tup (p.1.map kV))/\c_ n p.2 q.2.2) gk xs /\
   ∃o es ep,h.get? a=some o/\o.ExactDict/\o.data=.dict es ep/\es.toList=xs.map (entryOfKey (tupleKind (Cz P w)))/\(xs.map (·.1)).Nodup
 |.set S m=>h.SetOf (intKind P w) a S m
 |.ins C dx fs=>H dx=some (.own a)/\fs.length<=1000/\dx≠a/\h.get? a=some (instObj C dx) /\
   ∃mA,h.Ns1 dx mA/\(∀f,rV n (fs.lookup f) (mA f))/\PySem.Within mA (fs.map (·.1))
 |.own _=>∃o,h.get? a=some o
 |.xd fs=>∃mA,h.Ns1 a mA/\∀f,rV n (fs.lookup f) (mA f)
 |.rng lo hi=>∃t u v,h.get? a=some { cls:=.type "range",data:=.fields #[.int lo t,.int hi u,.int 1 v] }
 |.frz o u=>h.get? a=some o/\gz n H h a u
 |.tbl ps=>h.get? a=some { cls:=.none,data:=.fields ps }
 |.met f x=>h.get? a=some (PySem.W.methodObj (.ref f) (.ref x))
 |.ext φ=>φ h/\(∃o,h.get? a=some o)/\∀h1 h2:Heap,φ h1->(∀o,h1.get? a=some o->h2.get? a=some o)->φ h2
def rR(n:Nat)(H:Hp)(h:Heap):Prop:=∀a o,H a=some o->gz P w n H h a o
end
section
variable{P:Program}{w:World}{H H':Hp}{h h':Heap}{a:Addr}{o:HO}
theorem gz.lt(x:gz P w nk H h a o):a<h.objs.size:=by
 cases o with
 |lst xs=>obtain⟨_,_,_,_,e⟩:=x;exact aI e
 |tup xs=>obtain⟨_,_,_,p⟩:=x;exact p.lt
 |dK gk=>obtain⟨_,_,_,_,o,_,_,e,_⟩:=x;exact aI e
 |dT gk=>obtain⟨_,_,_,_,o,_,_,e,_⟩:=x;exact aI e
 |set S n=>obtain⟨o,_,_,_,e,_⟩:=x;exact aI e
 |ins C dx fs=>obtain⟨_,_,_,e,_⟩:=x;exact aI e
 |own y=>obtain⟨_,e⟩:=x;exact aI e
 |xd fs=>obtain⟨_,⟨_,_,_,e,_⟩,_⟩:=x;exact aI e
 |rng lo hi=>obtain⟨_,_,_,e⟩:=x;exact aI e
 |frz ob u=>obtain⟨e,_⟩:=x;exact aI e
 |tbl ps=>exact aI (show h.get? a=some _ from x)
 |met f y=>exact aI (show h.get? a=some _ from x)
 |ext φ=>obtain⟨_,⟨_,e⟩,_⟩:=x;exact aI e
theorem Paired.mapP{α β:Type}{F G:α->β->Prop}:∀{l₁:List α} {l₂:List β},Paired F l₁ l₂->(∀a b,F a b->G a b)->Paired G l₁ l₂
 |_,_,.nil,_=>.nil
 |_,_,.cons r t,f=>.cons (f _ _ r) (Paired.mapP t f)
theorem Paired.imp'{α β:Type}{F G:α->β->Prop}(f:∀a b,F a b->G a b){l₁:List α}{l₂:List β}(r:Paired F l₁ l₂):Paired G l₁ l₂:=Paired.mapP r f
theorem gz.stay(x:gz P w nk H h a o)(k:∀b u,(b=a\/H b=some (.own a))->h.get? b=some u->h'.get? b=some u)
  (ho:∀b,H b=some (.own a)->H' b=some (.own a)) (ht:∀b xs,H b=some (.tup xs)->H' b=some (.tup xs)):gz P w nk H' h' a o:=by
 induction o with
 |lst xs=>obtain⟨z,bF,n,r,e⟩:=x;exact⟨z,bF,n,r,k _ _ (.inl rfl) e⟩
 |tup xs=>obtain⟨z,bF,r,ob,e,c⟩:=x;exact⟨z,bF,r,ob,k _ _ (.inl rfl) e,c⟩
 |dK gk=>obtain⟨z,y,vs,r,ob,es,ep,e,c⟩:=x;exact⟨z,y,vs,r,ob,es,ep,k _ _ (.inl rfl) e,c⟩
 |dT gk=>
  obtain⟨z,y,xs,r,ob,es,ep,e,c⟩:=x
  exact⟨z,y,xs,Paired.mapP r fun p q z=>⟨z.1,ht _ _ z.2.1,z.2.2⟩,ob,es,ep,k _ _ (.inl rfl) e,c⟩
 |set S n=>obtain⟨ob,es,ep,t,e,c⟩:=x;exact⟨ob,es,ep,t,k _ _ (.inl rfl) e,c⟩
 |ins C dx fs=>
  obtain⟨d,z,ne,e,mA,⟨od,es,ep,e2,c⟩,r⟩:=x
  exact⟨ho _ d,z,ne,k _ _ (.inl rfl) e,mA,⟨od,es,ep,k _ _ (.inr d) e2,c⟩,r⟩
 |own y=>obtain⟨ob,e⟩:=x;exact⟨ob,k _ _ (.inl rfl) e⟩
 |xd fs=>obtain⟨mA,⟨od,es,ep,e,c⟩,r⟩:=x;exact⟨mA,⟨od,es,ep,k _ _ (.inl rfl) e,c⟩,r⟩
 |rng lo hi=>obtain⟨t,u,v,e⟩:=x;exact⟨t,u,v,k _ _ (.inl rfl) e⟩
 |frz ob u ih=>obtain⟨e,q⟩:=x;exact⟨k _ _ (.inl rfl) e,ih q⟩
 |tbl ps=>
  have e:h.get? a=some { cls:=.none,data:=.fields ps }:=x
  show h'.get? a=some { cls:=.none,data:=.fields ps }
  exact k a _ (.inl rfl) e
 |met f y=>
  have e:h.get? a=some (PySem.W.methodObj (.ref f) (.ref y)):=x
  show h'.get? a=some (PySem.W.methodObj (.ref f) (.ref y))
  exact k a _ (.inl rfl) e
 |ext φ=>obtain⟨p,⟨o,e⟩,st⟩:=x;exact⟨st _ _ p fun o q=>k _ _ (.inl rfl) q,⟨o,k _ _ (.inl rfl) e⟩,st⟩
theorem Paired.upR{n n':Nat}(h:n<=n'){κ:Type}{l₁:List (κ×V)}{l₂:List (κ×Value)}(r:KV n l₁ l₂):KV n' l₁ l₂:=Paired.mapP r fun _ _ z=>⟨z.1,z.2.up h⟩
theorem gz.up{n':Nat}(hn:nk<=n')(x:gz P w nk H h a o):gz P w n' H h a o:=by
 induction o with
 |lst xs=>obtain⟨z,bF,n,r,e⟩:=x;exact⟨z,bF,n,r.up hn,e⟩
 |tup xs=>obtain⟨z,bF,r,ob⟩:=x;exact⟨z,bF,r.up hn,ob⟩
 |dK gk=>obtain⟨z,y,vs,r,ob⟩:=x;exact⟨z,y,vs,Paired.upR hn r,ob⟩
 |dT gk=>obtain⟨z,y,xs,r,ob⟩:=x;exact⟨z,y,xs,Paired.mapP r fun p q z=>⟨z.1,z.2.1,z.2.2.up hn⟩,ob⟩
 |ins C dx fs=>obtain⟨d,z,ne,e,mA,c,r,q⟩:=x;exact⟨d,z,ne,e,mA,c,fun f=>(r f).up hn,q⟩
 |xd fs=>obtain⟨mA,c,r⟩:=x;exact⟨mA,c,fun f=>(r f).up hn⟩
 |frz ob u ih=>obtain⟨e,q⟩:=x;exact⟨e,ih q⟩
 |_=>exact x
theorem rR.up{n':Nat}(hn:nk<=n')(x:rR P w nk H h):rR P w n' H h:=fun a o e=>(x a o e).up hn
theorem rR.lt(x:rR P w nk H h)(e:H a=some o):a<h.objs.size:=(x a o e).lt
theorem rR.fresh(x:rR P w nk H h)(e:h.objs.size<=a):H a=none:=by
 cases q:H a with
 |none=>rfl
 |some u=>exact absurd (aQ (x.lt q) e) (dz _)
theorem rR.kept(x:rR P w nk H h)(k:∀b u,h.get? b=some u->h'.get? b=some u):rR P w nk H h':=fun a o e=>
 (x a o e).stay (fun b u _ q=>k b u q) (fun _ q=>q) fun _ _ q=>q
theorem rR.laid(x:rR P w nk H h)(k:∀b u,h.get? b=some u->h'.get? b=some u)(hp:h.objs.size<=a)(new:gz P w nk (gf H a o) h' a o):rR P w nk (gf H a o) h':=fun b u e=>by
 have hn:=x.fresh hp
 by_cases hb:b=a
 ·subst hb;rw[iA]at e;cases e;exact new
 ·rw[cZ hb]at e
  exact(x b u e).stay (fun c v _ q=>k c v q) (fun c q=>by rw[cZ (fg q hn)];exact q) fun c xs q=>by rw[cZ (fg q hn)];exact q
end
def Rd(H:Hp)(a:Addr)(u:HO):Prop:=H a=some u\/∃o,H a=some (.frz o u)
theorem Rd.ok{P:Program}{w:World}{H:Hp}{h:Heap}{a:Addr}{u:HO}(r:Rd H a u)(x:rR P w nk H h):gz P w nk H h a u:=by
 rcases r with r|⟨o,r⟩
 ·exact x a u r
 ·obtain⟨_,q⟩:=x a _ r
  exact q
def Q4:Option HO->Prop
 |some (.lst _)=>True
 |some (.dK _)=>True
 |some (.dT _)=>True
 |some (.set _ _)=>True
 |some (.ins _ _ _)=>True
 |some (.ext _)=>True
 |_=>False
section
variable{P:Program}{w:World}{H:Hp}{h h':Heap}{x e:Addr}{o':HO}
theorem rR.write(ok:rR P w nk H h)(mu:Q4 (H x))(he:e=x\/H e=some (.own x))(k:∀b u,b≠e->h.get? b=some u->h'.get? b=some u)(Ob:∃u,h'.get? e=some u)
  (new:gz P w nk (gf H x o') h' x o'):rR P w nk (gf H x o') h':=fun b u q=>by
 have nown:∀c y,H c=some (.own y)->c≠x:=fun c y r z=>by subst z;rw[r]at mu;exact mu
 have ntup:∀c xs,H c=some (.tup xs)->c≠x:=fun c xs r z=>by subst z;rw[r]at mu;exact mu
 by_cases hb:b=x
 ·subst hb;rw[iA]at q;cases q;exact new
 ·rw[cZ hb]at q
  by_cases hbe:b=e
  ·have q':H b=some (.own x):=by
    rcases he with z|z
    ·exact absurd (hbe.trans z) hb
    ·rw[hbe];exact z
   rw[q]at q';cases q'
   obtain⟨v,hv⟩:=Ob
   exact⟨v,by rw[hbe];exact hv⟩
  ·refine(ok b u q).stay (fun c v hc r=>k c v ?_ r) (fun c r=>by rw[cZ (nown c b r)];exact r) fun c xs r=>by rw[cZ (ntup c xs r)];exact r
   rcases hc with rfl|hc
   ·exact hbe
   ·rintro rfl
    rcases he with z|z
    ·exact nown c b hc z
    ·rw[hc]at z;cases z;exact hb rfl
end
structure Un(fs ex:List Addr)(H H':Hp)(h h':Heap):Prop where
 keep:∀b o,h.get? b=some o->H b=none->b∉fs->b∉ex->h'.get? b=some o
 slot:∀b o,h.get? b=some o->H b=none->b∈fs->b∉ex->∃sl,h'.get? b=some { o with slots:=sl }
 free:∀b o,h.get? b=some o->H b=none->b∉ex->H' b=none
 there:∀b o,h.get? b=some o->b∉ex->∃o',h'.get? b=some o'
 tups:∀b xs,H b=some (.tup xs)->H' b=some (.tup xs)
 frzs:∀b o u,H b=some (.frz o u)->H' b=some (.frz o u)
 tbls:∀b ps,H b=some (.tbl ps)->∃more,H' b=some (.tbl (ps++more))
section
variable{fs QZ ex TM:List Addr}{H H1 H2:Hp}{h h1 h2 h':Heap}{a x e:Addr}{o:HO}
theorem Un.any(u:Un fs ex H H1 h h1){b:Addr}{ob:Obj}(q:h.get? b=some ob)(n:H b=none)(hx:b∉ex):∃sl,h1.get? b=some { ob with slots:=sl }:=by
 by_cases hb:b∈fs
 ·exact u.slot b ob q n hb hx
 ·exact⟨ob.slots,u.keep b ob q n hb hx⟩
theorem Un.kept(k:∀b u,h.get? b=some u->h'.get? b=some u):Un fs ex H H h h':=
 ⟨fun b ob q _ _ _=>k b ob q,fun b ob q _ _ _=>⟨ob.slots,k b ob q⟩,fun _ _ _ n _=>n,fun b ob q _=>⟨ob,k b ob q⟩,fun _ _ q=>q,fun _ _ _ q=>q,fun _ ps q=>⟨#[],by rw[q];simp⟩⟩
theorem Un.refl:Un fs ex H H h h:=Un.kept fun _ _ q=>q
theorem Un.laid(k:∀b u,h.get? b=some u->h'.get? b=some u)(hp:h.objs.size<=a)(hn:H a=none):Un fs ex H (gf H a o) h h' where
 keep:=fun b u q _ _ _=>k b u q
 slot:=fun b u q _ _ _=>⟨u.slots,k b u q⟩
 free:=fun b u q n _=>by rw[cZ (a7 (aQ (aI q) hp))];exact n
 there:=fun b u q _=>⟨u,k b u q⟩
 tups:=fun b xs q=>by rw[cZ (fg q hn)];exact q
 frzs:=fun b u xs q=>by rw[cZ (fg q hn)];exact q
 tbls:=fun b ps q=>⟨#[],by rw[cZ (fg q hn),q];simp⟩
theorem Un.write(mu:Q4 (H x))(he:e=x\/H e=some (.own x))(k:∀b u,b≠e->h.get? b=some u->h'.get? b=some u)(Ob:∃u,h'.get? e=some u):Un fs ex H (gf H x o) h h':=by
 have hx:∀b,H b=none->b≠x:=fun b n z=>by subst z;rw[n]at mu;exact mu
 have hb:∀b,H b=none->b≠e:=fun b n z=>by
  subst z
  rcases he with r|r
  ·exact hx b n r
  ·rw[n]at r;cases r
 have hm:∀b u,H b=some u->¬ Q4 (some u)->b≠x:=fun b u q nm z=>by subst z;rw[q]at mu;exact nm mu
 refine⟨fun b u q n _ _=>k b u (hb b n) q,fun b u q n _ _=>⟨u.slots,k b u (hb b n) q⟩,fun b u q n _=>by rw[cZ (hx b n)];exact n,fun b u q _=>?_,
  fun b xs q=>by rw[cZ (hm b _ q fun z=>z)];exact q,fun b u xs q=>by rw[cZ (hm b _ q fun z=>z)];exact q,fun b ps q=>⟨#[],by rw[cZ (hm b _ q fun z=>z),q];simp⟩⟩
 by_cases hbe:b=e
 ·subst hbe;exact Ob
 ·exact⟨u,k b u hbe q⟩
end
def Q5(h:Heap)(H:Hp):List Addr:=(List.range h.objs.size).filter fun a=>(H a).isSome
def xq(h:Heap)(H:Hp):Heap:=hideAll h (Q5 h H)
theorem Do(h:Heap)(H:Hp):(xq h H).objs.size=h.objs.size:=PySem.W.hideAll_size _ _
theorem EB{h:Heap}{H:Hp}{b:Addr}{o:Obj}(e:h.get? b=some o)(n:H b=none):(xq h H).get? b=some o:=
 PySem.W.hideAll_get _ e fun hm=>by
  have q:(H b).isSome=true:=(iJ.mp hm).2
  rw[n]at q;simp at q
theorem Ia{h:Heap}{H:Hp}{b:Addr}{o:Obj}(e:(xq h H).get? b=some o):h.get? b=some o/\H b=none:=by
 have e':h.get? b=some o:=PySem.W.of_hideAll (Q5 h H) e
 refine⟨e',?_⟩
 cases q:H b with
 |none=>rfl
 |some x=>
  have hm:b∈Q5 h H:=iJ.mpr ⟨kU.mpr (aI e'),by simp[q]⟩
  have z:(xq h H).get? b=none:=PySem.W.hideAll_none (Q5 h H) hm
  rw[z]at e;cases e
def Ib(g h:Heap)(L:Addr):List (Addr×Obj):=(List.range h.objs.size).filterMap fun a=>if a=L\/(g.get? a).isSome=true then none else(h.get? a).map fun o=>(a,o)
def gn(g h:Heap)(L d:Addr):List (Addr×Obj):=(Ib g h L).filter fun p=>decide (p.1≠d)
end L2
namespace L2
variable{nk:Nat}
open PySem PySem.Spec PyProof.Rows
structure Mod(K:Frag)(mg:Str->Option Value)(base:Heap):Prop where
 kin:K.In base
 glob:base.Ns mainGlobals mg
 blt:∃mb,base.Ns builtinsNs mb/\∀x:Str,x ≠ "__name__"->mb x=bootBuiltins x
 nolimit:base.NoLimit
structure Cx where
 prog:Program
 w:World
 K:Frag
 mg:Str->Option Value
 base:Heap
 A:Around
 N:List Str
 s₀:Shared
 H₀:Hp
 env:Env
 outer:List Env
 stack:List Env
 ex:List Addr
 fn:Str->Bool
 calm:Bool
 pn:List (Addr×Obj)
 xe:Value->Shared->Prop
def uf(l:List Env):List Addr:=l.filterMap (·.frame)
abbrev Cx.fs(X:Cx):List Addr:=uf X.outer
def Od(sc:Scope)(x:Str):Prop:=sc.names.lookup x=some .local\/sc.names.lookup x=some .cell\/sc.names.lookup x=some .free
def Ic(sc:Scope)(x:Str):Prop:=sc.names.lookup x=some .local\/sc.names.lookup x=some .cell
def Ry(env:Env)(h:Heap)(m:Str->Option Value)(x:Str)(u:Value):Prop:=
 (env.kindOf x=some .local/\m x=some u)\/((env.kindOf x=some .cell\/env.kindOf x=some .free)/\∃c,env.cells.lookup x=some c/\h.IsCell c (some u))
structure Cx.Ok(X:Cx):Prop where
 mod:Mod X.K X.mg X.base
 kind:X.env.scope.kind=.function
 glob:X.env.globals=mainGlobals
 blt:X.env.builtins=builtinsNs
 above:X.s₀.heap.objs.size<=X.env.locals
 inj:∀x y c,X.env.cells.lookup x=some c->X.env.cells.lookup y=some c->x=y
 has:∀x,(X.env.kindOf x=some .cell\/X.env.kindOf x=some .free)->∃c,X.env.cells.lookup x=some c
 cab:∀x c,X.fn x=true->X.env.cells.lookup x=some c->X.s₀.heap.objs.size<=c
 hd:X.calm=true->X.A.handled=none
 frames:X.A.frames=some X.stack
 stk:X.stack=X.outer\/(X.stack=X.env::X.outer/\X.env.frame=some X.env.locals)
 exf:∀b∈X.ex,b≠X.env.locals/\∀x c,X.env.cells.lookup x=some c->c≠b
 bs:∀b o,X.base.get? b=some o->X.s₀.heap.get? b=some o/\X.H₀ b=none
 bsz:X.base.objs.size<=X.s₀.heap.objs.size
 noex:∀b o,X.base.get? b=some o->b∉X.ex
 exfs:∀b∈X.ex,b∉X.fs
 funs:X.s₀.heap.FunFrames X.base X.outer
 frf:∀b∈X.fs,X.H₀ b=none
structure bU(X:Cx)(al:List (Addr×Obj))(σ:List (Option V))(H:Hp)(s:Shared):Prop where
 ok:X.Ok
 os:s.os=X.s₀.os
 bare:AllBare s.gens
 base:Un X.fs X.ex X.H₀ H X.s₀.heap s.heap
 loc:∃m,s.heap.Ns X.env.locals m/\∀(i:Nat) (x:Str) (v:V),X.N[i]?=some x->σ[i]?=some (some v)->Od X.env.scope x->∃u,c_ s.toks v u/\Ry X.env s.heap m x u
 cell:∀x c,X.env.cells.lookup x=some c->∃v,s.heap.IsCell c v
 free:H X.env.locals=none
 freeC:∀x c,X.env.cells.lookup x=some c->H c=none
 pin:∀p∈X.pn++al,s.heap.get? p.1=some p.2/\H p.1=none/\p.1≠X.env.locals/\p.1∉X.fs/\∀v,p.2.data≠.cell v
 hok:rR X.prog X.w s.toks H s.heap
 len:σ.length=X.N.length
 pos:0<s.toks
 tk:X.s₀.toks<=s.toks
section
variable{X:Cx}{al:List (Addr×Obj)}{σ:List (Option V)}{H H':Hp}{s:Shared}{h':Heap}
theorem Cx.Ok.nofr(ok:X.Ok){b:Addr}{o:Obj}(e:X.base.get? b=some o):b∉X.fs:=fun hb=>by
 have:=(ok.funs.mem hb).1
 rw[e]at this;cases this
theorem bU.bs(I:bU X al σ H s):∀b o,X.base.get? b=some o->s.heap.get? b=some o/\H b=none:=fun b o e=>
 ⟨I.base.keep b o (I.ok.bs b o e).1 (I.ok.bs b o e).2 (I.ok.nofr e) (I.ok.noex b o e),I.base.free b o (I.ok.bs b o e).1 (I.ok.bs b o e).2 (I.ok.noex b o e)⟩
theorem bU.bk(I:bU X al σ H s):∀b o,X.base.get? b=some o->s.heap.get? b=some o:=fun b o e=>(I.bs b o e).1
theorem bU.mod(I:bU X al σ H s):Mod X.K X.mg X.base:=I.ok.mod
theorem bU.kIn(I:bU X al σ H s):X.K.In s.heap:=I.ok.mod.kin.keeps I.bk
theorem bU.lt(I:bU X al σ H s):X.env.locals<s.heap.objs.size:=let ⟨_,hn,_⟩:=I.loc;hn.lt
theorem bU.sz(I:bU X al σ H s):X.s₀.heap.objs.size<=s.heap.objs.size:=aM I.ok.above (fL I.lt)
theorem bU.nofs(I:bU X al σ H s){a:Addr}(h:s.heap.objs.size<=a):a∉X.fs:=fun hb=>by
 obtain⟨_,o,ho,_⟩:=I.ok.funs.mem hb
 exact absurd (aQ (aI ho) (aM I.sz h)) (dz _)
theorem bU.cne(I:bU X al σ H s):∀x c,X.env.cells.lookup x=some c->c≠X.env.locals:=fun x c e z=>by
 obtain⟨v,o,ho,hd⟩:=I.cell x c e
 obtain⟨m,⟨o',es,ep,ho',hd',_⟩,_⟩:=I.loc
 rw[z,ho']at ho;cases ho;rw[hd']at hd;cases hd
theorem bU.funs(I:bU X al σ H s):s.heap.FunFrames X.base X.outer:=by
 have all:∀(l:List Env),(∀b∈uf l,b∈X.fs)->X.s₀.heap.FunFrames X.base l->s.heap.FunFrames X.base l:=by
  intro l
  induction l with
  |nil=>intro _ _;trivial
  |cons env r ih=>
   intro hs hl
   obtain⟨hk,⟨L,o,hf,hn,ho,hd⟩,hr⟩:=hl
   have hL:L∈X.fs:=hs L (by unfold uf;rw[fW,hf];exact bB)
   obtain⟨sl,e⟩:=I.base.slot L o ho (I.ok.frf L hL) hL fun z=>I.ok.exfs L z hL
   exact⟨hk,⟨L,_,hf,hn,e,hd⟩,ih (fun b hb=>hs b (by unfold uf;rw[fW,hf];exact aR _ hb)) hr⟩
 exact all X.outer (fun _ hb=>hb) I.ok.funs
theorem bU.stack(I:bU X al σ H s):s.heap.FunFrames X.base X.stack:=by
 rcases I.ok.stk with e|⟨e,hf⟩
 ·rw[e];exact I.funs
 ·rw[e]
  obtain⟨m,hn,_⟩:=I.loc
  refine .cons (by rw[I.ok.kind];decide) hf hn ?_ I.funs
  exact Heap.get?_none_of_le (aM I.ok.bsz I.ok.above)
theorem bU.stkSub(I:bU X al σ H s):∀b∈uf X.stack,b∈X.env.locals::X.fs:=fun b hb=>by
 rcases I.ok.stk with e|⟨e,hf⟩
 ·rw[e]at hb;exact aR _ hb
 ·rw[e]at hb
  unfold uf at hb
  rw[fW,hf]at hb
  exact hb
theorem bU.stkFree(I:bU X al σ H s):∀b∈uf X.stack,H b=none:=fun b hb=>by
 rcases aS.mp (I.stkSub b hb)with e|hb
 ·rw[e];exact I.free
 ·obtain⟨_,o,ho,_⟩:=I.ok.funs.mem hb
  exact I.base.free b o ho (I.ok.frf b hb) fun z=>I.ok.exfs b z hb
theorem bU.step{g':Array GenState}{t':Nat}{d':Drawn}{ch:List Addr}(I:bU X al σ H s)
  (Dl:∀b∈ch,(b∈X.ex\/X.s₀.heap.objs.size<=b)/\b≠X.env.locals/\(∀x c,X.env.cells.lookup x=some c->c≠b)/\∀p∈X.pn++al,p.1≠b)
  (keep:∀b o,b≠X.env.locals->b∉X.fs->b∉ch->s.heap.get? b=some o->H b=none->h'.get? b=some o)
  (slot:∀b o,b≠X.env.locals->b∈X.fs->b∉ch->s.heap.get? b=some o->H b=none->∃sl,h'.get? b=some { o with slots:=sl }) (free:∀b o,b∉ch->s.heap.get? b=some o->H b=none->H' b=none)
  (there:∀b o,b∉ch->s.heap.get? b=some o->∃o',h'.get? b=some o')
  (tups:∀b xs,H b=some (.tup xs)->H' b=some (.tup xs)) (frzs:∀b o u,H b=some (.frz o u)->H' b=some (.frz o u)) (tbls:∀b ps,H b=some (.tbl ps)->∃more,H' b=some (.tbl (ps++more)))
  (ns:∀m,s.heap.Ns X.env.locals m->h'.Ns X.env.locals m) (hok:rR X.prog X.w t' H' h') (hg:AllBare g') (hk:s.toks<=t') :
  bU X al σ H' { s with heap:=h',gens:=g',drawn:=d',toks:=t' }:=by
 have neL:∀b o,X.s₀.heap.get? b=some o->b≠X.env.locals:=fun b o e=>a7 (aQ (aI e) I.ok.above)
 have neC:∀b o,X.s₀.heap.get? b=some o->b∉X.ex->b∉ch:=fun b o e hx hb=>by
  rcases(Dl b hb).1 with z|z
  ·exact hx z
  ·exact absurd (aQ (aI e) z) (dz _)
 have cellK:∀x c,X.env.cells.lookup x=some c->∀v,s.heap.IsCell c v->h'.IsCell c v:=fun x c e v ⟨o,ho,hd⟩=>by
  have nch:c∉ch:=fun z=>(Dl c z).2.2.1 x c e rfl
  by_cases hc:c∈X.fs
  ·obtain⟨sl,q⟩:=slot c o (I.cne x c e) hc nch ho (I.freeC x c e)
   exact⟨_,q,hd⟩
  ·exact⟨o,keep c o (I.cne x c e) hc nch ho (I.freeC x c e),hd⟩
 refine⟨I.ok,I.os,hg,⟨fun b o e n hb hx=>?_,fun b o e n hb hx=>?_,fun b o e n hx=>?_,fun b o e hx=>?_,fun b xs e=>tups b xs (I.base.tups b xs e),fun b o xs e=>frzs b o xs (I.base.frzs b o xs e),fun b ps e=>?_⟩,?_,fun x c e=>?_,?_,fun x c e=>?_,fun p hp=>?_,hok,I.len,aQ I.pos hk,aM I.tk hk⟩
 ·exact keep b o (neL b o e) hb (neC b o e hx) (I.base.keep b o e n hb hx) (I.base.free b o e n hx)
 ·obtain⟨sl,e1⟩:=I.base.slot b o e n hb hx
  obtain⟨sl',e2⟩:=slot b _ (neL b o e) hb (neC b o e hx) e1 (I.base.free b o e n hx)
  exact⟨sl',e2⟩
 ·obtain⟨o',e1⟩:=I.base.there b o e hx
  exact free b o' (neC b o e hx) e1 (I.base.free b o e n hx)
 ·obtain⟨o',e1⟩:=I.base.there b o e hx
  exact there b o' (neC b o e hx) e1
 ·obtain⟨m1,e1⟩:=I.base.tbls b ps e
  obtain⟨m2,e2⟩:=tbls b _ e1
  exact⟨m1++m2,by rw[e2,Array.append_assoc]⟩
 ·obtain⟨m,hn,hl⟩:=I.loc
  refine⟨m,ns m hn,fun i x v e1 e2 e3=>?_⟩
  obtain⟨u,r,l⟩:=hl i x v e1 e2 e3
  refine⟨u,r.up hk,?_⟩
  rcases l with l|⟨k,c,e,z⟩
  ·exact .inl l
  ·exact .inr ⟨k,c,e,cellK x c e _ z⟩
 ·obtain⟨v,z⟩:=I.cell x c e
  exact⟨v,cellK x c e v z⟩
 ·obtain⟨m,⟨o,_,_,ho,_⟩,_⟩:=I.loc
  exact free _ o (fun z=>(Dl _ z).2.1 rfl) ho I.free
 ·obtain⟨v,o,ho,hd⟩:=I.cell x c e
  exact free c o (fun z=>(Dl c z).2.2.1 x c e rfl) ho (I.freeC x c e)
 ·obtain⟨e,n,ne,nf,d⟩:=I.pin p hp
  have nch:p.1∉ch:=fun z=>(Dl p.1 z).2.2.2 p hp rfl
  exact⟨keep p.1 p.2 ne nf nch e n,free p.1 p.2 nch e n,ne,nf,d⟩
theorem bU.un{t':Nat}(I:bU X al σ H s)(u:Un X.fs [] H H' s.heap h')(hok:rR X.prog X.w t' H' h')(hk:s.toks<=t':=by first|exact az _|exact bp _|assumption|omega):bU X al σ H' { s with heap:=h',toks:=t' }:=by
 obtain⟨m,⟨o,es,ep,ho,r⟩,_⟩:=id I.loc
 obtain⟨sl,hL⟩:=u.any ho I.free (by simp)
 exact I.step (g':=s.gens) (d':=s.drawn) (ch:=[]) (fun _ z=>nomatch z) (fun b o _ hb _ e n=>u.keep b o e n hb (by simp)) (fun b o _ hb _ e n=>u.slot b o e n hb (by simp)) (fun b o _ e n=>u.free b o e n (by simp)) (fun b o _ e=>u.there b o e (by simp)) u.tups u.frzs u.tbls (fun m' hm=>by
  obtain⟨o',es',ep',ho',r'⟩:=hm
  rw[ho]at ho';cases ho'
  exact⟨_,es',ep',hL,r'⟩) hok I.bare hk
theorem bU.call{g':Array GenState}{t':Nat}{d':Drawn}{ch:List Addr}(I:bU X al σ H s)(u:Un (uf X.stack) ch H H' s.heap h')(hok:rR X.prog X.w t' H' h')(hg:AllBare g')
  (Dl:∀b∈ch,(b∈X.ex\/X.s₀.heap.objs.size<=b)/\b≠X.env.locals/\(∀x c,X.env.cells.lookup x=some c->c≠b)/\∀p∈X.pn++al,p.1≠b) (hk:s.toks<=t') :
  bU X al σ H' { s with heap:=h',gens:=g',drawn:=d',toks:=t' }:=by
 obtain⟨m,⟨o,es,ep,ho,r⟩,_⟩:=id I.loc
 obtain⟨sl,hL⟩:=u.any ho I.free fun z=>(Dl _ z).2.1 rfl
 exact I.step (ch:=ch) Dl (fun b o hL hb hc e n=>u.keep b o e n (fun z=>(aS.mp (I.stkSub b z)).elim hL hb) hc) (fun b o _ _ hc e n=>u.any e n hc) (fun b o hc e n=>u.free b o e n hc) (fun b o hc e=>u.there b o e hc) u.tups u.frzs u.tbls (fun m' hm=>by
  obtain⟨o',es',ep',ho',r'⟩:=hm
  rw[ho]at ho';cases ho'
  exact⟨_,es',ep',hL,r'⟩) hok hg hk
theorem bU.turned{t':Nat}{it:Addr}(I:bU X al σ H s)(k:∀b o,b≠it->s.heap.get? b=some o->h'.get? b=some o)(hn:H it=none)(hL:it≠X.env.locals)
  (h1:it∈X.ex\/X.s₀.heap.objs.size<=it) (h2:∀x c,X.env.cells.lookup x=some c->c≠it) (h3:∀p∈X.pn++al,p.1≠it) (hk:s.toks<=t':=by first|exact az _|exact bp _|assumption|omega):bU X al σ H { s with heap:=h',toks:=t' }:=by
 have nit:∀b u,H b=some u->b≠it:=fun b u e z=>by rw[z,hn]at e;cases e
 refine I.step (g':=s.gens) (d':=s.drawn) (ch:=[it]) (fun b hb=>?_) (fun b o _ _ hc e _=>k b o (fun z=>hc (by simp[z])) e) (fun b o _ _ hc e _=>⟨o.slots,k b o (fun z=>hc (by simp[z])) e⟩) (fun _ _ _ _ n=>n)
  (fun b o hc e=>⟨o,k b o (fun z=>hc (by simp[z])) e⟩) (fun _ _ e=>e) (fun _ _ _ e=>e) (fun b ps e=>⟨#[],by rw[e];simp⟩) (fun m hm=>?_) (fun b u e=>?_) I.bare hk
 ·have e:b=it:=by simpa using hb
  subst e
  exact⟨h1,hL,h2,h3⟩
 ·obtain⟨o,es,ep,ho,r⟩:=hm
  exact⟨o,es,ep,k _ o (Ne.symm hL) ho,r⟩
 ·refine((I.hok b u e).up hk).stay (fun c v hc q=>k c v ?_ q) (fun _ q=>q) fun _ _ q=>q
  rcases hc with z|z
  ·rw[z];exact nit b u e
  ·exact nit c _ z
theorem bU.tok(I:bU X al σ H s)(t:Nat)(hk:s.toks<=t:=by first|exact az _|exact bp _|assumption|omega):bU X al σ H { s with toks:=t }:=I.un (h':=s.heap) (t':=t) Un.refl (I.hok.up hk) hk
theorem bU.kept{t':Nat}(I:bU X al σ H s)(k:∀b u,s.heap.get? b=some u->h'.get? b=some u)(hk:s.toks<=t':=by first|exact az _|exact bp _|assumption|omega):bU X al σ H { s with heap:=h',toks:=t' }:=I.un (Un.kept k) ((I.hok.kept k).up hk) hk
theorem bU.laid{a:Addr}{o:HO}{t':Nat}(I:bU X al σ H s)(k:∀b u,s.heap.get? b=some u->h'.get? b=some u)(hp:s.heap.objs.size<=a)(new:gz X.prog X.w t' (gf H a o) h' a o)(hk:s.toks<=t':=by first|exact az _|exact bp _|assumption|omega) :
  bU X al σ (gf H a o) { s with heap:=h',toks:=t' }:=I.un (Un.laid k hp (I.hok.fresh hp)) ((I.hok.up hk).laid k hp new) hk
theorem bU.write{x e:Addr}{o:HO}{t':Nat}(I:bU X al σ H s)(mu:Q4 (H x))(he:e=x\/H e=some (.own x))(k:∀b u,b≠e->s.heap.get? b=some u->h'.get? b=some u)(Ob:∃u,h'.get? e=some u)
  (new:gz X.prog X.w t' (gf H x o) h' x o) (hk:s.toks<=t':=by first|exact az _|exact bp _|assumption|omega):bU X al σ (gf H x o) { s with heap:=h',toks:=t' }:=I.un (Un.write mu he k Ob) ((I.hok.up hk).write mu he k Ob new) hk
theorem bU.pins_of{pins':List (Addr×Obj)}(I:bU X al σ H s)(h:∀p∈pins',s.heap.get? p.1=some p.2/\H p.1=none/\p.1≠X.env.locals/\p.1∉X.fs/\∀v,p.2.data≠.cell v):bU X pins' σ H s:=
 ⟨I.ok,I.os,I.bare,I.base,I.loc,I.cell,I.free,I.freeC,fun p hp=>(aU.mp hp).elim (fun z=>I.pin p (bX _ z)) (h p),I.hok,I.len,I.pos,I.tk⟩
theorem yX{N:List Str}(hN:N.Nodup){i j:Nat}{x:Str}(a:N[i]?=some x)(b:N[j]?=some x):i=j:=by
 obtain⟨h1,e1⟩:=ar.mp a
 obtain⟨h2,e2⟩:=ar.mp b
 exact(List.getElem_inj hN).mp (e1.trans e2.symm)
theorem Dp{M:Model}{A:Around}{E:Value->Shared->Prop}{i:Nat}{x:Str}{v:V}{u:Value}{Q:Unit->Shared->Prop}(I:bU X al σ H s)(hN:X.N.Nodup)(hi:X.N[i]?=some x)(hx:Ic X.env.scope x)(r:c_ s.toks v u)
  (h:∀s',bU X al (σ.set i (some v)) H s'->(∃a,Heap.SameBut a s.heap s'.heap/\(a=X.env.locals\/X.env.cells.lookup x=some a))->Q () s') (hf:X.fn x=true\/X.env.scope.names.lookup x=some .local:=by first|exact .inl rfl|exact .inr rfl|assumption):wpAny M A (storeName X.env x u) Q E s:=by
 obtain⟨m,hn,hl⟩:=id I.loc
 have hcls:(X.env.scope.kind==.class||(X.env.scope.kind==.module&&X.env.locals != X.env.globals))=false:=by rw[I.ok.kind];rfl
 have hiσ:i<σ.length:=by rw[I.len];exact(ar.mp hi).1
 have cne:=I.cne
 have tracked:∀{a:Addr} {h':Heap},(∃o,s.heap.get? a=some o/\H a=none)->Heap.SameBut a s.heap h'->rR X.prog X.w s.toks H h':=fun{a h'} ha hs b ob e=>by
  obtain⟨_,_,hfree⟩:=ha
  refine(I.hok b ob e).stay (fun c w' hc q=>(hs.2 c ?_).trans q) (fun _ q=>q) fun _ _ q=>q
  rintro rfl
  rcases hc with rfl|hc
  ·rw[hfree]at e;cases e
  ·rw[hfree]at hc;cases hc
 rcases hx with hk|hk
 ·refine nS hk hn (fun h' hn' hs=>?_) hcls
  obtain⟨oL,_,_,hoL,_⟩:=id hn
  refine h { s with heap:=h',toks:=s.toks+1 } ⟨I.ok,I.os,I.bare,⟨fun b o e n hb hx=>?_,fun b o e n hb hx=>?_,I.base.free,fun b o e hx=>?_,I.base.tups,I.base.frzs,I.base.tbls⟩,⟨_,hn',fun j y v' e1 e2 e3=>?_⟩,fun y c e=>?_,I.free,I.freeC,fun p hp=>?_,(tracked ⟨oL,hoL,I.free⟩ hs).up (bp _),by simpa using I.len,Nat.succ_pos _,gT I.tk⟩ ⟨_,hs,.inl rfl⟩
  ·exact(hs.2 b (a7 (aQ (aI e) I.ok.above))).trans (I.base.keep b o e n hb hx)
  ·obtain⟨sl,e1⟩:=I.base.slot b o e n hb hx
   exact⟨sl,(hs.2 b (a7 (aQ (aI e) I.ok.above))).trans e1⟩
  ·obtain⟨o',e1⟩:=I.base.there b o e hx
   exact⟨o',(hs.2 b (a7 (aQ (aI e) I.ok.above))).trans e1⟩
  ·by_cases hj:j=i
   ·subst hj
    rw[hi]at e1;cases e1
    rw[cb hiσ]at e2
    cases e2
    exact⟨u,r.up (bp _),.inl ⟨hk,by simp⟩⟩
   ·rw[cN (Ne.symm hj)]at e2
    obtain⟨u',r',q⟩:=hl j y v' e1 e2 e3
    refine⟨u',r'.up (bp _),?_⟩
    rcases q with⟨k,e⟩|⟨k,c,e,z⟩
    ·refine .inl ⟨k,?_⟩
     have:y≠x:=fun e=>hj (yX hN e1 (e▸hi))
     simp[this,e]
    ·exact .inr ⟨k,c,e,z.sameBut hs (cne y c e)⟩
  ·obtain⟨w',z⟩:=I.cell y c e
   exact⟨w',z.sameBut hs (cne y c e)⟩
  ·obtain⟨e,n,ne,nf,d⟩:=I.pin p hp
   exact⟨(hs.2 p.1 ne).trans e,n,ne,nf,d⟩
 ·have hfn:X.fn x=true:=by
   rcases hf with z|z
   ·exact z
   ·rw[z]at hk;cases hk
  obtain⟨c,hc⟩:=I.ok.has x (.inl hk)
  obtain⟨w',z⟩:=I.cell x c hc
  refine wpAny_storeName_cell I.ok.kind hk hc z (fun h' hc' hs=>?_)
  obtain⟨oc,hoc,hocd⟩:=id z
  refine h { s with heap:=h' } ⟨I.ok,I.os,I.bare,⟨fun b o e n hb hx=>?_,fun b o e n hb hx=>?_,I.base.free,fun b o e hx=>?_,I.base.tups,I.base.frzs,I.base.tbls⟩,⟨m,hn.sameBut hs (Ne.symm (cne x c hc)),fun j y v' e1 e2 e3=>?_⟩,fun y c' e=>?_,I.free,I.freeC,fun p hp=>?_,tracked ⟨oc,hoc,I.freeC x c hc⟩ hs,by simpa using I.len,I.pos,I.tk⟩ ⟨c,hs,.inr hc⟩
  ·exact(hs.2 b (a7 (aQ (aI e) (I.ok.cab x c hfn hc)))).trans (I.base.keep b o e n hb hx)
  ·obtain⟨sl,e1⟩:=I.base.slot b o e n hb hx
   exact⟨sl,(hs.2 b (a7 (aQ (aI e) (I.ok.cab x c hfn hc)))).trans e1⟩
  ·obtain⟨o',e1⟩:=I.base.there b o e hx
   exact⟨o',(hs.2 b (a7 (aQ (aI e) (I.ok.cab x c hfn hc)))).trans e1⟩
  ·by_cases hj:j=i
   ·subst hj
    rw[hi]at e1;cases e1
    rw[cb hiσ]at e2
    cases e2
    exact⟨u,r,.inr ⟨.inl hk,c,hc,hc'⟩⟩
   ·rw[cN (Ne.symm hj)]at e2
    obtain⟨u',r',q⟩:=hl j y v' e1 e2 e3
    refine⟨u',r',?_⟩
    rcases q with q|⟨k,c',e,z'⟩
    ·exact .inl q
    ·refine .inr ⟨k,c',e,z'.sameBut hs ?_⟩
     rintro rfl
     exact hj (yX hN e1 (I.ok.inj _ _ _ e hc▸hi))
  ·by_cases hcc:c'=c
   ·subst hcc;exact⟨_,hc'⟩
   ·obtain⟨w2,z2⟩:=I.cell y c' e
    exact⟨w2,z2.sameBut hs hcc⟩
  ·obtain⟨e,n,ne,nf,d⟩:=I.pin p hp
   refine⟨(hs.2 p.1 ?_).trans e,n,ne,nf,d⟩
   intro q
   rw[q,hoc]at e
   have q':oc=p.2:=bx e
   exact d w' (by rw[<- q'];exact hocd)
theorem yY{M:Model}{A:Around}{E:Value->Shared->Prop}{i:Nat}{x:Str}{v:V}{u:Value}{Q:Unit->Shared->Prop}(I:bU X al σ H s)(hN:X.N.Nodup)(hi:X.N[i]?=some x)(hx:Ic X.env.scope x)(r:c_ s.toks v u)
  (h:∀s',bU X al (σ.set i (some v)) H s'->Q () s') (hf:X.fn x=true\/X.env.scope.names.lookup x=some .local:=by first|exact .inl rfl|exact .inr rfl|assumption):wpAny M A (storeName X.env x u) Q E s:=
 Dp I hN hi hx r (fun s' I' _=>h s' I') hf
theorem bU.call'{s':Shared}{ch:List Addr}(I:bU X al σ H s)(ho:s'.os=s.os)(u:Un (uf X.stack) ch H H' s.heap s'.heap)(hok:rR X.prog X.w s'.toks H' s'.heap)(hg:AllBare s'.gens)
  (Dl:∀b∈ch,(b∈X.ex\/X.s₀.heap.objs.size<=b)/\b≠X.env.locals/\(∀x c,X.env.cells.lookup x=some c->c≠b)/\∀p∈X.pn++al,p.1≠b) (hk:s.toks<=s'.toks):bU X al σ H' s':=by
 obtain⟨h',g',d',t',o'⟩:=s'
 have e:o'=s.os:=ho
 subst e
 exact I.call (g':=g') (t':=t') (d':=d') u hok hg Dl hk
end
abbrev XK:=Value->Option Addr->Hp->Prop
abbrev St:=List (Option V)
abbrev VK:=V->Hp->Prop
abbrev TE:=St->Hp->VK->Prop
abbrev TT:=St->Hp->(Bool->Hp->Prop)->Prop
abbrev TA:=St->Hp->(List V->Hp->Prop)->Prop
structure xr where
 nx:St->Hp->Prop
 rt:VK
 bk:St->Hp->Prop:=fun _ _=>False
 ct:St->Hp->Prop:=fun _ _=>False
abbrev TS:=xr->St->Hp->Prop
def EP(X:Cx)(al:List (Addr×Obj))(σ:St)(Q:VK)(u:Value)(s':Shared):Prop:=∃v H',bU X al σ H' s'/\c_ s'.toks v u/\Q v H'
def TP(X:Cx)(al:List (Addr×Obj))(σ:St)(Q:Bool->Hp->Prop)(b:Bool)(s':Shared):Prop:=∃H',bU X al σ H' s'/\Q b H'
def AP(X:Cx)(al:List (Addr×Obj))(σ:St)(Q:List V->Hp->Prop)(us:List Value)(s':Shared):Prop:=∃vs H',bU X al σ H' s'/\cG s'.toks vs us/\Q vs H'
def SP(X:Cx)(al:List (Addr×Obj))(D:xr)(f:Flow)(s':Shared):Prop:=
 match f with
 |.next=>∃σ' H',bU X al σ' H' s'/\D.nx σ' H'
 |.brk=>∃σ' H',bU X al σ' H' s'/\D.bk σ' H'
 |.cont=>∃σ' H',bU X al σ' H' s'/\D.ct σ' H'
 |.ret u=>∃v σ' H',bU X al σ' H' s'/\c_ s'.toks v u/\D.rt v H'
def PE(X:Cx)(e:Expr)(t:TE):Prop:=
 ∀(al:List (Addr×Obj)) (s:Shared) (σ:St) (H:Hp) (Q:VK),bU X al σ H s->t σ H Q->wpAny (model X.prog X.w) X.A (eval e X.env) (EP X al σ Q) X.xe s
def PT(X:Cx)(e:Expr)(t:TT):Prop:=
 ∀(al:List (Addr×Obj)) (s:Shared) (σ:St) (H:Hp) (Q:Bool->Hp->Prop),bU X al σ H s->t σ H Q->wpAny (model X.prog X.w) X.A (isTrue e X.env (eval e X.env)) (TP X al σ Q) X.xe s
def PW(X:Cx)(e:Expr)(t:TT):Prop:=
 ∀(whole:Sem Value) (al:List (Addr×Obj)) (s:Shared) (σ:St) (H:Hp) (Q:Bool->Hp->Prop),bU X al σ H s->t σ H Q->wpAny (model X.prog X.w) X.A (isTrue e X.env whole) (TP X al σ Q) X.xe s
theorem PW.pt{X:Cx}{e:Expr}{t:TT}(h:PW X e t):PT X e t:=h _
def PA(X:Cx)(es:List Expr)(t:TA):Prop:=
 ∀(pos:Pos) (al:List (Addr×Obj)) (s:Shared) (σ:St) (H:Hp) (Q:List V->Hp->Prop),bU X al σ H s->t σ H Q->wpAny (model X.prog X.w) X.A (spliced (backTo pos (starEach es X.env))) (AP X al σ Q) X.xe s
def PS(X:Cx)(st:Stmt)(t:TS):Prop:=
 ∀(al:List (Addr×Obj)) (s:Shared) (σ:St) (H:Hp) (D:xr),bU X al σ H s->t D σ H->wpAny (model X.prog X.w) X.A (exec st X.env) (SP X al D) X.xe s
def Dq(X:Cx)(st:List Stmt)(t:TS):Prop:=
 ∀(al:List (Addr×Obj)) (s:Shared) (σ:St) (H:Hp) (D:xr),bU X al σ H s->t D σ H->wpAny (model X.prog X.w) X.A (execs st X.env) (SP X al D) X.xe s
theorem jq{α:Type}{t:Sem α}{Q Q':α->Shared->Prop}{M:Model}{A:Around}{E:Value->Shared->Prop}{s:Shared}(h:wpAny M A t Q E s)(hQ:∀a s',s.toks<=s'.toks->Q a s'->Q' a s'):wpAny M A t Q' E s:=
 up (kW h (fun a s' q k=>hQ a s' k q) fun _ _ x _=>x)
theorem AW{α:Type}{t:Sem α}{Q Q':α->Shared->Prop}{M:Model}{A:Around}{E:Value->Shared->Prop}{s:Shared}(h:wpAny M A t Q E s)(hQ:∀a s,Q a s->Q' a s):wpAny M A t Q' E s:=kW h hQ fun _ _ x=>x
end L2
namespace L2
variable{nk:Nat}
open PySem PySem.Spec PyProof.Rows
section
variable{X:Cx}
def Oe(i:Nat):TE:=fun σ H Q=>∃v,σ[i]?=some (some v)/\Q v H
def tC(v:V):TE:=fun _ H Q=>Q v H
theorem Lk{i:Nat}{x:Str}{pos:Pos}(hN:X.N[i]?=some x)(hv:Od X.env.scope x)(hd:(x==("__debug__":Str))=false:=by decide)(Eu:(x==("__classdict__":Str))=false:=by decide):PE X (.Name x pos) (Oe i):=by
 intro al s σ H Q I h
 obtain⟨v,e,h⟩:=h
 obtain⟨m,hn,hl⟩:=I.loc
 obtain⟨u,r,l⟩:=hl i x v hN e hv
 have kA:EP X al σ Q u s:=⟨v,H,I,r,h⟩
 rcases l with⟨hk,hm⟩|⟨hk,c,hc,gR⟩
 ·exact wpAny_Name (wpAny_loadName_local I.ok.kind hk hn hm kA) hd
 ·rcases hk with hk|hk
  ·exact wpAny_Name (wpAny_loadName_cell I.ok.kind hk hc gR kA) hd
  ·exact wpAny_Name (wpAny_loadName_free I.ok.kind hk hc gR kA Eu) hd
theorem Ll{i j pos}:PE X (.Constant (.int i) j pos) (tC (.int i)):=fun _ _ _ H _ I h=>wpAny_Constant_int ⟨.int i,H,I.tok _,⟨_,rfl⟩,h⟩
theorem Of{b j pos}:PE X (.Constant (.bool b) j pos) (tC (.bl b)):=fun _ _ _ H _ I h=>Constant_bool ⟨.bl b,H,I,rfl,h⟩
theorem Lm{j pos}:PE X (.Constant .none j pos) (tC .non):=fun _ _ _ H _ I h=>pV ⟨.non,H,I,rfl,h⟩
theorem bU.tkS{al:List (Addr×Obj)}{σ:St}{H:Hp}{s:Shared}{x:Str}(I:bU X al σ H s):c_ (s.toks+1) (.str x) (.str x s.toks):=⟨⟨s.toks,fun _=>⟨I.pos,bZ _⟩⟩,rfl⟩
theorem Ln{x j pos}:PE X (.Constant (.str x) j pos) (tC (.str x)):=fun _ _ _ H _ I h=>Calls.Constant_str ⟨.str x,H,I.tok _,I.tkS,h⟩
def Gl(X:Cx)(x:Str):Prop:=X.env.kindOf x=some .globalImplicit
theorem ug{E:Value->Shared->Prop}{al:List (Addr×Obj)}{s:Shared}{σ:St}{H:Hp}{x:Str}{u:Value}{pos:Pos}{Q:Value->Shared->Prop}(I:bU X al σ H s)(hg:Gl X x)(hm:X.mg x=some u)(h:Q u s)
  (hd:(x==("__debug__":Str))=false:=by decide):wpAny (model X.prog X.w) X.A (eval (.Name x pos) X.env) Q E s:=
 kX I.ok.kind hg (Calls.loadGlobal_global (by rw[I.ok.glob];exact I.mod.glob.keeps I.bk) hm h) hd
theorem n6{E:Value->Shared->Prop}{al:List (Addr×Obj)}{s:Shared}{σ:St}{H:Hp}{x:Str}{u:Value}{pos:Pos}{Q:Value->Shared->Prop}(I:bU X al σ H s)(hg:Gl X x)(hm:X.mg x=none)(hv:bootBuiltins x=some u)(h:Q u s)
  (hn:x ≠ "__name__":=by decide) (hd:(x==("__debug__":Str))=false:=by decide):wpAny (model X.prog X.w) X.A (eval (.Name x pos) X.env) Q E s:=by
 obtain⟨mb,h1,h2⟩:=I.mod.blt
 exact kX I.ok.kind hg (Calls.loadGlobal_builtin (by rw[I.ok.glob];exact I.mod.glob.keeps I.bk) hm (by rw[I.ok.blt];exact h1.keeps I.bk) ((h2 x hn).trans hv) h) hd
theorem Ie{x:Str}{v:V}{u:Value}{pos:Pos}(hg:Gl X x)(hm:X.mg x=some u)(r:c_ 0 v u)(hd:(x==("__debug__":Str))=false:=by decide):PE X (.Name x pos) (tC v):=
 fun _ _ _ H _ I h=>ug I hg hm ⟨v,H,I,r.up (ce _),h⟩ hd
theorem Ig{x:Str}{v:V}{u:Value}{pos:Pos}(hg:Gl X x)(hm:X.mg x=none)(hv:bootBuiltins x=some u)(r:c_ 0 v u)(hn:x ≠ "__name__":=by decide)(hd:(x==("__debug__":Str))=false:=by decide):PE X (.Name x pos) (tC v):=
 fun _ _ _ H _ I h=>n6 I hg hm hv ⟨v,H,I,r.up (ce _),h⟩ hn hd
variable{a b:Expr}{ta tb:TE}{pos:Pos}
def PC(X:Cx)(op:CmpOp)(a b:Expr)(t:TE):Prop:=
 ∀(al:List (Addr×Obj)) (s:Shared) (σ:St) (H:Hp) (Q:VK),bU X al σ H s->t σ H Q ->
  wpAny (model X.prog X.w) X.A (eval a X.env) (fun v s₁=>wpAny (model X.prog X.w) X.A (eval b X.env) (fun u s₂=>wpAny (model X.prog X.w) X.A (compareOp op v u) (EP X al σ Q) X.xe s₂) X.xe s₁) X.xe s
theorem yZ(b:Expr){op:CmpOp}(h:op≠.In)(h2:op≠.NotIn):behindInMarks op b=false:=by
 have e1:(op==CmpOp.In)=false:=by cases op<;>first|rfl|exact absurd rfl h
 have e2:(op==CmpOp.NotIn)=false:=by cases op<;>first|rfl|exact absurd rfl h2
 cases b<;>simp[behindInMarks,e1,e2]
def Og(ta:TE):TE:=fun σ H Q=>ta σ H fun x H1=>Q (.bl (decide (x=.non))) H1
def JX(ta:TE):TE:=fun σ H Q=>ta σ H fun x H1=>Q (.bl (!decide (x=.non))) H1
theorem c_.none_iff{x:V}{v:Value}(r:c_ nk x v):(v==Value.none)=decide (x=.non):=by
 cases x with
 |non=>cases r;rfl
 |bl _=>cases r;rfl
 |int _=>obtain⟨t,rfl⟩:=r;rfl
 |str _=>obtain⟨t,rfl⟩:=r;rfl
 |byt _=>obtain⟨t,rfl⟩:=r;rfl
 |flt _=>obtain⟨t,rfl⟩:=r;rfl
 |ref _=>cases r;rfl
 |ty _=>cases r;rfl
theorem EC{j ie}(ha:PE X a ta):PC X .Is a (.Constant .none j ie) (Og ta):=by
 intro al s σ H Q I h
 refine jq (ha al s σ H _ I h) fun v s1 kt1 ⟨x,H1,I1,r1,q1⟩=>?_
 exact pV (is_none_gen ⟨.bl _,H1,I1,by rw[r1.none_iff];rfl,q1⟩)
theorem Ih{j ie}(ha:PE X a ta):PC X .IsNot a (.Constant .none j ie) (JX ta):=by
 intro al s σ H Q I h
 refine jq (ha al s σ H _ I h) fun v s1 kt1 ⟨x,H1,I1,r1,q1⟩=>?_
 exact pV (isnot_none_gen ⟨.bl _,H1,I1,by rw[r1.none_iff];rfl,q1⟩)
def tB(t:TE):TT:=fun σ H Q=>t σ H fun x H1=>∃c,x=.bl c/\Q c H1
theorem Lo{op:CmpOp}{t:TE}(h:PC X op a b t)(h1:behindInMarks op b=false:=by first|exact yZ _ (by decide) (by decide)|rfl):PE X (.Compare a [op] [b] pos) t:=fun al s σ H Q I hw=>wpAny_Compare1 (h al s σ H Q I hw) h1
theorem ED{op:CmpOp}{t:TE}(h:PC X op a b t)(h1:behindInMarks op b=false:=by first|exact yZ _ (by decide) (by decide)|rfl):PT X (.Compare a [op] [b] pos) (tB t):=by
 intro al s σ H Q I hw
 refine nT (AW (h al s σ H _ I hw) fun v s1 h1=>AW h1 fun u s2 h2=>AW h2 fun c s3 ⟨x,H1,I1,r1,q1⟩=>?_) h1
 obtain⟨d,rfl,q⟩:=q1
 cases r1
 exact gU ⟨H1,I1,q⟩
theorem Lp{e:Expr}{t:TE}(h:PE X e t)(he:∀whole,isTrue e X.env whole=(do let v <- whole;standAt e.pos;holding [v] (truthy v)):=by intro _;rfl):PT X e (tB t):=by
 intro al s σ H Q I hw
 refine isTrue_plain (jq (h al s σ H _ I hw) fun v s1 kt1 ⟨x,H1,I1,r1,q1⟩=>?_) (he _)
 obtain⟨d,rfl,q⟩:=q1
 cases r1
 exact gU ⟨H1,I1,q⟩
variable{tA QL:TT}{gn:List Expr}
def Rz(t u:TT):TT:=fun σ H Q=>t σ H fun c H1=>if c=true then u σ H1 Q else Q false H1
def Tj(t u:TT):TT:=fun σ H Q=>t σ H fun c H1=>if c=true then Q true H1 else u σ H1 Q
def RA(t:TT):TT:=fun σ H Q=>t σ H fun c H1=>Q (!c) H1
theorem Ii(ha:PT X a tA):PW X (.BoolOp .And [a] pos) tA:=by
 intro wh al s σ H Q I h
 refine isTrue_and (AW (ha al s σ H Q I h) fun c s1 e=>?_)
 cases c with
 |true=>exact isTrue_and_nil e
 |false=>exact e
theorem Lq(ha:PT X a tA):PW X (.BoolOp .Or [a] pos) tA:=by
 intro wh al s σ H Q I h
 refine isTrue_or (AW (ha al s σ H Q I h) fun c s1 e=>?_)
 cases c with
 |false=>exact isTrue_or_nil e
 |true=>exact e
theorem Lr(ha:PT X a tA)(hb:PW X (.BoolOp .And (b::gn) pos) QL):PW X (.BoolOp .And (a::b::gn) pos) (Rz tA QL):=by
 intro wh al s σ H Q I h
 refine isTrue_and (jq (ha al s σ H _ I h) fun c s1 kt1 ⟨H1,I1,q1⟩=>?_)
 cases c with
 |true=>exact hb wh al s1 σ H1 Q I1 q1
 |false=>exact⟨H1,I1,q1⟩
theorem Oh(ha:PT X a tA)(hb:PW X (.BoolOp .Or (b::gn) pos) QL):PW X (.BoolOp .Or (a::b::gn) pos) (Tj tA QL):=by
 intro wh al s σ H Q I h
 refine isTrue_or (jq (ha al s σ H _ I h) fun c s1 kt1 ⟨H1,I1,q1⟩=>?_)
 cases c with
 |true=>exact⟨H1,I1,q1⟩
 |false=>exact hb wh al s1 σ H1 Q I1 q1
theorem Ls(ha:PT X a tA):PT X (.UnaryOp .Not a pos) (RA tA):=by
 intro al s σ H Q I h
 exact isTrue_not (ha al s σ H (fun c H1=>Q (!c) H1) I h)
def Oi(ta tb:TE):TE:=fun σ H Q=>ta σ H fun x H1=>∃c,x=.bl c/\if c=true then tb σ H1 Q else Q (.bl false) H1
def Oj(ta:TE):TE:=fun σ H Q=>ta σ H fun x H1=>∃c,x=.bl c/\Q (.bl (!c)) H1
theorem Lu{op}{t:TE}(h:PE X a t):PE X (.BoolOp op [a] pos) t:=fun al s σ H Q I hw=>BoolOp_one (h al s σ H Q I hw)
theorem Lw(ha:PE X a ta)(hb:PE X (.BoolOp .And (b::gn) pos) tb):PE X (.BoolOp .And (a::b::gn) pos) (Oi ta tb):=by
 intro al s σ H Q I h
 refine BoolOp_and (jq (ha al s σ H _ I h) fun v s1 kt1 ⟨x,H1,I1,r1,q1⟩=>?_)
 obtain⟨c,rfl,q1⟩:=q1
 cases r1
 refine gU ?_
 cases c with
 |true=>exact hb al s1 σ H1 Q I1 q1
 |false=>exact⟨.bl false,H1,I1,rfl,q1⟩
theorem Lx(ha:PE X a ta):PE X (.UnaryOp .Not a pos) (Oj ta):=by
 intro al s σ H Q I h
 refine UnaryOp_ (jq (ha al s σ H _ I h) fun v s1 kt1 ⟨x,H1,I1,r1,q1⟩=>?_)
 obtain⟨c,rfl,q1⟩:=q1
 cases r1
 exact not_of (gU ⟨.bl (!c),H1,I1,rfl,q1⟩)
def Tl(t:TT)(ta tb:TE):TE:=fun σ H Q=>t σ H fun c H1=>if c=true then ta σ H1 Q else tb σ H1 Q
theorem EE{c:Expr}(hc:PT X c tA)(ha:PE X a ta)(hb:PE X b tb):PE X (.IfExp c a b pos) (Tl tA ta tb):=by
 intro al s σ H Q I h
 refine wpAny_IfExp (jq (hc al s σ H _ I h) fun d s1 kt1 ⟨H1,I1,q1⟩=>?_)
 cases d with
 |true=>exact ha al s1 σ H1 Q I1 q1
 |false=>exact hb al s1 σ H1 Q I1 q1
end
end L2
namespace L2
variable{nk:Nat}
open PySem PySem.Spec PyProof.Rows
def rW(K:Frag)(H:Hp)(a:Addr)(xs:List V):Prop:=
 Rd H a (.lst xs) \/
  ∃(o:Obj) (bF:Array Value) (n:Nat),K.lookup a=some o/\o.cls=.type "list"/\o.dict=none/\o.data=.seq bF n/\bF.size<=sizeLine/\cG 0 xs bF.toList
def gg(K:Frag)(H:Hp)(a:Addr)(xs:List V):Prop:=
 Rd H a (.tup xs) \/
  ∃(o:Obj) (bF:Array Value) (n:Nat),K.lookup a=some o/\o.cls=.type "tuple"/\o.data=.seq bF n/\bF.size<=sizeLine/\cG 0 xs bF.toList
def RB:Value->Option V
 |.none=>some .non
 |.bool b=>some (.bl b)
 |.int i _=>some (.int i)
 |.str x _=>some (.str x)
 |.bytes b _=>some (.byt b)
 |.float b _=>some (.flt b)
 |.ref a=>some (.ref a)
 |.type n=>some (.ty n)
 |_=>none
theorem c_.abs{x:V}{u:Value}(r:c_ nk x u):RB u=some x:=by
 cases x with
 |non=>cases r;rfl
 |bl _=>cases r;rfl
 |int _=>obtain⟨t,rfl⟩:=r;rfl
 |str _=>obtain⟨t,rfl⟩:=r;rfl
 |byt _=>obtain⟨t,rfl⟩:=r;rfl
 |flt _=>obtain⟨t,rfl⟩:=r;rfl
 |ref _=>cases r;rfl
 |ty _=>cases r;rfl
theorem c_.inj{x y:V}{u:Value}(r:c_ nk x u)(q:c_ nk y u):x=y:=bx (r.abs.symm.trans q.abs)
theorem cG.inj:∀{xs ys:List V} {us:List Value},cG nk xs us->cG nk ys us->xs=ys
 |_,_,_,.nil,.nil=>rfl
 |_,_,_,.cons r t,.cons r' t'=>by rw[r.inj r',cG.inj t t']
section
variable{X:Cx}{al:List (Addr×Obj)}{σ:St}{H:Hp}{s:Shared}{a:Addr}{xs ys:List V}
theorem rW.of{K:Frag}(h:H a=some (.lst xs)):rW K H a xs:=.inl (.inl h)
theorem gg.of{K:Frag}(h:H a=some (.tup xs)):gg K H a xs:=.inl (.inl h)
theorem bU.list(I:bU X al σ H s)(h:rW X.K H a xs):∃bF:List Value,cG s.toks xs bF/\PlainL s.heap a bF.toArray/\xs.length<=sizeLine:=by
 rcases h with h|⟨o,bF,n,hk,hc,hd,hs,hz,r⟩
 ·obtain⟨z,bF,n,r,e⟩:=h.ok I.hok
  exact⟨bF,r,⟨_,n,e,rfl,rfl,rfl⟩,z⟩
 ·refine⟨bF.toList,r.up (ce _),⟨o,n,I.kIn a o hk,hc,hd,by simpa using hs⟩,?_⟩
  have e:=r.length
  simp only[dY]at e
  omega
theorem bU.tuple(I:bU X al σ H s)(h:gg X.K H a xs):∃bF:List Value,cG s.toks xs bF/\IsTup s.heap a bF.toArray/\xs.length<=sizeLine:=by
 rcases h with h|⟨o,bF,n,hk,hc,hs,hz,r⟩
 ·obtain⟨z,bF,r,p⟩:=h.ok I.hok
  exact⟨bF,r,p,z⟩
 ·refine⟨bF.toList,r.up (ce _),⟨o,I.kIn a o hk,hc,n,by simpa using hs⟩,?_⟩
  have e:=r.length
  simp only[dY]at e
  omega
theorem bU.list_inj(I:bU X al σ H s)(h:rW X.K H a xs)(h':rW X.K H a ys):xs=ys:=by
 obtain⟨bF,r,⟨o,n,e,_,_,d⟩,_⟩:=I.list h
 obtain⟨its',r',⟨o',n',e',_,_,d'⟩,_⟩:=I.list h'
 rw[e]at e';cases e'
 rw[d]at d'
 injection d' with d1 _
 have:bF=its':=by simpa using hJ Array.toList d1
 subst this
 exact r.inj r'
theorem bU.tuple_inj(I:bU X al σ H s)(h:gg X.K H a xs)(h':gg X.K H a ys):xs=ys:=by
 obtain⟨bF,r,⟨o,e,_,n,d⟩,_⟩:=I.tuple h
 obtain⟨its',r',⟨o',e',_,n',d'⟩,_⟩:=I.tuple h'
 rw[e]at e';cases e'
 rw[d]at d'
 injection d' with d1 _
 have:bF=its':=by simpa using hJ Array.toList d1
 subst this
 exact r.inj r'
end
section
variable{X:Cx}{al:List (Addr×Obj)}{σ:St}{H:Hp}{s:Shared}{E:Value->Shared->Prop}
end
section
variable{X:Cx}{st:Stmt}{gn:List Stmt}{t u:TS}{e:Expr}{te:TE}{pos:Pos}
def Ol:TS:=fun D σ H=>D.nx σ H
def RC(t u:TS):TS:=fun D σ H=>t { D with nx:=u D } σ H
theorem Ij:Dq X [] Ol:=fun _ _ σ H _ I h=>kg ⟨σ,H,I,h⟩
theorem EF(h1:PS X st t)(h2:Dq X gn u):Dq X (st::gn) (RC t u):=by
 intro al s σ H D I h
 refine wpAny_execs_cons (AW (h1 al s σ H { D with nx:=u D } I h) fun f s1 q=>?_)
 cases f with
 |next=>
  obtain⟨σ',H',I',q⟩:=q
  exact h2 al s1 σ' H' D I' q
 |ret v=>exact q
 |brk=>exact q
 |cont=>exact q
theorem Ik(h1:PS X st t):Dq X [st] t:=by
 intro al s σ H D I h
 refine wpAny_execs_cons (AW (h1 al s σ H D I h) fun f s1 q=>?_)
 cases f with
 |next=>exact kg q
 |ret v=>exact q
 |brk=>exact q
 |cont=>exact q
def Ly:TS:=fun D σ H=>D.bk σ H
def Om:TS:=fun D σ H=>D.ct σ H
theorem EG:PS X (.Break pos) Ly:=fun _ _ σ H _ I h=>wpAny_Break ⟨σ,H,I,h⟩
theorem y0:PS X (.Continue pos) Om:=fun _ _ σ H _ I h=>wpAny_Continue ⟨σ,H,I,h⟩
theorem bU.quiet{al:List (Addr×Obj)}{σ:St}{H:Hp}{s:Shared}(I:bU X al σ H s):interactive X.env=false:=by simp[interactive,I.ok.kind]
def On(te:TE):TS:=fun D σ H=>te σ H fun _ H1=>D.nx σ H1
theorem Il(he:PE X e te)(hs:swapsWith e none pos.line X.env=pure false:=by rfl):PS X (.Expr e pos) (On te):=by
 intro al s σ H D I h
 exact wpAny_Expr_any (jq (he al s σ H _ I h) fun v s1 kt1 ⟨x,H1,I1,r1,q1⟩=>⟨σ,H1,I1,q1⟩) I.quiet hs
def RD(te:TE):TS:=fun D σ H=>te σ H D.rt
theorem Lz(he:PE X e te):PS X (.Return (some e) pos) (RD te):=by
 intro al s σ H D I h
 exact wpAny_Return_some (jq (he al s σ H _ I h) fun v s1 kt1 ⟨x,H1,I1,r1,q1⟩=>⟨x,σ,H1,I1,r1,q1⟩)
def RE(c:TT)(t u:TS):TS:=fun D σ H=>c σ H fun b H1=>if b=true then t D σ H1 else u D σ H1
theorem Oo{c:Expr}{a b:List Stmt}{tc:TT}(hc:PT X c tc)(ha:Dq X a t)(hb:Dq X b u):PS X (.If c a b pos) (RE tc t u):=by
 intro al s σ H D I h
 refine wpAny_If (jq (hc al s σ H _ I h) fun d s1 kt1 ⟨H1,I1,q1⟩=>?_)
 cases d with
 |true=>exact ha al s1 σ H1 D I1 q1
 |false=>exact hb al s1 σ H1 D I1 q1
end
abbrev TG:=V->St->Hp->(St->Hp->Prop)->Prop
abbrev Im:=List V->St->Hp->(St->Hp->Prop)->Prop
def PG(X:Cx)(NP:Expr)(t:TG):Prop:=
 ∀(al:List (Addr×Obj)) (s:Shared) (σ:St) (H:Hp) (v:V) (u:Value) (Q:St->Hp->Prop),bU X al σ H s->c_ s.toks v u->t v σ H Q ->
  wpAny (model X.prog X.w) X.A (assign NP X.env u) (fun _ s'=>∃σ' H',bU X al σ' H' s'/\Q σ' H') X.xe s
def JY(X:Cx)(ts:List Expr)(t:Im):Prop:=
 ∀(al:List (Addr×Obj)) (s:Shared) (σ:St) (H:Hp) (vs:List V) (us:List Value) (Q:St->Hp->Prop),bU X al σ H s->cG s.toks vs us->t vs σ H Q ->
  wpAny (model X.prog X.w) X.A (assignInOrder ((assignEach ts X.env).map (·.2)) us) (fun _ s'=>∃σ' H',bU X al σ' H' s'/\Q σ' H') X.xe s
abbrev Io:=V->V->V->Hp->(Hp->Prop)->Prop
def EH(X:Cx)(t:Io):Prop:=
 ∀(al:List (Addr×Obj)) (s:Shared) (σ:St) (H:Hp) (o i v:V) (ov iv u:Value) (Q:Hp->Prop),bU X al σ H s->c_ s.toks o ov->c_ s.toks i iv->c_ s.toks v u->t o i v H Q ->
  wpAny (model X.prog X.w) X.A (setItem ov iv u) (fun _ s'=>∃H',bU X al σ H' s'/\Q H') X.xe s
section
variable{X:Cx}{pos:Pos}
def JZ(i:Nat):TG:=fun v σ H Q=>Q (σ.set i (some v)) H
theorem Ip{i:Nat}{x:Str}(hN:X.N.Nodup)(hi:X.N[i]?=some x)(hx:Ic X.env.scope x)(hf:X.fn x=true\/X.env.scope.names.lookup x=some .local:=by first|exact .inl rfl|exact .inr rfl|assumption):PG X (.Name x pos) (JZ i):=by
 intro al s σ H v u Q I r h
 exact wpAny_assign_Name (yY I hN hi hx r (fun s' I'=>⟨_,H,I',h⟩) hf)
def RF:Im:=fun vs σ H Q=>vs=[]/\Q σ H
def Op(t:TG)(u:Im):Im:=fun vs σ H Q=>∃v r,vs=v::r/\t v σ H fun σ' H'=>u r σ' H' Q
theorem Iq:JY X [] RF:=by
 intro al s σ H vs us Q I r h
 obtain⟨e,h⟩:=h
 subst e
 cases r
 exact assignInOrder_nil ⟨σ,H,I,h⟩
theorem EI{e:Expr}{es:List Expr}{t:TG}{u:Im}(h1:PG X e t)(h2:JY X es u)
  (hs:(assignEach (e::es) X.env).map (·.2)=assign e X.env::(assignEach es X.env).map (·.2):=by rfl):JY X (e::es) (Op t u):=by
 intro al s σ H vs us Q I r h
 obtain⟨v,vr,e1,h⟩:=h
 subst e1
 cases r with
 |cons r rr=>
  rw[hs]
  refine assignInOrder_cons (jq (h1 al s σ H _ _ _ I r h) fun _ s1 kt1 ⟨σ1,H1,I1,q1⟩=>?_)
  exact h2 al s1 σ1 H1 _ _ Q I1 (cG.up kt1 rr) q1
def RG(K:Frag)(n:Nat)(t:Im):TG:=fun v σ H Q=>∃a xs,v=.ref a/\gg K H a xs/\xs.length=n/\t xs σ H Q
theorem LA{es:List Expr}{k:Nat}{t:Im}{n:Nat}(hc:X.calm=true)(h:JY X es t)
  (hn:(assignEach es X.env).length=n:=by rfl) (rJ:(assignEach es X.env).findIdx? (·.1)=none:=by rfl):PG X (.Tuple es k pos) (RG X.K n t):=by
 intro al s σ H v u Q I r hw
 obtain⟨a,xs,e1,hq,hl,hw⟩:=hw
 subst e1
 cases r
 obtain⟨bF,rv,ht,hz⟩:=I.tuple hq
 refine assign_Tuple_tuple (I.ok.hd hc) ht (by simp[hn,<- hl,rv.length]) rJ fun h' hx=>?_
 have I1:bU X al σ H { s with heap:=h' }:=I.kept (t':=s.toks) fun b o e=>hx b o (a7 (aI e)) e
 exact h al _ σ H xs _ Q I1 (by simpa using rv) hw
def RH(to ti:TE)(t:Io):TG:=fun v σ H Q=>to σ H fun o H1=>ti σ H1 fun i H2=>t o i v H2 fun H3=>Q σ H3
theorem LB{o i:Expr}{to ti:TE}{t:Io}(ho:PE X o to)(hi:PE X i ti)(hs:EH X t)
  (ha:∀v,assign (.Subscript o i pos) X.env v=(do
   let ov <- holding [v] (eval o X.env)
   let iv <- holding [v,ov] (eval i X.env)
   standAt pos
   holding [v,ov,iv] (setItem ov iv v)
   release [v,ov,iv] []):=by intro _;rfl):PG X (.Subscript o i pos) (RH to ti t):=by
 intro al s σ H v u Q I r h
 rw[ha]
 refine aa (c8 (jq (ho al s σ H _ I h) fun ov s1 kt1 ⟨x,H1,I1,r1,q1⟩=>?_))
 refine aa (c8 (jq (hi al s1 σ H1 _ I1 q1) fun iv s2 kt2 ⟨y,H2,I2,r2,q2⟩=>?_))
 refine aa (pW (aa (c8 (jq (hs al s2 σ H2 x y v ov iv u _ I2 (r1.up kt2) r2 (r.up (aM kt1 kt2)) q2) fun _ s3 kt3 ⟨H3,I3,q3⟩=>?_))))
 exact wpAny_release ⟨σ,H3,I3,q3⟩
def EJ(te:TE)(g:TG):TS:=fun D σ H=>te σ H fun x H1=>g x σ H1 D.nx
theorem EK{tg e:Expr}{te:TE}{g:TG}(he:PE X e te)(hg:PG X tg g)(hs:swapsWithSole [tg] e pos.line X.env=pure false:=by rfl)(hw:swappedStores [tg] e X.env=pure none:=by rfl)
  (h1:(assignEach [tg] X.env).map (·.2)=[assign tg X.env]:=by rfl):PS X (.Assign [tg] e pos) (EJ te g):=by
 intro al s σ H D I h
 refine wpAny_Assign_stores (jq (he al s σ H _ I h) fun v s1 kt1 ⟨x,H1,I1,r1,q1⟩=>?_) hs hw
 rw[h1]
 exact AW (hg al s1 σ H1 x v _ I1 r1 q1) fun _ s2 q=>q
theorem LC{i:Nat}{x:Str}{e:Expr}{te:TE}{ie:Pos}(hN:X.N.Nodup)(hi:X.N[i]?=some x)(hx:Ic X.env.scope x)(he:PE X e te)(hs:swapsWith e (some (.Name x ie)) pos.line X.env=pure false:=by rfl)(hf:X.fn x=true\/X.env.scope.names.lookup x=some .local:=by first|exact .inl rfl|exact .inr rfl|assumption) :
  PS X (.Assign [.Name x ie] e pos) (EJ te (JZ i)):=by
 intro al s σ H D I h
 refine wpAny_Assign_Name (jq (he al s σ H _ I h) fun v s1 kt1 ⟨y,H1,I1,r1,q1⟩=>?_) hs
 exact yY I1 hN hi hx r1 (fun s2 I2=>⟨_,H1,I2,q1⟩) hf
end
section
variable{X:Cx}{pos:Pos}
def EL(c:TT)(tb:TS):TS:=fun D σ H=>∃W:Nat->St->Hp->Prop,(∃m,W m σ H)/\∀m σ H,W m σ H ->
 c σ H fun b H1=>if b=true then ∃N:St->Hp->Prop,(∀σ' H',N σ' H'->∃m',m'<m/\W m' σ' H')/\tb { D with nx:=N,ct:=N,bk:=D.nx } σ H1 else D.nx σ H1
theorem EM{c:Expr}{body:List Stmt}{tc:TT}{tb:TS}(hp:PassesOwn (model X.prog X.w) X.A X.env X.xe)(hc:PT X c tc)(hb:Dq X body tb):PS X (.While c body [] pos) (EL tc tb):=by
 intro al s σ H D I h
 obtain⟨W,⟨m0,w0⟩,turn⟩:=h
 refine wpAny_While (codeAny_whileLoop (fun n s'=>∃σ' H',bU X al σ' H' s'/\W n σ' H') ?_ m0 ⟨σ,H,I,w0⟩)
 rintro n s1 ⟨σ1,H1,I1,w1⟩
 refine fG hp (jq (hc al s1 σ1 H1 _ I1 (turn n σ1 H1 w1)) fun b s2 kt2 ⟨H2,I2,q2⟩=>?_)
 cases b with
 |true=>
  obtain⟨N,hN,q2⟩:=q2
  rw[aJ rfl]
  refine fG hp (AW (hb al s2 σ1 H2 _ I2 q2) fun f s3 q3=>?_)
  cases f with
  |next=>
   obtain⟨σ3,H3,I3,n3⟩:=q3
   obtain⟨m',hm,w3⟩:=hN σ3 H3 n3
   exact⟨m',hm,σ3,H3,I3,w3⟩
  |cont=>
   obtain⟨σ3,H3,I3,n3⟩:=q3
   obtain⟨m',hm,w3⟩:=hN σ3 H3 n3
   exact⟨m',hm,σ3,H3,I3,w3⟩
  |brk=>exact q3
  |ret v=>exact q3
 |false=>
  rw[aV eD]
  exact kg ⟨σ1,H2,I2,q2⟩
end
structure It where
 go:Nat->Hp->Prop
 yld:Nat->Hp->V->Hp->Prop
 stop:Nat->Hp->Prop
def rX(X:Cx)(al:List (Addr×Obj))(H:Hp)(b:Addr):Prop:=
 H b=none/\b≠X.env.locals/\b∉X.fs/\(b∈X.ex\/X.s₀.heap.objs.size<=b)/\(∀x c,X.env.cells.lookup x=some c->c≠b)/\∀p∈X.pn++al,p.1≠b
theorem bU.fpOk{X:Cx}{al:List (Addr×Obj)}{σ:St}{H H':Hp}{s:Shared}{b:Addr}(I:bU X al σ H s)(hb:s.heap.objs.size<=b)(hn:H' b=none):rX X al H' b:=by
 refine⟨hn,dS (aQ I.lt hb),I.nofs hb,.inr (aM I.sz hb),fun x c e z=>?_,fun p hp z=>?_⟩
 ·obtain⟨v,q⟩:=I.cell x c e
  exact absurd (aQ q.lt (by rw[z];exact hb)) (dz _)
 ·exact absurd (aQ (aI (I.pin p hp).1) (by rw[z];exact hb)) (dz _)
structure AX(P:Program)(w:World)(K:Frag)(tg:Expr)(J:It)(fp:List Addr)(it:Addr)(tn:Nat->Heap->Prop):Prop where
 mem:it∈fp
 obj:∀i h,tn i h->∀b∈fp,∃o,h.get? b=some o/\∀v,o.data≠.cell v
 keep:∀i h h',tn i h->(∀b∈fp,∀o,h.get? b=some o->h'.get? b=some o)->tn i h'
 item:∀(X:Cx),X.prog=P->X.w=w->X.K=K->X.calm=true->∀(i:Nat) (al:List (Addr×Obj)) (s:Shared) (σ:St) (H:Hp) (E:Value->Shared->Prop),bU X al σ H s->(∀b∈fp,rX X al H b)->tn i s.heap->J.go i H ->
  wpAny (model P w) X.A (pyNext (.ref it)) (fun r s1=>∃u,r=some u /\
   wpAny (model P w) X.A (letOwnedTupleGo tg (.ref it) u) (fun _ s2=>∃x H',bU X al σ H' s2/\c_ s2.toks x u/\J.yld i H x H'/\tn (i+1) s2.heap/\∀b∈fp,H' b=none) E s1) E s
 done:∀(X:Cx),X.prog=P->X.w=w->X.K=K->X.calm=true->∀(i:Nat) (al:List (Addr×Obj)) (s:Shared) (σ:St) (H:Hp) (E:Value->Shared->Prop),bU X al σ H s->(∀b∈fp,rX X al H b)->tn i s.heap->J.stop i H ->
  wpAny (model P w) X.A (pyNext (.ref it)) (fun r s1=>r=none/\bU X al σ H s1) E s
 self:∀(A:Around) (i:Nat) (s:Shared) (Q:Value->Shared->Prop) (E:Value->Shared->Prop),tn i s.heap->Q (.ref it) s->wpAny (model P w) A (pyIter (.ref it)) Q E s
abbrev TI:=St->Hp->(It->Hp->Prop)->Prop
def SL(X:Cx)(al:List (Addr×Obj))(σ:St)(tg:Expr)(R:It->Hp->Prop)(SF:Value)(s2:Shared):Prop:=
 ∃(it:Addr) (fp:List Addr) (tn:Nat->Heap->Prop) (J:It) (H':Hp),SF=.ref it/\bU X al σ H' s2/\AX X.prog X.w X.K tg J fp it tn/\tn 0 s2.heap/\(∀b∈fp,rX X al H' b)/\R J H'
def PI(X:Cx)(tg dQ:Expr)(wi:TI):Prop:=
 ∀(al:List (Addr×Obj)) (s:Shared) (σ:St) (H:Hp) (R:It->Hp->Prop),bU X al σ H s->wi σ H R ->
  wpAny (model X.prog X.w) X.A (eval dQ X.env) (fun v s1=>wpAny (model X.prog X.w) X.A (pyIter v) (SL X al σ tg R) X.xe s1) X.xe s
theorem CA    {M : Model} {A : Around} {E : Value -> Shared -> Prop} {s : Shared} {tg : Expr} {it : Addr} {u : Value} {o : Obj} {n : String} {vs : Array Value} {Q : Unit -> Shared -> Prop} (ho : s.heap.get? it = some o) (hc : o.cls = .type n) (hd : o.data = .fields vs)
    (hn : ["enumerate", "zip", "dict_itemiterator", "dict_reverseitemiterator", "odict_iterator", "itertools.zip_longest", "itertools.pairwise"].contains n = false) (hQ : Q () s) : wpAny M A (letOwnedTupleGo tg (.ref it) u) Q E s := by
  unfold letOwnedTupleGo
  cases tg <;> first
    | exact ay         hQ
    | (cases u <;> first
        | exact ay         hQ
        | (refine aa         (wpAny_load ho ?_)
           rw [hc, hd]
           show wpAny M A (if (["enumerate", "zip", "dict_itemiterator", "dict_reverseitemiterator", "odict_iterator", "itertools.zip_longest", "itertools.pairwise"].contains n && vs[0]? == some (rawInt _)) = true then _ else _) Q E s
           rw [aV     (by intro h; rw [hn, Bool.false_and] at h; cases h)]
           exact ay         hQ))
def SM(K:Frag)(a:Addr):It:=
 ⟨fun i H=>∃xs x,rW K H a xs/\xs[i]?=some x,fun i H x H'=>H'=H/\∀xs,rW K H a xs->xs[i]?=some x,fun i H=>∃xs,rW K H a xs/\xs.length<=i⟩
def SN(K:Frag)(a:Addr):It:=
 ⟨fun i H=>∃xs x,gg K H a xs/\xs[i]?=some x,fun i H x H'=>H'=H/\∀xs,gg K H a xs->xs[i]?=some x,fun i H=>∃xs,gg K H a xs/\xs.length<=i⟩
def Q6(lo:Int)(n:Nat):It:=⟨fun i _=>i<n,fun i H x H'=>H'=H/\x=.int (lo+i),fun i _=>n<=i⟩
theorem Dr{P:Program}{w:World}{K:Frag}{tg:Expr}(a it:Addr):AX P w K tg (SM K a) [it] it (fun i h=>h.IsListIter it a i) where
 mem:=by simp
 obj:=fun i h st b hb=>by
  have e:b=it:=by simpa using hb
  subst e
  obtain⟨o,e,c,d⟩:=st
  exact⟨o,e,fun v z=>by rw[d]at z;cases z⟩
 keep:=fun i h h' st k=>st.at fun o e=>k it (by simp) o e
 item:=by
  intro X hP hw hK hc i al s σ H E I hf st hg
  subst hP hw hK
  obtain⟨xs,x,hq,hx⟩:=hg
  obtain⟨bF,rv,p,hz⟩:=I.list hq
  obtain⟨u,hu,ru⟩:=rv.get hx
  obtain⟨f0,f1,f2,f3,f4,f5⟩:=hf it (by simp)
  refine wpAny_pyNext_list_item st p.isList (x:=u) (by simpa using hu) fun h' bh sb=>?_
  have I1:bU X al σ H { s with heap:=h' }:=I.turned (t':=s.toks) (fun b o hb e=>(sb.2 b hb).trans e) f0 f1 f3 f4 f5
  obtain⟨o,e,c,d⟩:=id bh
  exact⟨u,rfl,CA (s:={ s with heap:=h' }) e c d (by decide) ⟨x,H,I1,ru,⟨rfl,fun ys hy=>by rw[I.list_inj hy hq];exact hx⟩,bh,fun b hb=>(hf b hb).1⟩⟩
 done:=by
  intro X hP hw hK hc i al s σ H E I hf st hg
  subst hP hw hK
  obtain⟨xs,hq,hx⟩:=hg
  obtain⟨bF,rv,p,hz⟩:=I.list hq
  obtain⟨f0,f1,f2,f3,f4,f5⟩:=hf it (by simp)
  have hl:=rv.length
  exact wpAny_pyNext_list_end (I.ok.hd hc) st p.isList (by simp;omega) fun h' eb=>⟨rfl,I.turned (t':=s.toks) (fun b o hb e=>eb b o hb e) f0 f1 f3 f4 f5⟩
 self:=fun _ _ _ _ _ st h=>wpAny_pyIter_listiter st h
theorem AY{P:Program}{w:World}{K:Frag}{tg:Expr}(a it:Addr):AX P w K tg (SN K a) [it] it (fun i h=>h.IsTupleIter it a i) where
 mem:=by simp
 obj:=fun i h st b hb=>by
  have e:b=it:=by simpa using hb
  subst e
  obtain⟨o,e,c,d⟩:=st
  exact⟨o,e,fun v z=>by rw[d]at z;cases z⟩
 keep:=fun i h h' st k=>st.at fun o e=>k it (by simp) o e
 item:=by
  intro X hP hw hK hc i al s σ H E I hf st hg
  subst hP hw hK
  obtain⟨xs,x,hq,hx⟩:=hg
  obtain⟨bF,rv,p,hz⟩:=I.tuple hq
  obtain⟨u,hu,ru⟩:=rv.get hx
  obtain⟨f0,f1,f2,f3,f4,f5⟩:=hf it (by simp)
  refine wpAny_pyNext_tuple_item st (show s.heap.IsTuple a bF.toArray from p) (x:=u) (by simpa using hu) fun h' bh sb=>?_
  have I1:bU X al σ H { s with heap:=h' }:=I.turned (t':=s.toks) (fun b o hb e=>(sb.2 b hb).trans e) f0 f1 f3 f4 f5
  obtain⟨o,e,c,d⟩:=id bh
  exact⟨u,rfl,CA (s:={ s with heap:=h' }) e c d (by decide) ⟨x,H,I1,ru,⟨rfl,fun ys hy=>by rw[I.tuple_inj hy hq];exact hx⟩,bh,fun b hb=>(hf b hb).1⟩⟩
 done:=by
  intro X hP hw hK hc i al s σ H E I hf st hg
  subst hP hw hK
  obtain⟨xs,hq,hx⟩:=hg
  obtain⟨bF,rv,p,hz⟩:=I.tuple hq
  obtain⟨f0,f1,f2,f3,f4,f5⟩:=hf it (by simp)
  have hl:=rv.length
  exact wpAny_pyNext_tuple_end (I.ok.hd hc) st (show s.heap.IsTuple a bF.toArray from p) (by simp;omega) fun h' eb=>⟨rfl,I.turned (t':=s.toks) (fun b o hb e=>eb b o hb e) f0 f1 f3 f4 f5⟩
 self:=fun _ _ _ _ _ st h=>wpAny_pyIter_tupleiter st h
theorem AZ{P:Program}{w:World}{K:Frag}{tg:Expr}(it:Addr)(lo:Int)(n:Nat):AX P w K tg (Q6 lo n) [it] it (fun i h=>IsRangeIter h it (lo+(i:Nat)*1) ((n:Int)-(i:Nat)) 1) where
 mem:=by simp
 obj:=fun i h st b hb=>by
  have e:b=it:=by simpa using hb
  subst e
  exact⟨_,st,fun v z=>by
   have z':Data.fields _=Data.cell v:=z
   cases z'⟩
 keep:=fun i h h' st k=>k it (by simp) _ st
 item:=by
  intro X hP hw hK hc i al s σ H E I hf st hg
  subst hP hw hK
  obtain⟨f0,f1,f2,f3,f4,f5⟩:=hf it (by simp)
  have W:=Walks.range (prog:=X.prog) (w:=X.w) (I.ok.hd hc) it lo 1 n
  refine up (W.item i s _ _ hg st fun v h' tk hv bh kk hk=>?_)
  obtain⟨t,rfl⟩:=hv
  have I1:bU X al σ H { s with heap:=h',toks:=tk }:=I.turned (fun b o hb e=>kk b o (by simpa using hb) e) f0 f1 f3 f4 f5
  refine⟨_,rfl,CA (s:={ s with heap:=h',toks:=tk }) (n:="range_iterator") bh rfl rfl (by decide) ⟨.int (lo+i),H,I1,⟨t,?_⟩,⟨rfl,rfl⟩,bh,fun b hb=>(hf b hb).1⟩⟩
  rw[Int.mul_one]
 done:=by
  intro X hP hw hK hc i al s σ H E I hf st hg
  subst hP hw hK
  obtain⟨f0,f1,f2,f3,f4,f5⟩:=hf it (by simp)
  exact wpAny_pyNext_range_end (I.ok.hd hc) st (by have:n<=i:=hg;omega) fun h' eb=>⟨rfl,I.turned (t':=s.toks) (fun b o hb e=>eb b o hb e) f0 f1 f3 f4 f5⟩
 self:=fun _ _ _ _ _ st h=>wpAny_pyIter_rangeiter st h
end L2
namespace L2
variable{nk:Nat}
open PySem PySem.Spec PyProof.Rows
section
variable{X:Cx}{tg:Expr}
def Oq(K:Frag)(tl:TE):TI:=fun σ H R=>tl σ H fun x H1=>∃a,x=.ref a/\(∃xs,rW K H1 a xs)/\R (SM K a) H1
def RI(K:Frag)(tl:TE):TI:=fun σ H R=>tl σ H fun x H1=>∃a,x=.ref a/\(∃xs,gg K H1 a xs)/\R (SN K a) H1
theorem Ir{l:Expr}{tl:TE}(hl:PE X l tl):PI X tg l (Oq X.K tl):=by
 intro al s σ H R I h
 refine jq (hl al s σ H _ I h) fun v s1 kt1 ⟨x,H1,I1,r1,q1⟩=>?_
 obtain⟨a,e,⟨xs,hq⟩,q⟩:=q1
 subst e
 cases r1
 obtain⟨bF,rv,p,hz⟩:=I1.list hq
 refine wpAny_pyIter_list p.isList ?_
 refine⟨s1.heap.objs.size,[s1.heap.objs.size],_,_,H1,rfl,I1.kept (t':=s1.toks) fun b o e=>aq _ e,Dr a _,⟨_,aB _ rfl,rfl,rfl⟩,fun b hb=>?_,q⟩
 have e:b=s1.heap.objs.size:=by simpa using hb
 subst e
 exact I1.fpOk (az _) (I1.hok.fresh (az _))
theorem LD{l:Expr}{tl:TE}(hl:PE X l tl):PI X tg l (RI X.K tl):=by
 intro al s σ H R I h
 refine jq (hl al s σ H _ I h) fun v s1 kt1 ⟨x,H1,I1,r1,q1⟩=>?_
 obtain⟨a,e,⟨xs,hq⟩,q⟩:=q1
 subst e
 cases r1
 obtain⟨bF,rv,p,hz⟩:=I1.tuple hq
 refine fw (show s1.heap.IsTuple a bF.toArray from p) ?_
 refine⟨s1.heap.objs.size,[s1.heap.objs.size],_,_,H1,rfl,I1.kept (t':=s1.toks) fun b o e=>aq _ e,AY a _,⟨_,aB _ rfl,rfl,rfl⟩,fun b hb=>?_,q⟩
 have e:b=s1.heap.objs.size:=by simpa using hb
 subst e
 exact I1.fpOk (az _) (I1.hok.fresh (az _))
theorem EN{al:List (Addr×Obj)}{σ:St}{H:Hp}{s:Shared}{R:It->Hp->Prop}{E:Value->Shared->Prop}{lo hi:Int}{t u v:Tok}{tk:Nat}(I:bU X al σ H s)(hk:s.toks<=tk)(h1:-(2^62)<=lo)(h2:lo<2^62)(h3:-(2^62)<=hi)(h4:hi<2^62)
  (q:R (Q6 lo (hi-lo).toNat) H):wpAny (model X.prog X.w) X.A (pyIter (.ref s.heap.objs.size)) (SL X al σ tg R) E { s with heap:=s.heap.push { cls:=.type "range",data:=.fields #[.int lo t,.int hi u,.int 1 v] },toks:=tk }:=by
 refine wpAny_pyIter_range (IsRange.new ..) (small_one h1 h2 h3 h4) ?_
 have I1:bU X al σ H { s with heap:=s.heap.push { cls:=.type "range",data:=.fields #[.int lo t,.int hi u,.int 1 v] },toks:=tk }:=I.kept fun b o e=>aq _ e
 refine⟨(s.heap.push { cls:=.type "range",data:=.fields #[.int lo t,.int hi u,.int 1 v] }).objs.size,[(s.heap.push { cls:=.type "range",data:=.fields #[.int lo t,.int hi u,.int 1 v] }).objs.size],_,_,H,rfl,
  I1.kept (t':=tk) fun b o e=>aq _ e,AZ _ lo (hi-lo).toNat,?_,fun b hb=>?_,q⟩
 ·have e1:lo+((0:Nat):Int)*1=lo:=by simp
  have e2:(((hi-lo).toNat:Nat):Int)-((0:Nat):Int)=Builtin.Range.rangeSize lo hi 1:=by rw[rangeSize_one];split<;>omega
  show IsRangeIter _ _ (lo+((0:Nat):Int)*1) ((((hi-lo).toNat:Nat):Int)-((0:Nat):Int)) 1
  rw[e1,e2]
  exact aB _ rfl
 ·have e:b=(s.heap.push { cls:=.type "range",data:=.fields #[.int lo t,.int hi u,.int 1 v] }).objs.size:=by simpa using hb
  subst e
  exact I1.fpOk (az _) (I1.hok.fresh (az _))
def Os(ta:TA):TI:=fun σ H R=>ta σ H fun vs H1=>∃j:Int,vs=[.int j]/\-(2^62)<=j/\j<2^62/\R (Q6 0 j.toNat) H1
theorem Ds{a:Expr}{ta:TA}{p pos:Pos}(hg:Gl X "range")(hm:X.mg "range"=none)(ha:PA X [a] ta)(hs:starEach [a] X.env=[(false,eval a X.env)]:=by rfl):PI X tg (.Call (.Name "range" p) [a] [] pos) (Os ta):=by
 intro al s σ H R I h
 refine Call_ (n6 I hg hm boot_range (dF (jq (ha pos al s σ H _ I h) fun us s1 kt1 ⟨vs,H1,I1,r1,q1⟩=>?_) hs rfl))
 obtain⟨j,e,q1,q2,q⟩:=q1
 subst e
 cases r1 with
 |cons r rr=>
  cases rr
  obtain⟨t,rfl⟩:=r
  exact call_range_1 (EN I1 (by first|exact az _|exact bp _|assumption|omega) (by omega) (by omega) q1 q2 (by simpa using q))
def RJ(wi:TI)(g:TG)(tb:TS):TS:=fun D σ H=>wi σ H fun J H1=>∃W:Nat->Nat->St->Hp->Prop,(∃m,W 0 m σ H1)/\∀i m σ H,W i m σ H ->
 (J.stop i H/\D.nx σ H)\/(J.go i H/\∃N:St->Hp->Prop,(∀σ' H',N σ' H'->∃m',m'<m/\W (i+1) m' σ' H')/\∀x H',J.yld i H x H'->g x σ H' fun σ2 H2=>tb { D with nx:=N,ct:=N,bk:=D.nx } σ2 H2)
def xu(fp:List Addr)(h:Heap):List (Addr×Obj):=fp.filterMap fun b=>(h.get? b).map fun o=>(b,o)
theorem jv{fp:List Addr}{h:Heap}{b:Addr}{o:Obj}(hb:b∈fp)(e:h.get? b=some o):(b,o)∈xu fp h:=kY.mpr ⟨b,hb,by rw[e];rfl⟩
theorem Dt{fp:List Addr}{h:Heap}{p:Addr×Obj}(hp:p∈xu fp h):p.1∈fp/\h.get? p.1=some p.2:=by
 obtain⟨b,hb,e⟩:=kY.mp hp
 cases q:h.get? b with
 |none=>rw[q]at e;cases e
 |some o=>
  rw[q]at e
  have e':(b,o)=p:=bx e
  subst e'
  exact⟨hb,q⟩
theorem bU.pinned{al:List (Addr×Obj)}{σ:St}{H:Hp}{s:Shared}{fp:List Addr}(I:bU X al σ H s)(hf:∀b∈fp,rX X al H b)(ho:∀b∈fp,∃o,s.heap.get? b=some o/\∀v,o.data≠.cell v):bU X (al++xu fp s.heap) σ H s:=
 I.pins_of fun p hp=>(aU.mp hp).elim (fun z=>I.pin p (aO _ z)) fun z=>by
  obtain⟨hb,e⟩:=Dt z
  obtain⟨f0,f1,f2,_⟩:=hf p.1 hb
  obtain⟨o,e',d⟩:=ho p.1 hb
  rw[e]at e';cases e'
  exact⟨e,f0,f1,f2,d⟩
theorem bU.unpinned{al pl:List (Addr×Obj)}{σ:St}{H:Hp}{s:Shared}(I:bU X (al++pl) σ H s):bU X al σ H s:=I.pins_of fun p hp=>I.pin p (aO _ (bX _ hp))
theorem LF{dQ:Expr}{body:List Stmt}{wi:TI}{g:TG}{tb:TS}{pos:Pos}(hp:PassesOwn (model X.prog X.w) X.A X.env X.xe)(hc:X.calm=true)(hi:PI X tg dQ wi)(hg:PG X tg g)(hb:Dq X body tb)
  (hs:∀x,foldedSetIterable dQ X.env x=pure x:=by intro _;rfl):PS X (.For tg dQ body [] pos) (RJ wi g tb):=by
 intro al s σ H D I h
 refine wpAny_For (AW (hi al s σ H _ I h) fun v s1 h1=>AW h1 fun SF s2 h2=>?_) hs
 obtain⟨it,fp,tn,J,H2,e,I2,T,cX,f2,W,⟨m0,w0⟩,turn⟩:=h2
 subst e
 have stat:∀{H':Hp},(∀b∈fp,H' b=none)->∀b∈fp,rX X al H' b:=fun hn b hb=>⟨hn b hb,(f2 b hb).2⟩
 refine codeAny_forLoop_any (fun n s'=>∃i σ' H',bU X al σ' H' s'/\tn i s'.heap/\(∀b∈fp,H' b=none)/\W i n σ' H') ?_ m0 ⟨0,σ,H2,I2,cX,fun b hb=>(f2 b hb).1,w0⟩
 rintro n s3 ⟨i,σ3,H3,I3,lM,fr3,w3⟩
 rcases turn i n σ3 H3 w3 with⟨stop,qn⟩|⟨go,N,hN,step⟩
 ·refine fG hp (jq (T.done X rfl rfl rfl hc i al s3 σ3 H3 X.xe I3 (stat fr3) lM stop) fun r s4 kt4 ⟨hr,I4⟩=>?_)
  subst hr
  exact kg ⟨σ3,H3,I4,qn⟩
 ·refine fG hp (jq (T.item X rfl rfl rfl hc i al s3 σ3 H3 X.xe I3 (stat fr3) lM go) fun r s4 kt4 ⟨u,hr,h4⟩=>?_)
  subst hr
  refine fG hp (AW h4 fun _ s5 ⟨x,H5,I5,r5,y5,st5,fr5⟩=>?_)
  have I5':=I5.pinned (stat fr5) (T.obj _ _ st5)
  refine fG hp (jq (hg _ s5 σ3 H5 x u _ I5' r5 (step x H5 y5)) fun _ s6 kt6 ⟨σ6,H6,I6,q6⟩=>?_)
  refine fG hp (AW (hb _ s6 σ6 H6 _ I6 q6) fun f s7 q7=>?_)
  have again:∀{σ7:St} {H7:Hp},bU X (al++xu fp s5.heap) σ7 H7 s7->N σ7 H7->∃m,m<n/\∃i σ' H',bU X al σ' H' s7/\tn i s7.heap/\(∀b∈fp,H' b=none)/\W i m σ' H':=fun{σ7 H7} I7 n7=>by
   obtain⟨m',hm,w7⟩:=hN σ7 H7 n7
   refine⟨m',hm,i+1,σ7,H7,I7.unpinned,T.keep _ _ _ st5 fun b hb o e=>(I7.pin (b,o) (aO _ (aO _ (jv hb e)))).1,fun b hb=>?_,w7⟩
   obtain⟨o,e,d⟩:=T.obj _ _ st5 b hb
   exact(I7.pin (b,o) (aO _ (aO _ (jv hb e)))).2.1
  cases f with
  |next=>obtain⟨σ7,H7,I7,n7⟩:=q7;exact again I7 n7
  |cont=>obtain⟨σ7,H7,I7,n7⟩:=q7;exact again I7 n7
  |brk=>obtain⟨σ7,H7,I7,q7⟩:=q7;exact⟨σ7,H7,I7.unpinned,q7⟩
  |ret v=>obtain⟨x7,σ7,H7,I7,r7,q7⟩:=q7;exact⟨x7,σ7,H7,I7.unpinned,r7,q7⟩
end
end L2
namespace L2
variable{nk:Nat}
open PySem PySem.Spec PyProof.Rows
abbrev R2:=V->V->Hp->VK->Prop
def n9(X:Cx)(f:Value->Value->Sem Value)(r:R2):Prop:=
 ∀(al:List (Addr×Obj)) (s:Shared) (σ:St) (H:Hp) (x y:V) (v u:Value) (Q:VK),bU X al σ H s->c_ s.toks x v->c_ s.toks y u->r x y H Q ->
  wpAny (model X.prog X.w) X.A (f v u) (EP X al σ Q) X.xe s
def RL(X:Cx)(f:Value->Sem Value)(r:V->Hp->VK->Prop):Prop:=
 ∀(al:List (Addr×Obj)) (s:Shared) (σ:St) (H:Hp) (x:V) (v:Value) (Q:VK),bU X al σ H s->c_ s.toks x v->r x H Q ->
  wpAny (model X.prog X.w) X.A (f v) (EP X al σ Q) X.xe s
def iU(X:Cx)(f:Value)(r:List V->Hp->VK->Prop):Prop:=
 ∀(al:List (Addr×Obj)) (s:Shared) (σ:St) (H:Hp) (xs:List V) (us:List Value) (Q:VK),bU X al σ H s->cG s.toks xs us->r xs H Q ->
  wpAny (model X.prog X.w) X.A (call f us) (EP X al σ Q) X.xe s
def Ot(r:R2)(ta tb:TE):TE:=fun σ H Q=>ta σ H fun x H1=>tb σ H1 fun y H2=>r x y H2 Q
def Tn(r:V->Hp->VK->Prop)(ta:TE):TE:=fun σ H Q=>ta σ H fun x H1=>r x H1 Q
def rI(C:Int->Int->Prop)(g:Int->Int->V):R2:=fun x y H Q=>∃i j,x=.int i/\y=.int j/\C i j/\Q (g i j) H
def HU(g:Int->Int->V):R2:=fun x y H Q=>∃i j,x=.int i/\y=.int j/\Q (g i j) H
def rU(g:Int->V):V->Hp->VK->Prop:=fun x H Q=>∃i,x=.int i/\Q (g i) H
section
variable{X:Cx}{a b c:Expr}{ta tb tc:TE}{pos:Pos}
theorem LG(ha:PE X a ta)(hb:PE X b tb){al:List (Addr×Obj)}{s:Shared}{σ:St}{H:Hp}{R:V->V->Hp->Prop}(I:bU X al σ H s)
  (h:ta σ H fun x H1=>tb σ H1 fun y H2=>R x y H2) {Q:Value->Shared->Prop} {f:Value->Value->Sem Value}
  (hf:∀v u s2 x y H2,bU X al σ H2 s2->c_ s2.toks x v->c_ s2.toks y u->R x y H2->wpAny (model X.prog X.w) X.A (f v u) Q X.xe s2) :
  wpAny (model X.prog X.w) X.A (eval a X.env) (fun v s₁=>wpAny (model X.prog X.w) X.A (eval b X.env) (fun u s₂=>wpAny (model X.prog X.w) X.A (f v u) Q X.xe s₂) X.xe s₁) X.xe s:=by
 refine jq (ha al s σ H _ I h) fun v s1 kt1 ⟨x,H1,I1,r1,q1⟩=>?_
 refine jq (hb al s1 σ H1 _ I1 q1) fun u s2 kt2 ⟨y,H2,I2,r2,q2⟩=>?_
 exact hf v u s2 x y H2 I2 (r1.up kt2) r2 q2
theorem Ou{op:Operator}{r:R2}(ho:n9 X (binaryOp op) r)(ha:PE X a ta)(hb:PE X b tb):PE X (.BinOp a op b pos) (Ot r ta tb):=by
 intro al s σ H Q I h
 exact wpAny_BinOp (LG ha hb I h fun v u s2 x y H2 I2 rx ry q=>ho al s2 σ H2 x y v u Q I2 rx ry q)
theorem Ov{op:UnaryOp}{r:V->Hp->VK->Prop}(ho:RL X (unaryOp op) r)(ha:PE X a ta):PE X (.UnaryOp op a pos) (Tn r ta):=by
 intro al s σ H Q I h
 exact UnaryOp_ (jq (ha al s σ H _ I h) fun v s1 kt1 ⟨x,H1,I1,r1,q1⟩=>ho al s1 σ H1 x v Q I1 r1 q1)
theorem N5{f:Value->Value->Sem Value}{C:Int->Int->Prop}{g:Int->Int->Int}
  (rule:∀(i j:Int) (t u:Tok) (s:Shared) (Q:Value->Shared->Prop) (E:Value->Shared->Prop),C i j->Q (.int (g i j) s.toks) { s with toks:=s.toks+1 }->wpAny (model X.prog X.w) X.A (f (.int i t) (.int j u)) Q E s) :
  n9 X f (rI C fun i j=>.int (g i j)):=by
 intro al s σ H x y v u Q I rx ry h
 obtain⟨i,j,rfl,rfl,hc,q⟩:=h
 obtain⟨t,rfl⟩:=rx
 obtain⟨t',rfl⟩:=ry
 exact rule i j t t' s _ _ hc ⟨.int (g i j),H,I.tok _,⟨_,rfl⟩,q⟩
theorem LH{f:Value->Value->Sem Value}{g:Int->Int->Int}
  (rule:∀(i j:Int) (t u:Tok) (s:Shared) (Q:Value->Shared->Prop) (E:Value->Shared->Prop),Q (.int (g i j) s.toks) { s with toks:=s.toks+1 }->wpAny (model X.prog X.w) X.A (f (.int i t) (.int j u)) Q E s) :
  n9 X f (HU fun i j=>.int (g i j)):=by
 intro al s σ H x y v u Q I rx ry h
 obtain⟨i,j,rfl,rfl,q⟩:=h
 obtain⟨t,rfl⟩:=rx
 obtain⟨t',rfl⟩:=ry
 exact rule i j t t' s _ _ ⟨.int (g i j),H,I.tok _,⟨_,rfl⟩,q⟩
theorem LI{f:Value->Value->Sem Value}{g:Int->Int->Bool}
  (rule:∀(i j:Int) (t u:Tok) (s:Shared) (Q:Value->Shared->Prop) (E:Value->Shared->Prop),Q (.bool (g i j)) s->wpAny (model X.prog X.w) X.A (f (.int i t) (.int j u)) Q E s) :
  n9 X f (HU fun i j=>.bl (g i j)):=by
 intro al s σ H x y v u Q I rx ry h
 obtain⟨i,j,rfl,rfl,q⟩:=h
 obtain⟨t,rfl⟩:=rx
 obtain⟨t',rfl⟩:=ry
 exact rule i j t t' s _ _ ⟨.bl (g i j),H,I,rfl,q⟩
def RM(i j:Int):Prop:=0<j/\j<1073741824
def LJ(i j:Int):Prop:=0<=j/\j<=1000000/\i.natAbs<2^64
def LK(i j:Int):Prop:=(-(2^64)<i/\i<2^64)\/(-(2^64)<j/\j<2^64)
theorem LK.ok{i j:Int}(h:LK i j):IntMulOk i j:=by
 rcases h with⟨h1,h2⟩|⟨h1,h2⟩
 ·exact .of_left (intBits_le_64 h1 h2)
 ·exact .of_right (intBits_le_64 h1 h2)
theorem A1(k:Nat):(0:Int)<=2^k:=by
 rw[two_pow_cast]
 exact Int.natCast_nonneg _
theorem LM:n9 X (binaryOp .Add) (HU fun i j=>.int (i+j)):=LH fun _ _ _ _ _ _ _ q=>add_int q
theorem LN:n9 X (binaryOp .Sub) (HU fun i j=>.int (i-j)):=LH fun _ _ _ _ _ _ _ q=>sub_int q
theorem LO:n9 X (binaryOp .Mult) (rI LK fun i j=>.int (i*j)):=N5 fun _ _ _ _ _ _ _ hc q=>mul_int q hc.ok
theorem Iu:n9 X (binaryOp .FloorDiv) (rI RM fun i j=>.int (i/j)):=N5 fun i j _ _ _ _ _ hc q=>by
 have h1:(0:Int)<j:=hc.1
 have h2:j<1073741824:=hc.2
 exact floordiv_int (by omega) (by rw[kZ i (by omega)];exact q) (.inl (PyProof.noPylong_small (by omega)))
theorem LP:n9 X (binaryOp .Mod) (rI (fun _ j=>0<j) fun i j=>.int (i%j)):=N5 fun i j _ _ _ _ _ hc q=>by
 have h1:(0:Int)<j:=hc
 exact mod_int' (by omega) (by rw[Int.fmod_eq_emod_of_nonneg i (by omega)];exact q)
theorem LQ:n9 X (binaryOp .Pow) (rI LJ fun i j=>.int (i^j.toNat)):=N5 fun _ _ _ _ _ _ _ hc q=>pow_int_small hc.1 hc.2.1 hc.2.2 q
theorem EO:n9 X (binaryOp .LShift) (rI LJ fun i j=>.int (i*2^j.toNat)):=N5 fun _ _ _ _ _ _ _ hc q=>lshift_int_small hc.1 hc.2.1 hc.2.2 q
theorem LR:n9 X (binaryOp .RShift) (rI (fun _ j=>0<=j) fun i j=>.int (i/2^j.toNat)):=N5 fun i j _ _ _ _ _ hc q=>
 rshift_int hc (by rw[kZ i (A1 _)];exact q)
theorem LS:n9 X (binaryOp .BitAnd) (HU fun i j=>.int (Builtin.bitAnd i j)):=LH fun _ _ _ _ _ _ _ q=>and_int q
theorem To{f:Value->Sem Value}{g:Int->Int}
  (rule:∀(i:Int) (t:Tok) (s:Shared) (Q:Value->Shared->Prop) (E:Value->Shared->Prop),Q (.int (g i) s.toks) { s with toks:=s.toks+1 }->wpAny (model X.prog X.w) X.A (f (.int i t)) Q E s) :
  RL X f (rU fun i=>.int (g i)):=by
 intro al s σ H x v Q I rx h
 obtain⟨i,rfl,q⟩:=h
 obtain⟨t,rfl⟩:=rx
 exact rule i t s _ _ ⟨.int (g i),H,I.tok _,⟨_,rfl⟩,q⟩
theorem LU:RL X (unaryOp .USub) (rU fun i=>.int (-i)):=To fun _ _ _ _ _ q=>neg_int q
end
section
variable{X:Cx}{a b c:Expr}{ta tb tc:TE}{pos:Pos}
theorem LV{al:List (Addr×Obj)}{σ:St}{H:Hp}{s:Shared}{Q:VK}{k k':Bool}(I:bU X al σ H s)(q:Q (.bl k) H)(e:k=k'):EP X al σ Q (.bool k') s:=by
 subst e
 exact⟨.bl k,H,I,rfl,q⟩
theorem Ox:n9 X (compareOp .Lt) (HU fun i j=>.bl (decide (i<j))):=LI fun _ _ _ _ _ _ _ q=>lt_int q
theorem Oy:n9 X (compareOp .Gt) (HU fun i j=>.bl (decide (j<i))):=LI fun _ _ _ _ _ _ _ q=>gt_int q
theorem Oz:n9 X (compareOp .GtE) (HU fun i j=>.bl (decide (j<=i))):=LI fun _ _ _ _ _ _ _ q=>ge_int q
theorem Du:n9 X (compareOp .In) (fun x y H Q=>∃i j,x=.str i/\y=.str j/\Q (.bl (!(Builtin.Str.occurrences j i 0 j.length 1).isEmpty)) H):=by
 intro al s σ H x y v u Q I rx ry h
 obtain⟨i,j,rfl,rfl,q⟩:=h
 obtain⟨t,rfl⟩:=rx
 obtain⟨t',rfl⟩:=ry
 exact in_str (LV I q rfl)
theorem EQ(b:Expr){op:CmpOp}(h:op≠.In:=by decide)(h2:op≠.NotIn:=by decide):behindInMarks op b=false:=by
 have e1:(op==CmpOp.In)=false:=by cases op<;>first|rfl|exact absurd rfl h
 have e2:(op==CmpOp.NotIn)=false:=by cases op<;>first|rfl|exact absurd rfl h2
 cases b<;>simp[behindInMarks,e1,e2]
theorem Iv{op:CmpOp}{r:R2}(ho:n9 X (compareOp op) r)(ha:PE X a ta)(hb:PE X b tb)(hm:behindInMarks op b=false):PE X (.Compare a [op] [b] pos) (Ot r ta tb):=by
 intro al s σ H Q I h
 exact wpAny_Compare1 (LG ha hb I h fun v u s2 x y H2 I2 rx ry q=>ho al s2 σ H2 x y v u Q I2 rx ry q) hm
def OA(t:TE):TT:=fun σ H Q=>t σ H fun x H'=>∃k,x=.bl k/\Q k H'
theorem Iw{op:CmpOp}{r:R2}(ho:n9 X (compareOp op) r)(ha:PE X a ta)(hb:PE X b tb)(hm:behindInMarks op b=false):PT X (.Compare a [op] [b] pos) (OA (Ot r ta tb)):=by
 intro al s σ H Q I h
 refine nT (jq (ha al s σ H _ I h) fun v s1 kt1 ⟨x,H1,I1,r1,q1⟩=>jq (hb al s1 σ H1 _ I1 q1) fun u s2 kt2 ⟨y,H2,I2,r2,q2⟩=>
  jq (ho al s2 σ H2 x y v u _ I2 (r1.up kt2) r2 q2) fun c s3 kt3 ⟨z,H3,I3,r3,k,e,q3⟩=>?_) hm
 subst e
 cases r3
 exact gU ⟨H3,I3,q3⟩
theorem rY:(sizeLine:Nat)<2^63:=by rw[jT];decide
theorem bU.addS{al:List (Addr×Obj)}{σ:St}{H:Hp}{s:Shared}{Q:VK}{i j:Str}{t:Tk s.toks i}{t':Tk s.toks j}(I:bU X al σ H s)(q:Q (.str (i++j)) H)(hz:i.length+j.length<=sizeLine) :
  (if i.length==0 then Made.val (.str j t'.1)else if j.length==0 then Made.val (.str i t.1)else Made.str (i++j)).post (EP X al σ Q) s:=by
 split
 ·rename_i h
  have e:i++j=j:=by
   have h0:i.cps=#[]:=f_ (by simpa[Str.length]using h)
   show Str.append i j=j
   cases hj:j;simp[Str.append,h0]
  rw[e]at q
  exact⟨.str j,H,I,⟨t',rfl⟩,q⟩
 ·split
  ·rename_i h
   have e:i++j=i:=by
    have h0:j.cps=#[]:=f_ (by simpa[Str.length]using h)
    show Str.append i j=i
    cases hj:i;simp[Str.append,h0]
   rw[e]at q
   exact⟨.str i,H,I,⟨t,rfl⟩,q⟩
  ·exact⟨by rw[strLen_append];exact hz,⟨.str (i++j),H,I.tok _,I.tkS,q⟩⟩
theorem A2:n9 X (binaryOp .Add) (fun x y H Q=>∃i j,x=.str i/\y=.str j/\i.length+j.length<=sizeLine/\Q (.str (i++j)) H):=by
 intro al s σ H x y v u Q I rx ry h
 obtain⟨i,j,rfl,rfl,hz,q⟩:=h
 obtain⟨t,rfl⟩:=rx
 obtain⟨t',rfl⟩:=ry
 exact PySem.P.add_str (I.addS q hz)
theorem n_{x:V}{us:List Value}(r:cG nk [x] us):∃u,us=[u]/\c_ nk x u:=by
 cases r with
 |cons r1 r2=>cases r2;exact⟨_,rfl,r1⟩
theorem J0{x y:V}{us:List Value}(r:cG nk [x,y] us):∃u w',us=[u,w']/\c_ nk x u/\c_ nk y w':=by
 cases r with
 |cons r1 r2=>
  cases r2 with
  |cons r3 r4=>cases r4;exact⟨_,_,rfl,r1,r3⟩
theorem Dv(hc:X.calm=true):iU X (.builtin "max") (fun xs H Q=>∃i j,xs=[.int i,.int j]/\Q (.int (if j>i then j else i)) H):=by
 intro al s σ H xs us Q I r h
 obtain⟨i,j,rfl,q⟩:=h
 obtain⟨u,w',rfl,⟨t,rfl⟩,⟨t',rfl⟩⟩:=J0 r
 refine up (max_two_ints (I.ok.hd hc) fun h' tk k hk=>⟨_,H,I.kept k,?_,q⟩)
 by_cases hj:j>i
 ·rw[aJ hj,aJ hj];exact⟨_,rfl⟩
 ·rw[aV hj,aV hj];exact⟨_,rfl⟩
theorem Dw(hc:X.calm=true):iU X (.builtin "min") (fun xs H Q=>∃i j,xs=[.int i,.int j]/\Q (.int (if j<i then j else i)) H):=by
 intro al s σ H xs us Q I r h
 obtain⟨i,j,rfl,q⟩:=h
 obtain⟨u,w',rfl,⟨t,rfl⟩,⟨t',rfl⟩⟩:=J0 r
 refine up (min_two_ints (I.ok.hd hc) fun h' tk k hk=>⟨_,H,I.kept k,?_,q⟩)
 by_cases hj:j<i
 ·rw[aJ hj,aJ hj];exact⟨_,rfl⟩
 ·rw[aV hj,aV hj];exact⟨_,rfl⟩
theorem ww:iU X (.type "int") (fun xs H Q=>(∃i,xs=[.int i]/\Q (.int i) H)\/∃k,xs=[.bl k]/\Q (.int (if k then 1 else 0)) H):=by
 intro al s σ H xs us Q I r h
 rcases h with⟨i,rfl,q⟩|⟨k,rfl,q⟩
 ·obtain⟨u,rfl,t,rfl⟩:=n_ r
  exact call_int_int ⟨.int i,H,I,⟨_,rfl⟩,q⟩
 ·obtain⟨u,rfl,r1⟩:=n_ r
  cases r1
  exact call_int_bool ⟨.int (if k then 1 else 0),H,I.tok _,⟨_,rfl⟩,q⟩
end
end L2
namespace L2
variable{nk:Nat}
open PySem PySem.Spec PyProof.Rows
structure A3(h:Heap)(x dx C:Addr)(mA:Str->Option Value):Prop where
 obj:h.get? x=some (instObj C dx)
 ns:h.Ns1 dx mA
 ne:dx≠x
theorem Dx{h:Heap}{dx:Addr}{mA:Str->Option Value}(n:h.Ns1 dx mA):∃od,h.get? dx=some od/\∀name,lookIn name od=some (mA name):=by
 obtain⟨o,es,ep,ho,hd,hk,_,hm⟩:=n
 refine⟨o,ho,fun name=>?_⟩
 have e:=hm name
 unfold nsFind findBy at e
 rw[<- Array.find?_toList]at e
 unfold lookIn
 rw[hd]
 dsimp only
 split
 ·rename_i y q
  rw[q]at e
  exact hJ some e
 ·rename_i q
  rw[q]at e
  have a:es.toList.any (·.refKey)=false:=by
   rw[List.any_eq_false]
   intro y hy
   obtain⟨z,t,hkey⟩:=hk y (Array.mem_toList_iff.mp hy)
   simp[DictEntry.refKey,hkey]
  have a':¬ es.toList.any (·.refKey)=true:=by rw[a];exact eD
  rw[aV a']
  exact hJ some e
theorem A3.look{h:Heap}{x dx C:Addr}{mA:Str->Option Value}(I:A3 h x dx C mA):∃od,PySem.W.InstAt h x (instObj C dx) C (some od)/\∀name,lookIn name od=some (mA name):=
 let ⟨od,ho,hl⟩:=Dx I.ns
 ⟨od,⟨I.obj,rfl,rfl,ho⟩,hl⟩
section
variable{prog:Program}{w:World}{A:Around}{E:Value->Shared->Prop}{s:Shared}{K:Frag}{x dx C f:Addr}{mA:Str->Option Value}{name:Str}{v:Value}
theorem Iy{Sn:Bool}{Q:Value->Shared->Prop}(X:K.In s.heap)(I:A3 s.heap x dx C mA)(hg:plainGet K C name=true)(hh:PySem.W.hasDictIn K C=true)
  (ha:findIn K (.ref C) name=some none) (hv:mA name=some v) (Rq:PySem.W.handedIn v=true) (h:Q v { s with toks:=s.toks+1 }) :
  wpAny (model prog w) A (getAttr (.ref x) name Sn) Q E s:=by
 obtain⟨od,J,hl⟩:=I.look
 exact PySem.W.get_value X J (PySem.W.plainGet_of hg).1 (PySem.W.findObj_own hh ha rfl (by rw[hl,hv])) Rq h
theorem ER{pl:Sem Bool}{Q:Value×List Value->Shared->Prop}(X:K.In s.heap)(I:A3 s.heap x dx C mA)(hg:plainGet K C name=true)
  (hf:findIn K (.ref C) name=some (some (.ref f))) (ht:isFn K (.ref f)=true) (hv:mA name=none) (h:Q (.ref f,[.ref x]) s) :
  wpAny (model prog w) A (getMethod (.ref x) name pl) Q E s:=by
 obtain⟨od,J,hl⟩:=I.look
 exact PySem.W.method_fn X J (PySem.W.plainGet_of hg).1 (PySem.W.plainGet_of hg).2 hf (dv.mp ht) (by show(lookIn name od).map (·.isSome)=some false;rw[hl,hv];rfl) h
theorem Iz{ns:List Str}{Q:Unit->Shared->Prop}(X:K.In s.heap)(I:A3 s.heap x dx C mA)
  (hs:findIn K (.ref C) "__setattr__"=some (some (.builtin "object.__setattr__"))) (hp:PySem.W.plainOver K C=true) (ht:PySem.W.takerIn K C name=some none) (hh:PySem.W.hasDictIn K C=true)
  (hw:PySem.Within mA ns) (yV:ns.length<=sizeLine)
  (h:∀h',A3 h' x dx C (fun y=>if y=name then some v else mA y)->Heap.SameBut dx s.heap h'->Q () { s with heap:=h',toks:=s.toks+2 }) :
  wpAny (model prog w) A (setAttr (.ref x) name v) Q E s:=by
 obtain⟨od,J,hl⟩:=I.look
 refine PySem.W.set_plain X J hs (PySem.W.osa_open (s:={ s with toks:=s.toks+1 }) (r:=none) X J hp ht fun b=>?_)
 obtain⟨cd,hc,hd'⟩:=PySem.W.any_some hh
 have hx:s.heap.get? x=some ⟨.ref C,some dx,.plain,#[]⟩:=I.obj
 refine aa (ay (aa (aa (wpAny_loadPart hx (aa (PySem.W.Looks.here (s:={ s with toks:=s.toks+1 }) (PySem.W.looks_clsIn X hc) ?_))))))
 rw[hd']
 refine ay (a:=some dx) (aa (ay (aa ?_)))
 refine wpAny_nsSet1 (s:={ s with toks:=s.toks+1 }) I.ns fun h' QY sY=>?_
 obtain⟨oD,esD,epD,hoD,hdD,hcD⟩:=QY.count (PySem.Within.cons name v hw)
 refine aa (wpAny_lookBehind hoD (by rw[hdD];exact pastItsLine_dict (aM hcD (by rw[bd];omega))) ?_)
 exact ay (h _ ⟨(sY.2 _ (Ne.symm I.ne)).trans I.obj,QY,I.ne⟩ sY)
theorem ES{R:Result->Shared->Prop}{vs:List Value}{kw:List (Str×Value)}(X:K.In s.heap)(hm:makesIn K C=true)
  (hi:findIn K (.ref C) "__init__"=some (some (.ref f))) (hf:PySem.W.typeIn K (.ref f)=some (.type "function"))
  (h:codeAny (model prog w) (A.under (.builtin "type.__call__" ⟨.ref C::vs,kw⟩)) (.call (.ref f) ⟨.ref (s.heap.objs.size+1)::vs,kw⟩) (PySem.W.InitBack (s.heap.objs.size+1) R)
   { s with heap:=(s.heap.push emptyDict).push (instObj C s.heap.objs.size) }) :
  codeAny (model prog w) A (.call (.ref C) ⟨vs,kw⟩) R s:=by
 obtain⟨hh,g,d,t,os⟩:=s
 exact PySem.W.make_core (PySem.W.makes_of X hm) (PySem.W.looks_findIn X hi) (fun self=>PySem.W.bind_fn X self hf) (.inl rfl) h
end
def nR(f:Str)(v:V):List (Str×V)->List (Str×V)
 |[]=>[(f,v)]
 |(g,x)::r=>if g=f then(g,v)::r else(g,x)::nR f v r
theorem tm(f g:Str)(v:V):∀fs:List (Str×V),(nR f v fs).lookup g=if g=f then some v else fs.lookup g
 |[]=>by
  show List.lookup g [(f,v)]=_
  by_cases h:g=f
  ·have hb:(g==f)=true:=dv.mpr h
   simp only[List.lookup,hb,aJ h]
  ·have hb:(g==f)=false:=bj.mpr h
   simp only[List.lookup,hb,aV h]
 |(k,x)::r=>by
  have ih:=tm f g v r
  rw[show nR f v ((k,x)::r)=(if k=f then(k,v)::r else(k,x)::nR f v r)from rfl]
  by_cases hk:k=f
  ·rw[aJ hk]
   by_cases h:g=k
   ·have hb:(g==k)=true:=dv.mpr h
    simp only[List.lookup,hb,aJ (h.trans hk)]
   ·have hb:(g==k)=false:=bj.mpr h
    simp only[List.lookup,hb,aV (fun e:g=f=>h (e.trans hk.symm))]
  ·rw[aV hk]
   by_cases h:g=k
   ·have hb:(g==k)=true:=dv.mpr h
    simp only[List.lookup,hb,aV (fun e:g=f=>hk (h.symm.trans e))]
   ·have hb:(g==k)=false:=bj.mpr h
    simp only[List.lookup,hb]
    exact ih
theorem rZ(f:Str)(v:V):∀fs:List (Str×V),f∈(nR f v fs).map (·.1)/\∀g,g∈fs.map (·.1)->g∈(nR f v fs).map (·.1)
 |[]=>⟨by simp[nR],fun g h=>by simp at h⟩
 |(k,x)::r=>by
  obtain⟨i1,i2⟩:=rZ f v r
  rw[show nR f v ((k,x)::r)=(if k=f then(k,v)::r else(k,x)::nR f v r)from rfl]
  by_cases hk:k=f
  ·rw[aJ hk]
   subst hk
   exact⟨by simp,fun g h=>by simpa using h⟩
  ·rw[aV hk]
   refine⟨?_,fun g h=>?_⟩
   ·rw[bn]
    exact aR _ i1
   ·rw[bn]at h ⊢
    rcases aS.mp h with e|e
    ·exact aS.mpr (.inl e)
    ·exact aR _ (i2 g e)
theorem tq(f:Str)(v:V):∀fs:List (Str×V),(nR f v fs).length<=fs.length+1
 |[]=>by simp[nR]
 |(k,x)::r=>by
  have ih:=tq f v r
  rw[show nR f v ((k,x)::r)=(if k=f then(k,v)::r else(k,x)::nR f v r)from rfl]
  by_cases hk:k=f
  ·rw[aJ hk,bd,bd];omega
  ·rw[aV hk,bd,bd];omega
theorem rV.some_of{v:V}{o:Option Value}(r:rV nk (some v) o):∃u,o=some u/\c_ nk v u:=by
 cases o with
 |none=>exact(show False from r).elim
 |some u=>exact⟨u,rfl,r⟩
theorem rV.none_of{o:Option Value}(r:rV nk none o):o=none:=by
 cases o with
 |none=>rfl
 |some u=>exact(show False from r).elim
theorem Dy{v:V}{u:Value}(r:c_ nk v u):PySem.W.handedIn u=true:=by
 cases v with
 |non=>cases(show u=Value.none from r);rfl
 |bl b=>cases(show u=Value.bool b from r);rfl
 |int i=>obtain⟨t,e⟩:=(show ∃t,u=Value.int i t from r);cases e;rfl
 |str x=>obtain⟨t,e⟩:=(show ∃t:Tk _ x,u=Value.str x t.1 from r);cases e;rfl
 |byt b=>obtain⟨t,e⟩:=(show ∃t,u=Value.bytes b t from r);cases e;rfl
 |flt b=>obtain⟨t,e⟩:=(show ∃t,u=Value.float b t from r);cases e;rfl
 |ref a=>cases(show u=Value.ref a from r);rfl
 |ty n=>cases(show u=Value.type n from r);rfl
section
variable{P:Program}{w:World}{H H':Hp}{h h':Heap}{a C dx:Addr}{fs QZ:List (Str×V)}
theorem uh(hok:rR P w nk H h)(e:H a=some (.ins C dx fs)):∃mA,A3 h a dx C mA/\(∀f,rV nk (fs.lookup f) (mA f))/\PySem.Within mA (fs.map (·.1))/\fs.length<=1000/\H dx=some (.own a):=by
 obtain⟨d,z,ne,ob,mA,n,r,q⟩:=(show gz P w _ H h a (.ins C dx fs)from hok a _ e)
 exact⟨mA,⟨ob,n,ne⟩,r,q,z,d⟩
end
structure Cls(K:Frag)(C:Addr):Prop where
 pg:plainGet K C Str.empty=true
 hd:PySem.W.hasDictIn K C=true
 po:PySem.W.plainOver K C=true
 sa:findIn K (.ref C) "__setattr__"=some (some (.builtin "object.__setattr__"))
theorem Cls.get{K:Frag}{C:Addr}(c:Cls K C)(f:Str):plainGet K C f=true:=c.pg
def p6(K:Frag)(C:Addr)(f:Str):Prop:=findIn K (.ref C) f=some none
theorem p6.taker{K:Frag}{C:Addr}{f:Str}(n:p6 K C f):PySem.W.takerIn K C f=some none:=by
 unfold PySem.W.takerIn
 rw[show findIn K (.ref C) f=some none from n]
 rfl
structure OB(K:Frag)(C:Addr)(m:Str)(f:Addr):Prop where
 at_:findIn K (.ref C) m=some (some (.ref f))
 fn:isFn K (.ref f)=true
 kp:keepIn K (.ref f)=true
section
variable{X:Cx}{al:List (Addr×Obj)}{σ:St}{H:Hp}{s:Shared}{a C dx:Addr}{fs:List (Str×V)}{f:Str}{v:V}{A:Around}{E:Value->Shared->Prop}
theorem A4{b:Bool}{Q:Value->Shared->Prop}(I:bU X al σ H s)(e:H a=some (.ins C dx fs))(c:Cls X.K C)(n:p6 X.K C f)(l:fs.lookup f=some v)
  (h:∀u s',bU X al σ H s'->c_ s'.toks v u->Q u s'):wpAny (model X.prog X.w) A (getAttr (.ref a) f b) Q E s:=by
 obtain⟨mA,O,r,_,_,_⟩:=uh I.hok e
 obtain⟨u,hu,ru⟩:=rV.some_of (v:=v) (o:=mA f) (by rw[<- l];exact r f)
 exact Iy I.kIn O (c.get f) c.hd n hu (Dy ru) (h u _ (I.tok _) (ru.up (bp _)))
theorem uz{m:Str}{g:Addr}{pl:Sem Bool}{Q:Value×List Value->Shared->Prop}(I:bU X al σ H s)(e:H a=some (.ins C dx fs))(c:Cls X.K C)(k:OB X.K C m g)(l:fs.lookup m=none)
  (h:Q (.ref g,[.ref a]) s):wpAny (model X.prog X.w) A (getMethod (.ref a) m pl) Q E s:=by
 obtain⟨mA,O,r,_,_,_⟩:=uh I.hok e
 have hn:mA m=none:=rV.none_of (by rw[<- l];exact r m)
 exact ER I.kIn O (c.get m) k.at_ k.fn hn h
theorem A5{y:V}{u:Value}{Q:Unit->Shared->Prop}(I:bU X al σ H s)(e:H a=some (.ins C dx fs))(c:Cls X.K C)(n:p6 X.K C f)(hl:fs.length<1000)(ry:c_ s.toks y u)
  (h:∀s',bU X al σ (gf H a (.ins C dx (nR f y fs))) s'->Q () s'):wpAny (model X.prog X.w) A (setAttr (.ref a) f u) Q E s:=by
 obtain⟨mA,O,r,wi,_,ho⟩:=uh I.hok e
 have hz:(fs.map (·.1)).length<=sizeLine:=by rw[aE,jT];omega
 refine Iz I.kIn O c.sa c.po n.taker c.hd wi hz fun h' O' sb=>h _ ?_
 have hd:∃o,h'.get? dx=some o:=let ⟨o,_,_,e',_⟩:=O'.ns;⟨o,e'⟩
 refine I.write (x:=a) (e:=dx) (by rw[e];exact True.intro) (.inr ho) (fun b q hb z=>(sb.2 b hb).trans z) hd ?_
 refine⟨by rw[cZ O.ne];exact ho,?_,O.ne,O'.obj,_,O'.ns,fun g=>?_,fun g hg=>?_⟩
 ·have:=tq f y fs;omega
 ·show rV _ ((nR f y fs).lookup g) (if g=f then some u else mA g)
  rw[tm]
  by_cases q:g=f
  ·rw[aJ q,aJ q];exact c_.up (mG _ _) ry
  ·rw[aV q,aV q];exact(r g).up (mG _ _)
 ·by_cases q:g=f
  ·rw[q];exact(rZ f y fs).1
  ·refine(rZ f y fs).2 g (wi g fun z=>hg ?_)
   show(if g=f then some u else mA g)=none
   rw[aV q];exact z
theorem bU.made(I:bU X al σ H s):bU X al σ (gf (gf H s.heap.objs.size (.own (s.heap.objs.size+1))) (s.heap.objs.size+1) (.ins C s.heap.objs.size []))
  { s with heap:=(s.heap.push emptyDict).push (instObj C s.heap.objs.size) }:=by
 have e1:(s.heap.push emptyDict).get? s.heap.objs.size=some emptyDict:=aB s.heap rfl
 have e2:((s.heap.push emptyDict).push (instObj C s.heap.objs.size)).get? (s.heap.objs.size+1)=some (instObj C s.heap.objs.size):=by
  have:=aB (s.heap.push emptyDict) (o:=instObj C s.heap.objs.size) rfl
  rwa[bt]at this
 have e3:(s.heap.push emptyDict).Ns s.heap.objs.size (fun _=>none):=⟨emptyDict,#[],_,e1,rfl,(fun e he=>absurd he (by simp)),fun _=>rfl⟩
 have I1:=I.laid (a:=s.heap.objs.size) (o:=.own (s.heap.objs.size+1)) (h':=s.heap.push emptyDict) (t':=s.toks) (fun b u q=>aq _ q) (az _) ⟨_,e1⟩
 refine I1.laid (a:=s.heap.objs.size+1) (o:=.ins C s.heap.objs.size []) (t':=s.toks) (fun b u q=>aq _ q) (Nat.le_of_eq (bt _ _)) ?_
 have ne:s.heap.objs.size≠s.heap.objs.size+1:=a7 (bZ _)
 refine⟨by rw[cZ ne,iA],ce _,ne,e2,fun _=>none,(Heap.Ns1.of_empty e3).at fun o q=>aq _ q,fun _=>True.intro,fun y hy=>absurd rfl hy⟩
theorem IA{prog:Program}{w:World}{env:Env}{e:Expr}{f:Str}{pos:Pos}{s:Shared}{Q:Value->Shared->Prop}(hb:attributeBase e f env (eval e env)=eval e env)
  (h:wpAny (model prog w) A (eval e env) (fun o s₁=>wpAny (model prog w) A (getAttr o f true) Q E s₁) E s):wpAny (model prog w) A (eval (.Attribute e f pos) env) Q E s:=
 Attribute_any_ h (by rw[arm_eval_Attribute,hb])
end
def RN(K:Frag)(ta:TE)(f:Str):TE:=fun σ H Q=>ta σ H fun x H1=>∃a C dx fs v,x=.ref a/\H1 a=some (.ins C dx fs)/\Cls K C/\p6 K C f/\fs.lookup f=some v/\Q v H1
def RO(K:Frag)(ta tv:TE)(f:Str):TS:=fun D σ H=>tv σ H fun y H1=>ta σ H1 fun x H2=>∃a C dx fs,x=.ref a/\H2 a=some (.ins C dx fs)/\Cls K C/\p6 K C f/\fs.length<1000 /\
 D.nx σ (gf H2 a (.ins C dx (nR f y fs)))
section
variable{X:Cx}{o e value:Expr}{f:Str}{pos ie Sy:Pos}{ta tv:TE}
theorem LW(he:PE X e ta)(hb:attributeBase e f X.env (eval e X.env)=eval e X.env):PE X (.Attribute e f pos) (RN X.K ta f):=by
 intro al s σ H Q I h
 refine IA hb (jq (he al s σ H _ I h) fun u s1 kt1 ⟨x,H1,I1,rx,a,C,dx,fs,v,ex,ea,c,n,l,q⟩=>?_)
 subst ex
 obtain rfl:u=Value.ref a:=rx
 exact A4 I1 ea c n l fun u' s2 I2 ru=>⟨v,H1,I2,ru,q⟩
theorem LX(ha:PE X o ta)(hv:PE X value tv)(hs:swapsWith value (some (.Attribute o f ie)) pos.line X.env=pure false):PS X (.Assign [.Attribute o f ie] value pos) (RO X.K ta tv f):=by
 intro al s σ H D I h
 refine plainObj_wpAny_Assign_Attribute (jq (hv al s σ H _ I h) fun u s1 kt1 ⟨y,H1,I1,ry,q⟩=>jq (ha al s1 σ H1 _ I1 q) fun ov s2 kt2 ⟨x,H2,I2,rx,a,C,dx,fs,ex,ea,c,n,l,q2⟩=>?_) hs
 subst ex
 obtain rfl:ov=Value.ref a:=rx
 exact A5 I2 ea c n l (ry.up kt2) fun s3 I3=>⟨σ,_,I3,q2⟩
end
section
variable{X:Cx}{al:List (Addr×Obj)}{σ:St}{H:Hp}{s:Shared}{A:Around}{E:Value->Shared->Prop}{Q:Value->Shared->Prop}{c:Value}{b:Bool}
inductive tQ(K:Frag)(H:Hp):V->Value->Prop where
 |non:tQ K H .non (.type "NoneType")
 |bl (x:Bool):tQ K H (.bl x) (.type "bool")
 |int (i:Int):tQ K H (.int i) (.type "int")
 |str (x:Str):tQ K H (.str x) (.type "str")
 |flt (x:UInt64):tQ K H (.flt x) (.type "float")
 |lst {a:Addr} {xs:List V} (e:H a=some (.lst xs)):tQ K H (.ref a) (.type "list")
 |frz {a:Addr} {o:Obj} {xs:List V} (e:H a=some (.frz o (.lst xs))):tQ K H (.ref a) (.type "list")
 |tup {a:Addr} {xs:List V} (e:H a=some (.tup xs)):tQ K H (.ref a) (.type "tuple")
 |dK {a:Addr} {gk:List (uy×V)} (e:H a=some (.dK gk)):tQ K H (.ref a) (.type "dict")
 |dT {a:Addr} {gk:List (List uy×V)} (e:H a=some (.dT gk)):tQ K H (.ref a) (.type "dict")
 |ins {a C dx:Addr} {fs:List (Str×V)} (e:H a=some (.ins C dx fs)) (cl:Cls K C) (ha:findIn K (.ref C) "__class__"=some (some (.builtin "object.__class__")))
   (hn:PySem.W.specialIn K (.builtin "object.__class__") "__get__"=some (some (.builtin "getset_descriptor.__get__"))) (Rw:PySem.W.takesIn K (.builtin "object.__class__")=some true)
   (hm:PySem.W.mroIn K C (.type "object")=some true):tQ K H (.ref a) (.ref C)
theorem oZ{x:V}{u t:Value}(I:bU X al σ H s)(rx:c_ s.toks x u)(ty:tQ X.K H x t)(e:PySem.W.kitOne X.K t c=some b)(h:∀tk,Q (.bool b) { s with toks:=tk }) :
  wpAny (model X.prog X.w) A (call (.builtin "isinstance") [u,c]) Q E s:=by
 cases ty with
 |non=>cases(show u=Value.none from rx);exact kia_one PySem.W.kitx_none I.kIn True.intro e (fun z=>nomatch z) h
 |bl y=>cases(show u=Value.bool y from rx);exact kia_one PySem.W.kitx_bool I.kIn True.intro e (fun z=>nomatch z) h
 |int i=>obtain⟨t,q⟩:=(show ∃t,u=Value.int i t from rx);cases q;exact kia_one PySem.W.kitx_int I.kIn True.intro e (fun z=>nomatch z) h
 |str y=>obtain⟨t,q⟩:=(show ∃t:Tk _ y,u=Value.str y t.1 from rx);cases q;exact kia_one PySem.W.kitx_str I.kIn True.intro e (fun z=>nomatch z) h
 |flt y=>obtain⟨t,q⟩:=(show ∃t,u=Value.float y t from rx);cases q;exact kia_one PySem.W.kitx_float I.kIn True.intro e (fun z=>nomatch z) h
 |@lst a xs ea=>
  cases(show u=Value.ref a from rx)
  obtain⟨_,_,n,_,h1⟩:=(show gz X.prog X.w _ H s.heap a (.lst xs)from I.hok a _ ea)
  exact kia_one PySem.W.kitx_list I.kIn ⟨_,h1,rfl⟩ e (fun z=>nomatch z) h
 |@frz a ob xs ea=>
  cases(show u=Value.ref a from rx)
  obtain⟨_,_,_,n,_,h1⟩:=(show gz X.prog X.w _ H s.heap a (.frz ob (.lst xs))from I.hok a _ ea)
  exact kia_one PySem.W.kitx_list I.kIn ⟨_,h1,rfl⟩ e (fun z=>nomatch z) h
 |@tup a xs ea=>
  cases(show u=Value.ref a from rx)
  obtain⟨_,_,_,p⟩:=(show gz X.prog X.w _ H s.heap a (.tup xs)from I.hok a _ ea)
  obtain⟨o,h1,h2,_⟩:=p
  exact kia_one PySem.W.kitx_tuple I.kIn ⟨o,h1,h2⟩ e (fun z=>nomatch z) h
 |@dK a gk ea=>
  cases(show u=Value.ref a from rx)
  obtain⟨_,_,vs,_,p⟩:=(show gz X.prog X.w _ H s.heap a (.dK gk)from I.hok a _ ea)
  obtain⟨o,es,ep,h1,h2,_⟩:=p
  exact kia_one PySem.W.kitx_dict I.kIn ⟨o,h1,h2.1⟩ e (fun z=>nomatch z) h
 |@dT a gk ea=>
  cases(show u=Value.ref a from rx)
  obtain⟨_,_,xs,_,o,es,ep,h1,h2,_⟩:=(show gz X.prog X.w _ H s.heap a (.dT gk)from I.hok a _ ea)
  exact kia_one PySem.W.kitx_dict I.kIn ⟨o,h1,h2.1⟩ e (fun z=>nomatch z) h
 |@ins a C dx fs ea cl ha hn Rw hm=>
  cases(show u=Value.ref a from rx)
  obtain⟨mA,O,_⟩:=uh I.hok ea
  obtain⟨od,J,_⟩:=O.look
  exact kia_one (PySem.W.kitx_own (cl.get _) cl.hd ha hn Rw hm) I.kIn J e (fun z=>nomatch z) h
end
end L2
namespace L2
variable{nk:Nat}
open PySem PySem.Spec PyProof.Rows
structure i'(k:Nat)(A:Around):Prop where
 hd:A.handled=none
 dp:A.depth+2*k+5<recursionLimit
 un:A.units+16*k+200<cLine
theorem i'.mono{j k:Nat}{A:Around}(r:i' k A)(h:j<=k):i' j A:=⟨r.hd,by have:=r.dp;omega,by have:=r.un;omega⟩
theorem i'.deeper{k:Nat}{A:Around}(r:i' (k+1) A)(env:Env):i' k (A.deeper env):=
 ⟨r.hd,by have:=r.dp;show A.depth+1+2*k+5<_;omega,by have:=r.un;show A.units+3+16*k+200<_;omega⟩
theorem A6{A:Around}{C:Addr}{us:List Value}{kw:List (Str×Value)}:(A.under (.builtin "type.__call__" ⟨.ref C::us,kw⟩)).depth=A.depth+1:=by
 first|rfl|simp[Around.under,Code.weight,Code.isCreation,Code.isGuard,Code.isCaller,Code.frames,Code.isFrame,guardIds]
theorem A7{A:Around}{C:Addr}{us:List Value}{kw:List (Str×Value)}:(A.under (.builtin "type.__call__" ⟨.ref C::us,kw⟩)).units=A.units+1:=by
 first|rfl|simp[Around.under,Code.cUnits,Code.frames,Code.isFrame]
theorem i'.make{k:Nat}{A:Around}(r:i' (k+1) A)(C:Addr)(us:List Value)(kw:List (Str×Value)):i' k (A.under (.builtin "type.__call__" ⟨.ref C::us,kw⟩)):=
 ⟨r.hd,by have:=r.dp;rw[A6];omega,by have:=r.un;rw[A7];omega⟩
theorem i'.depth{k:Nat}{A:Around}(r:i' k A):A.depth<recursionLimit:=by have:=r.dp;omega
theorem i'.units{k:Nat}{A:Around}(r:i' k A):A.units+64<cLine:=by have:=r.un;omega
def RP:TA:=fun _ H Q=>Q [] H
def OC(ta:TE)(tr:TA):TA:=fun σ H Q=>ta σ H fun x H1=>tr σ H1 fun xs H2=>Q (x::xs) H2
section
variable{X:Cx}{e:Expr}{es:List Expr}{te:TE}{t:TA}{pos:Pos}
theorem ET:PA X [] RP:=fun _ _ _ _ H Q I h=>gW ⟨[],H,I,.nil,h⟩
theorem xw(ha:PE X e te)(hr:PA X es t)(hs:starEach (e::es) X.env=(false,eval e X.env)::starEach es X.env:=by rfl):PA X (e::es) (OC te t):=by
 intro pos al s σ H Q I h
 rw[hs]
 show wpAny _ _ (spliced ((false,eval e X.env)::backTo pos (starEach es X.env))) _ _ s
 refine fx (jq (ha al s σ H _ I h) fun u s1 kt1 ⟨x,H1,I1,r1,q1⟩=>?_)
 exact jq (hr pos al s1 σ H1 _ I1 q1) fun us s2 kt2 ⟨xs,H2,I2,r2,q2⟩=>⟨x::xs,H2,I2,.cons (r1.up kt2) r2,q2⟩
end
abbrev Sp:=List V->Hp->VK->XK->Prop
abbrev Dz:=List Env->Hp->Shared->XK->Value->Shared->Prop
structure A8(P:Program)(w:World)(K:Frag)(mg:Str->Option Value)(base:Heap)(A:Around)(outer:List Env)(s:Shared)(H:Hp):Prop where
 frames:A.frames=some outer
 mod:Mod K mg base
 bs:∀b o,base.get? b=some o->s.heap.get? b=some o/\H b=none
 bsz:base.objs.size<=s.heap.objs.size
 funs:s.heap.FunFrames base outer
 frf:∀b∈uf outer,H b=none
 hok:rR P w s.toks H s.heap
 bare:AllBare s.gens
def CE(outer:List Env)(P:Program)(w:World)(H:Hp)(s:Shared)(Q:VK)(u:Value)(s':Shared):Prop:=
 ∃v H',s'.os=s.os/\AllBare s'.gens/\Un (uf outer) [] H H' s.heap s'.heap/\rR P w s'.toks H' s'.heap/\c_ s'.toks v u/\Q v H'
def CR(CX:Dz)(outer:List Env)(P:Program)(w:World)(H:Hp)(s:Shared)(Q:VK)(E:XK)(r:Result)(s':Shared):Prop:=
 match r with
 |.ok (.ret u)=>CE outer P w H s Q u s'
 |.ok _=>False
 |.error e=>CX outer H s E e s'
structure cV(P:Program)(w:World)(K:Frag)(mg:Str->Option Value)(base:Heap)(CX:Dz)(k:Nat)(f:Addr)(fd:FuncData)(ps:List Str)(sp:Sp):Prop where
 len:∀vs H Q E,sp vs H Q E->vs.length=ps.length
 run:∀(A:Around) (outer:List Env) (s:Shared) (H:Hp) (args:Args) (us:List Value) (vs:List V) (Q:VK) (E:XK),i' k A->A8 P w K mg base A outer s H->(0<s.toks\/∃n,ps=[n]/\fd.scope.names.lookup n=some .local)->BindsTo s fd args (ps.zip us)->cG s.toks vs us->sp vs H Q E ->
  codeAny (model P w) A (.call (.ref f) args) (CR CX outer P w H s Q E) s
theorem cV.mono{P:Program}{w:World}{K:Frag}{mg:Str->Option Value}{base:Heap}{CX:Dz}{j k:Nat}{f:Addr}{fd:FuncData}{ps:List Str}{sp:Sp}(F:cV P w K mg base CX j f fd ps sp)(h:j<=k) :
  cV P w K mg base CX k f fd ps sp:=⟨F.len,fun A outer s H args us vs Q E hr=>F.run A outer s H args us vs Q E (hr.mono h)⟩
theorem cV.imp{P:Program}{w:World}{K:Frag}{mg:Str->Option Value}{base:Heap}{CX:Dz}{k:Nat}{f:Addr}{fd:FuncData}{ps:List Str}{sp Th:Sp}(F:cV P w K mg base CX k f fd ps sp)
  (h:∀vs H Q E,Th vs H Q E->sp vs H Q E):cV P w K mg base CX k f fd ps Th:=
 ⟨fun vs H Q E q=>F.len vs H Q E (h _ _ _ _ q),fun A outer s H args us vs Q E hr he hp hb hv hs=>F.run A outer s H args us vs Q E hr he hp hb hv (h _ _ _ _ hs)⟩
theorem A8.make{P:Program}{w:World}{K:Frag}{mg:Str->Option Value}{base:Heap}{A:Around}{outer:List Env}{s:Shared}{H:Hp}(e:A8 P w K mg base A outer s H)(C:Addr)(us:List Value)(kw:List (Str×Value)) :
  A8 P w K mg base (A.under (.builtin "type.__call__" ⟨.ref C::us,kw⟩)) outer s H:=⟨by first|exact e.frames|(simpa[Around.under,Code.envs,Code.isFrame,pushEnvs]using e.frames),e.mod,e.bs,e.bsz,e.funs,e.frf,e.hok,e.bare⟩
section
variable{X:Cx}{al:List (Addr×Obj)}{σ:St}{H:Hp}{s s':Shared}
theorem bU.env0(I:bU X al σ H s):A8 X.prog X.w X.K X.mg X.base X.A X.stack s H:=
 ⟨I.ok.frames,I.ok.mod,I.bs,aM I.ok.bsz I.sz,I.stack,I.stkFree,I.hok,I.bare⟩
theorem bU.after{Q:VK}{u:Value}(I:bU X al σ H s)(h:CE X.stack X.prog X.w H s Q u s')(hk:s.toks<=s'.toks):EP X al σ Q u s':=by
 obtain⟨v,H',os,bare,un,hok,r,q⟩:=h
 obtain⟨hh,g,d,t,os'⟩:=s'
 obtain rfl:os'=s.os:=os
 exact⟨v,H',I.call (h':=hh) (g':=g) (d':=d) (t':=t) (ch:=[]) un hok bare (fun b z=>absurd z (by simp)) hk,r,q⟩
end
def pF(K:Frag)(fd:FuncData)(ps:List Str)(ds:List Value):Prop:=
 ∀(s:Shared) (us:List Value),K.In s.heap->(us++ds).length=ps.length->BindsTo s fd ⟨us,[]⟩ (ps.zip (us++ds))
theorem pF.all{K:Frag}{fd:FuncData}{ps:List Str}(h:∀us:List Value,us.length=ps.length->bindArgs fd ⟨us,[]⟩=pure (ps.zip us)):pF K fd ps []:=fun s us _ hl=>by
 rw[bf]at hl ⊢
 exact .of_eq (h us hl)
def LY(CX:Dz)(X:Cx)(E:XK):Prop:=∀(al:List (Addr×Obj)) (σ:St) (H:Hp) (s:Shared) (e:Value) (s':Shared),bU X al σ H s->s.toks<=s'.toks->CX X.stack H s E e s'->X.xe e s'
section
variable{X:Cx}{CX:Dz}{k:Nat}{f C:Addr}{fd:FuncData}{ps:List Str}{sp:Sp}{dvs:List V}{ds:List Value}{E:XK}{x m:Str}{p pos f9:Pos}{e o:Expr}{es:List Expr}{ta:TE}{t:TA}
structure Mk(K:Frag)(C f:Addr):Prop where
 makes:makesIn K C=true
 init:findIn K (.ref C) "__init__"=some (some (.ref f))
 fn:isFn K (.ref f)=true
 kp:keepIn K (.ref C)=true
theorem EU{al:List (Addr×Obj)}{σ:St}{H:Hp}{s:Shared}{Q:VK}{us:List Value}{vs:List V}(M:Mk X.K C f)(F:cV X.prog X.w X.K X.mg X.base CX k f fd ps sp)(hr:i' (k+1) X.A)(hb:pF X.K fd ps ds)(hd:cG 0 dvs ds)
  (hx:LY CX X E) (I:bU X al σ H s) (r:cG s.toks vs us)
  (h:∀x dx,H x=none->H dx=none->dx≠x->sp (.ref x::(vs++dvs)) (gf (gf H dx (.own x)) x (.ins C dx [])) (fun v H2=>v=.non/\Q (.ref x) H2) E) :
  wpAny (model X.prog X.w) X.A (call (.ref C) us) (EP X al σ Q) X.xe s:=by
 have hq:=h (s.heap.objs.size+1) s.heap.objs.size (I.hok.fresh (bp _)) (I.hok.fresh (az _)) (a7 (bZ _))
 have I2:=bU.made (C:=C) I
 have r2:cG _ (V.ref (s.heap.objs.size+1)::(vs++dvs)) (Value.ref (s.heap.objs.size+1)::(us++ds)):=.cons rfl ((r.append (hd.up (ce _))).up (by first|exact az _|exact mG _ _|omega))
 have hl:(Value.ref (s.heap.objs.size+1)::us++ds).length=ps.length:=by
  have e:=r2.length
  rw[F.len _ _ _ _ hq]at e
  exact e.symm
 refine up (qx (ES (f:=f) I.kIn M.makes M.init (dv.mp M.fn) (ig (F.run _ X.stack _ _ ⟨Value.ref (s.heap.objs.size+1)::us,[]⟩ (Value.ref (s.heap.objs.size+1)::(us++ds)) _ _ E (hr.make C us [])
  (I2.env0.make C us []) (.inl I2.pos) (hb _ (Value.ref (s.heap.objs.size+1)::us) I2.kIn hl) r2 hq) fun r s' hq'=>?_)))
 cases r with
 |error e=>exact fun kt=>hx al σ _ _ e s' I2 kt hq'
 |ok fl=>
  cases fl with
  |ret u=>
   have kq:s.toks<=s'.toks->_:=fun kt=>I2.after hq' kt
   refine⟨?_,fun kt=>?_⟩
   ·obtain⟨v,H',_,_,_,_,rv,ev,_⟩:=hq'
    subst ev
    exact rv
   ·obtain⟨v,H',I3,rv,ev,q3⟩:=kq kt
    exact⟨V.ref (s.heap.objs.size+1),H',I3,rfl,q3⟩
  |next=>exact False.elim hq'
  |brk=>exact False.elim hq'
  |cont=>exact False.elim hq'
end
section
variable{X:Cx}{CX:Dz}{k:Nat}{f C:Addr}{fd:FuncData}{ps ks:List Str}{sp:Sp}{E:XK}{x m:Str}{p pos f9 Tu:Pos}{e o:Expr}{es:List Expr}{TJ:List Keyword}{te ta:TE}{t tk:TA}{nm:Option Str}
variable{g:List Value->List Value->List Value}{gV:List V->List V->List V}
end
structure a_(N P:List Str)(sc:Scope):Prop where
 kind:sc.kind=.function
 co:sc.isCoroutine=false
 gen:sc.isGenerator=false
 nd:N.Nodup
 pre:N.take P.length=P
 par:∀x∈P,sc.names.lookup x=some .local\/sc.names.lookup x=some .cell
 nofree:∀y∈sc.names,y.2≠.free
theorem wz{kindOf:Str->Option NameKind}{x:Str}:∀{binds:List (Str×Value)} {m:Str->Option Value},(∀v,(x,v)∉binds)->bindL kindOf binds m x=m x
 |[],_,_=>rfl
 |(n,v)::r,m,h=>by
  unfold bindL
  rw[wz fun w hw=>h w (aR _ hw)]
  split
  ·have:x≠n:=by rintro rfl;exact h v bB
   simp[this]
  ·rfl
theorem wA{kindOf:Str->Option NameKind}{x:Str}:∀{binds:List (Str×Value)} {m:Str->Option Value},(∀v,(x,v)∉binds)->bindC kindOf binds m x=m x
 |[],_,_=>rfl
 |(n,v)::r,m,h=>by
  unfold bindC
  rw[wA fun w hw=>h w (aR _ hw)]
  split
  ·rfl
  ·have:x≠n:=by rintro rfl;exact h v bB
   simp[this]
theorem wB{kindOf:Str->Option NameKind}{x:Str}{v:Value}:∀{P:List Str} {vs:List Value} {i:Nat} {m:Str->Option Value},P.Nodup->P[i]?=some x->vs[i]?=some v->kindOf x=some .local ->
  bindL kindOf (P.zip vs) m x=some v
 |[],_,_,_,_,h,_,_=>by simp at h
 |_::_,[],_,_,_,_,h,_=>by simp at h
 |p::P,w::vs,0,m,nd,h1,h2,hk=>by
  simp at h1 h2;subst h1;subst h2
  show bindL kindOf ((p,w)::P.zip vs) m p=_
  unfold bindL
  rw[wz fun v hv=>(iK.mp nd).1 (nJ hv).1,aJ hk]
  simp
 |p::P,w::vs,i+1,m,nd,h1,h2,hk=>by
  show bindL kindOf ((p,w)::P.zip vs) m x=_
  unfold bindL
  exact wB (i:=i) (iK.mp nd).2 (by simpa using h1) (by simpa using h2) hk
theorem wC{kindOf:Str->Option NameKind}{x:Str}{v:Value}:∀{P:List Str} {vs:List Value} {i:Nat} {m:Str->Option Value},P.Nodup->P[i]?=some x->vs[i]?=some v->kindOf x≠some .local ->
  bindC kindOf (P.zip vs) m x=some v
 |[],_,_,_,_,h,_,_=>by simp at h
 |_::_,[],_,_,_,_,h,_=>by simp at h
 |p::P,w::vs,0,m,nd,h1,h2,hk=>by
  simp at h1 h2;subst h1;subst h2
  show bindC kindOf ((p,w)::P.zip vs) m p=_
  unfold bindC
  rw[wA fun v hv=>(iK.mp nd).1 (nJ hv).1,aV hk]
  simp
 |p::P,w::vs,i+1,m,nd,h1,h2,hk=>by
  show bindC kindOf ((p,w)::P.zip vs) m x=_
  unfold bindC
  exact wC (i:=i) (iK.mp nd).2 (by simpa using h1) (by simpa using h2) hk
def tt(N:List Str)(vs:List V):St:=vs.map some++List.replicate (N.length-vs.length) none
def A9(CX:Dz)(P:Program)(w:World)(K:Frag)(mg:Str->Option Value)(base:Heap)(N:List Str)(fv:Str)(scope:Scope)(f:Addr)(cd:Value)(A:Around)(outer:List Env)(s:Shared)(H:Hp)(E:XK):Cx where
 prog:=P
 w:=w
 K:=K
 mg:=mg
 base:=base
 A:=A.deeper (envOfC fv scope s.heap.objs.size f cd)
 N:=N
 s₀:=s
 H₀:=H
 env:=envOfC fv scope s.heap.objs.size f cd
 outer:=outer
 stack:=envOfC fv scope s.heap.objs.size f cd::outer
 ex:=[]
 calm:=true
 fn:=fun _=>true
 pn:=[]
 xe:=fun e s'=>wpAny (model P w) (A.deeper (envOfC fv scope s.heap.objs.size f cd)) (leaving (envOfC fv scope s.heap.objs.size f cd) e) (fun _ s''=>CX outer H s E e s'') (fun e' s''=>CX outer H s E e' s'') s'
theorem ml{sc:Scope}{n:Nat}{x:Str}(h:sc.names.lookup x=some .cell):∃c,(cellsFrom n sc.names []).lookup x=some c:=by
 have q:=PySem.W.cellsFrom_some sc.names n [] (.inl h)
 exact Option.isSome_iff_exists.mp q
theorem A_{M:Model}{A:Around}{E:Value->Shared->Prop}{s:Shared}{scope:Scope}{globals:Addr}{n:Str}{v:Value}{fv:Str}{func:Option Addr}{code:Value}{builtins:Addr}{Q:Env->Shared->Prop}
  (hk:scope.kind=.function) (hl:scope.names.lookup n=some .local)
  (hQ:∀env,env=newEnv scope s.heap.objs.size globals (cellsFrom (s.heap.objs.size+1) scope.names []) fv func code none builtins ->
   ∀s',s.toks<s'.toks->InCallC s env.locals (bindL env.kindOf [(n,v)] fun _=>none) env.cells (bindC env.kindOf [(n,v)] fun _=>none) s'->Q env s') :
  wpAny M A (newFunctionEnv scope globals [] [(n,v)] fv func code none builtins) Q E s:=by
 simp only[newFunctionEnv,Option.isSome_none,fy,jU]
 refine aa (wpAny_alloc ?_)
 refine aa (wpAny_layCells _ (fun name kind cells=>by cases hkc:kind==NameKind.cell<;>simp[hkc]) _ _ _ _ ?_)
 have ok:=cellsFrom_ok scope.names (s.heap.push { cls:=.type "frame",data:=.dict #[] }) (s.heap.objs.size+1) [] ⟨fun _ _ hm=>(nomatch hm),List.Pairwise.nil⟩ (by rw[bt];exact az _)
 rw[bt]at ok
 rw[show({ s with heap:=s.heap.push { cls:=.type "frame",data:=.dict #[] } }:Shared).heap.objs.size=s.heap.objs.size+1 from bt ..]
 have x:InCallC s s.heap.objs.size (fun _=>none) (cellsFrom (s.heap.objs.size+1) scope.names []) (fun _=>none) { s with heap:=pushCells (s.heap.push { cls:=.type "frame",data:=.dict #[] }) scope.names }:=
  ⟨⟨⟨_,_,rfl⟩,(Heap.Ns.new s.heap (.type "frame")).keeps (kh _ _),fun b o e=>kh _ _ b o (aq _ e),az _⟩,
   fun n c hc=>(ok.empty n c (PySem.mem_of_lookup hc)).1,ok.apart,fun n c hm=>(ok.empty n c hm).2⟩
 refine aa ?_
 rw[ki]
 refine aa (aa (nS (env:=newEnv scope s.heap.objs.size globals (cellsFrom (s.heap.objs.size+1) scope.names []) fv func code none builtins) hl x.toInCall.ns (fun h' hn' hs'=>ay ?_) (by show(scope.kind==_||(scope.kind==_&&_))=false;rw[hk];rfl)))
 show wpAny M A (forIn [] _ _) _ _ _
 rw[oR]
 refine ay (ay (hQ _ rfl _ (bZ _) ?_))
 have e1:bindL (newEnv scope s.heap.objs.size globals (cellsFrom (s.heap.objs.size+1) scope.names []) fv func code none builtins).kindOf [(n,v)] (fun _=>none)=fun y=>if y=n then some v else none:=by
  show(if _=some NameKind.local then _ else _)=_;exact aJ hl
 have e2:bindC (newEnv scope s.heap.objs.size globals (cellsFrom (s.heap.objs.size+1) scope.names []) fv func code none builtins).kindOf [(n,v)] (fun _=>none)=fun _=>none:=by
  show(if _=some NameKind.local then _ else _)=_;exact aJ hl
 rw[e1,e2]
 refine⟨⟨?_,hn',fun b o e=>?_,x.toInCall.fresh⟩,fun k c hc=>?_,x.apart,x.above⟩
 ·exact⟨h',_,rfl⟩
 ·exact hs'.extBut b o (a7 (aQ (aI e) x.toInCall.fresh)) (x.toInCall.keep b o e)
 ·exact(x.cell k c hc).sameBut hs' (dS (x.above k c (PySem.mem_of_lookup hc)))
theorem DA{CX:Dz}{P:Program}{w:World}{K:Frag}{mg:Str->Option Value}{base:Heap}{N ps:List Str}{fv:Str}{scope:Scope}{f:Addr}{cd:Value}{A:Around}{outer:List Env}{s s1:Shared}{H:Hp}{E:XK}{us:List Value}{vs:List V}
  (S:a_ N ps scope) (hd:A.handled=none) (e0:A8 P w K mg base A outer s H) (hl:vs.length=ps.length) (r:cG s.toks vs us) (kM:s.toks<=s1.toks) (Sz:0<s1.toks)
  (x:InCallC s s.heap.objs.size (bindL (envOfC fv scope s.heap.objs.size f cd).kindOf (ps.zip us) fun _=>none) (cellsFrom (s.heap.objs.size+1) scope.names []) (bindC (envOfC fv scope s.heap.objs.size f cd).kindOf (ps.zip us) fun _=>none) s1) :
  bU (A9 CX P w K mg base N fv scope f cd A outer s H E) [] (tt N vs) H s1:=by
 have pE:ps.length<=N.length:=by have:=hJ List.length S.pre;rw[aL]at this;omega
 obtain⟨h1,tk,rfl,hk⟩:=x.done
 have noA:∀b:Addr,b∉(A9 CX P w K mg base N fv scope f cd A outer s H E).ex:=fun b z=>absurd (show b∈([]:List Addr)from z) (by simp)
 refine⟨⟨e0.mod,S.kind,rfl,rfl,az _,fun y z c h1 h2=>?_,fun y hy=>?_,fun y c _ h=>?_,fun _=>hd,Around.frames_deeper e0.frames,.inr ⟨rfl,rfl⟩,fun b z=>absurd z (noA b),e0.bs,e0.bsz,fun b _ _=>noA b,fun b z=>absurd z (noA b),e0.funs,e0.frf⟩,
  rfl,e0.bare,Un.kept hk,⟨_,x.toInCall.ns,fun i y v h1 h2 h3=>?_⟩,fun y c h=>⟨_,x.cell y c h⟩,e0.hok.fresh (az _),fun y c h=>?_,fun p hp=>absurd (show p∈([]:List (Addr×Obj))from hp) (by simp),(e0.hok.kept hk).up kM,?_,Sz,kM⟩
 ·exact name_of_addr x.apart (PySem.mem_of_lookup h1) (PySem.mem_of_lookup h2)
 ·have hy:scope.names.lookup y=some .cell\/scope.names.lookup y=some .free:=hy
  rcases hy with hy|hy
  ·exact ml hy
  ·exact absurd rfl (S.nofree _ (PySem.mem_of_lookup hy))
 ·exact fL (x.above y c (PySem.mem_of_lookup h))
 ·have hi:i<vs.length:=by
   unfold tt at h2
   by_cases hi:i<vs.length
   ·exact hi
   ·rw[aW (by simpa using hi)]at h2
    rw[i6]at h2
    split at h2<;>cases h2
  have ha:vs[i]?=some v:=by
   unfold tt at h2
   rw[aK (by simpa using hi),aG]at h2
   cases e:vs[i]? with
   |none=>rw[e]at h2;cases h2
   |some a=>rw[e]at h2;cases h2;rfl
  obtain⟨u,hu,rv⟩:=r.get ha
  have hp:ps[i]?=some y:=by
   rw[<- S.pre,cE (by omega)];exact h1
  have ndP:ps.Nodup:=by rw[<- S.pre];exact S.nd.sublist (List.take_sublist _ _)
  refine⟨u,rv.up kM,?_⟩
  rcases S.par y (cf hp)with k|k
  ·exact .inl ⟨k,wB ndP hp hu k⟩
  ·obtain⟨c,e⟩:=ml (n:=s.heap.objs.size+1) k
   refine .inr ⟨.inl k,c,e,?_⟩
   have q:=x.cell y c e
   rw[wC ndP hp hu (by show scope.names.lookup y≠_;rw[k];decide)]at q
   exact q
 ·exact e0.hok.fresh (fL (x.above y c (PySem.mem_of_lookup h)))
 ·unfold tt
  show _=N.length
  rw[ah,aE,List.length_replicate]
  omega
theorem OD{CX:Dz}{P:Program}{w:World}{K:Frag}{mg:Str->Option Value}{base:Heap}{k:Nat}{f:Addr}{name fv:Str}{params:Arguments}{body:List Stmt}{scope:Scope}{dV kV rS pm e_ ct oc:Value}{an od:Option Addr}
  {La:Array (Option Value)} {N ps:List Str} {sp:Sp} (lk:K.lookup f=some ⟨oc,od,.func (fnOf name fv params body scope dV kV rS pm an e_ ct),La⟩) (Eu:codeIn K e_ fv=true) (S:a_ N ps scope)
  (len:∀vs H Q E,sp vs H Q E->vs.length=ps.length)
  (AV:∀(A:Around) (outer:List Env) (s:Shared) (H:Hp) (vs:List V) (Q:VK) (E:XK),i' k (A.deeper (envOfC fv scope s.heap.objs.size f e_))->sp vs H Q E ->
   ∃t,Dq (A9 CX P w K mg base N fv scope f e_ A outer s H E) body t/\t { nx:=fun _ H'=>Q .non H',rt:=Q } (tt N vs) H) :
  cV P w K mg base CX (k+1) f (fnOf name fv params body scope dV kV rS pm an e_ ct) ps sp:=by
 refine⟨len,fun A outer s H args us vs Q E hr e0 hp hb r Lf=>?_⟩
 have hl:=len _ _ _ _ Lf
 have KX:K.In s.heap:=e0.mod.kin.keeps fun b o e=>(e0.bs b o e).1
 have lim:s.heap.NoLimit:=e0.mod.nolimit.keeps fun b o e=>(e0.bs b o e).1
 have jt:∀y∈ps.zip us,scope.names.lookup y.1=some .local\/(scope.names.lookup y.1=some .cell/\((cellsFrom (s.heap.objs.size+1) scope.names []).lookup y.1).isSome=true):=fun⟨n,v⟩ hy=>by
  rcases S.par n (nJ hy).1 with q|q
  ·exact .inl q
  ·exact .inr ⟨q,PySem.W.cellsFrom_some _ _ _ (.inl q)⟩
 refine codeAny_call_function hr.depth (KX _ _ lk) rfl S.co S.gen rfl (PySem.W.codeRec_of KX Eu) (hb _ _ _ _ ?_)
 suffices hh:∀env,env=newEnv scope s.heap.objs.size mainGlobals (cellsFrom (s.heap.objs.size+1) scope.names []) (fv++".<locals>.") (some f) e_ none builtinsNs->∀s1,s.toks<=s1.toks->0<s1.toks->InCallC s env.locals (bindL env.kindOf (ps.zip us) fun _=>none) env.cells (bindC env.kindOf (ps.zip us) fun _=>none) s1->s1.heap.NoLimit/\codeAny (model P w) A (Code.func body env) (CR CX outer P w H s Q E) s1 by
  rcases hp with hp|⟨n,e1,hn⟩
  ·exact up (wpAny_newFunctionEnv_cells S.kind jt fun env he s1 x kM=>hh env he s1 kM (aQ hp kM) x)
  ·subst e1
   have hus:us.length=1:=r.length.symm.trans hl
   obtain⟨u,rfl⟩:∃u,us=[u]:=gy.mp hus
   exact A_ S.kind hn fun env he s1 hlt x=>hh env he s1 (fL hlt) (iR (ce _) hlt) x
 intro env he s1 kM Sz x
 subst he
 refine⟨lim.keeps x.toInCall.keep,codeAny_func ?_⟩
 obtain⟨t,ht,hq⟩:=AV A outer s H vs Q E (hr.deeper _) Lf
 have I:bU (A9 CX P w K mg base N fv scope f e_ A outer s H E) [] (tt N vs) H s1:=DA S hr.hd e0 hl r kM Sz x
 refine kW (ht [] s1 (tt N vs) H _ I hq) (fun fl s' hs=>?_) fun e s' hs=>hs
 have kA:∀{σ':St} {H':Hp} {v:V} {u:Value},bU (A9 CX P w K mg base N fv scope f e_ A outer s H E) [] σ' H' s'->c_ _ v u->Q v H'->CE outer P w H s Q u s':=
  fun{σ' H' v u} J rv q=>⟨v,H',J.os,J.bare,J.base,J.hok,rv,q⟩
 cases fl with
 |ret u=>
  obtain⟨v,σ',H',J,rv,q⟩:=hs
  exact kA J rv q
 |next=>
  obtain⟨σ',H',J,q⟩:=hs
  exact kA (v:=V.non) (u:=Value.none) J rfl q
 |brk=>
  obtain⟨_,_,_,q⟩:=hs
  exact False.elim q
 |cont=>
  obtain⟨_,_,_,q⟩:=hs
  exact False.elim q
end L2
namespace L2
variable{nk:Nat}
open PySem PySem.Spec PyProof.Rows
section
variable{X:Cx}{x:Str}{p pos:Pos}{e:Expr}{es:List Expr}{t:TA}{id T:String}{r:List V->Hp->VK->Prop}
def RQ(r:List V->Hp->VK->Prop)(t:TA):TE:=fun σ H Q=>t σ H fun vs H1=>r vs H1 Q
theorem y4(hc:iU X (.builtin id) r)(hg:Gl X x)(hm:X.mg x=none)(hv:bootBuiltins x=some (.builtin id))(ha:PA X (e::es) t)(hn:x ≠ "__name__":=by decide)(HE:(x==("__debug__":Str))=false:=by decide)
  (he:starEach (e::es) X.env=(false,eval e X.env)::starEach es X.env:=by rfl) (pE:(backTo pos (starEach es X.env)).any (·.1)=false:=by rfl):PE X (.Call (.Name x p) (e::es) [] pos) (RQ r t):=by
 intro al s σ H Q I h
 refine fz (n6 I hg hm hv ?_ hn HE)
 exact jH (jq (ha pos al s σ H _ I h) fun us s1 kt1 ⟨vs,H1,I1,r1,q1⟩=>hc al s1 σ H1 vs us Q I1 r1 q1) he pE
theorem DB(hc:iU X (.type T) r)(hg:Gl X x)(hm:X.mg x=none)(hv:bootBuiltins x=some (.type T))(ha:PA X (e::es) t)(hn:x ≠ "__name__":=by decide)(HE:(x==("__debug__":Str))=false:=by decide)
  (he:starEach (e::es) X.env=(false,eval e X.env)::starEach es X.env:=by rfl) (pE:(backTo pos (starEach es X.env)).any (·.1)=false:=by rfl):PE X (.Call (.Name x p) (e::es) [] pos) (RQ r t):=by
 intro al s σ H Q I h
 refine fz (n6 I hg hm hv ?_ hn HE)
 exact dF (jq (ha pos al s σ H _ I h) fun us s1 kt1 ⟨vs,H1,I1,r1,q1⟩=>hc al s1 σ H1 vs us Q I1 r1 q1) he pE
end
end L2
namespace HT
open PySem PyProof.Rows
section
open PySem.SeqAt
open PySem.AutoSeq1 (wpAny_loadPart')
open PySem.MeetsSeq PySem.MeetsSeq2 PySem.MeetsSeq3
end
section
variable{prog:Program}{w:World}{A:Around}{E:Value->Shared->Prop}{s:Shared}
theorem cat_tup{t b:Addr}{vs ws:List Value}{Q:Value->Shared->Prop}(ht:IsTup s.heap t vs.toArray)(hb:IsTup s.heap b ws.toArray)(hv:vs≠[])
  (h1:ws=[]->Q (.ref t) s) (h2:ws≠[]->Q (.ref s.heap.objs.size) { s with heap:=s.heap.push { cls:=.type "tuple",data:=.seq (vs++ws).toArray } })
  (yV:vs.length+ws.length<=sizeLine):wpAny (model prog w) A (binaryOp .Add (.ref t) (.ref b)) Q E s:=by
 obtain⟨⟨cls,dd,data,sl⟩,ho,hc,n,hd⟩:=id ht
 obtain⟨⟨cls2,dd2,data2,sl2⟩,ho2,hc2,n2,hd2⟩:=id hb
 simp only at hc hd hc2 hd2
 subst hc hd hc2 hd2
 have e:vs.toArray++ws.toArray=(vs++ws).toArray:=by simp
 by_cases hw:ws=[]
 ·exact rK ⟨_,ho,rfl⟩ ⟨_,ho2,rfl⟩ mH pX PySem.F.slot_tuple_add PySem.F.entry_tuple_add (PySem.F.args_tuple_add_2 _ _)
   (tuple_addW1 t b vs.toArray ws.toArray n n2 dd dd2 sl sl2 (by simpa using hv) (by simp[hw])) ⟨ho,ho2,h1 hw⟩
 ·refine rK ⟨_,ho,rfl⟩ ⟨_,ho2,rfl⟩ mH pX PySem.F.slot_tuple_add PySem.F.entry_tuple_add (PySem.F.args_tuple_add_2 _ _)
   (tuple_addW2 t b vs.toArray ws.toArray n n2 dd dd2 sl sl2 (by simpa using hv) (by simpa using hw) (by rw[aT,aT];exact yV)) ⟨ho,ho2,?_⟩
  rw[e]
  exact h2 hw
def sIx(n d:Nat):Option Int->Nat
 |none=>d
 |some v=>if v<0 then(v+(n:Int)).toNat else min v.toNat n
theorem sIx_none(n d:Nat):sIx n d none=d:=rfl
theorem sIx_nat(n d k:Nat):sIx n d (some (k:Int))=min k n:=by
 show(if (k:Int)<0 then((k:Int)+(n:Int)).toNat else min (k:Int).toNat n)=min k n
 rw[aV (by omega),cq]
theorem sIx_le(n d:Nat)(hd:d<=n)(o:Option Int):sIx n d o<=n:=by
 cases o with
 |none=>exact hd
 |some v=>
  show(if v<0 then(v+(n:Int)).toNat else min v.toNat n)<=n
  by_cases hv:v<0
  ·rw[aJ hv];omega
  ·rw[aV hv];exact Nat.min_le_right _ _
theorem CB(v:Int)(n d:Nat):(if v<0 then max (v+(n:Int)) 0 else min v (n:Int))=((sIx n d (some v):Nat):Int):=by
 show(if v<0 then max (v+(n:Int)) 0 else min v (n:Int))=(((if v<0 then(v+(n:Int)).toNat else min v.toNat n):Nat):Int)
 by_cases hv:v<0
 ·simp only[aJ hv];omega
 ·simp only[aV hv];omega
theorem A'(lo hi:Option Int)(n:Nat):Builtin.Slice.sliceAdjust lo hi 1 (n:Int)=(((sIx n 0 lo:Nat):Int),((sIx n n hi:Nat):Int)):=by
 have h1:¬ ((1:Int)<0):=by omega
 unfold Builtin.Slice.sliceAdjust
 simp only[h1,jU]
 refine Prod.ext ?_ ?_
 ·cases lo with
  |none=>rfl
  |some v=>exact CB v n 0
 ·cases hi with
  |none=>rfl
  |some v=>exact CB v n n
theorem Ba(i j:Nat):Builtin.Slice.slicePlaces (i:Int) (j:Int) 1=j-i:=by
 unfold Builtin.Slice.slicePlaces
 have h1:(1:Int)>0:=by omega
 simp only[h1,fX,Int.ediv_one]
 split<;>omega
theorem uC{v:Value}{o:Option Int}{Q:Option Int->Shared->Prop}(p:IsPart v o)(h:Q o s):wpAny (model prog w) A (Builtin.Slice.slicePartIndex v) Q E s:=by
 cases p with
 |none=>exact slicePart_none h
 |int i t=>exact slicePart_int h
theorem sliceApplied_gen{sl:Addr}{vl vu:Value}{lo hi:Option Int}{n:Nat}{Q:Int×Int×Nat->Shared->Prop}(hs:s.heap.IsSliceOf sl vl vu .none)(pl:IsPart vl lo)(pu:IsPart vu hi)
  (h:Q (((sIx n 0 lo:Nat):Int),1,sIx n n hi-sIx n 0 lo) s):wpAny (model prog w) A (Builtin.Slice.sliceApplied (.ref sl) (pure (n:Int))) Q E s:=by
 obtain⟨os,hos,hcs,Lb⟩:=id hs
 unfold Builtin.Slice.sliceApplied Builtin.Slice.sliceFields
 refine aa (aa (c7 hos Lb (x:=vl) rfl (aa (c7 hos Lb (x:=vu) rfl (aa (c7 hos Lb (x:=.none) rfl (ay ?_)))))))
 refine aa (slicePart_none ?_)
 show wpAny _ _ (if ((1:Int)==0)=true then _ else _) _ _ s
 rw[aV (by decide)]
 refine aa (uC pl (aa (uC pu (aa (ay ?_)))))
 show wpAny _ _ (match Builtin.Slice.sliceAdjust lo hi 1 (n:Int)with|(lo,hi)=>pure (lo,(1:Int),Builtin.Slice.slicePlaces lo hi 1)) _ _ s
 rw[A' lo hi n]
 show wpAny _ _ (pure (((sIx n 0 lo:Nat):Int),(1:Int),Builtin.Slice.slicePlaces ((sIx n 0 lo:Nat):Int) ((sIx n n hi:Nat):Int) 1)) _ _ s
 rw[Ba]
 exact ay h
theorem EV(xs:Array Value)(i k:Nat):((List.range k).filterMap fun(m:Nat)=>xs[((i:Int)+(m:Int)*1).toNat]?).toArray=((xs.toList.drop i).take k).toArray:=by
 have e:(fun(m:Nat)=>xs[((i:Int)+(m:Int)*1).toNat]?)=fun m=>xs[i+m]?:=by
  funext m
  have:((i:Int)+(m:Int)*1).toNat=i+m:=by omega
  rw[this]
 rw[e]
 have:=pick_run xs i k
 rw[List.filterMap_map]at this
 have e2:((fun x=>xs[x]?)∘fun x=>i+x)=fun m=>xs[i+m]?:=rfl
 rw[e2]at this
 rw[this]
theorem getItem_tuple_cut{t sl:Addr}{items:Array Value}{vl vu:Value}{lo hi:Option Int}{Q:Value->Shared->Prop}(ht:IsTup s.heap t items)(hs:s.heap.IsSliceOf sl vl vu .none)(pl:IsPart vl lo)(pu:IsPart vu hi)
  (hw:¬ (sIx items.size 0 lo=0/\sIx items.size items.size hi=items.size))
  (h:Q (.ref s.heap.objs.size) { s with heap:=s.heap.push { cls:=.type "tuple",data:=.seq ((items.toList.drop (sIx items.size 0 lo)).take (sIx items.size items.size hi-sIx items.size 0 lo)).toArray } })
  (yV:items.size<=sizeLine):wpAny (model prog w) A (getItem (.ref t) (.ref sl)) Q E s:=by
 have htake:sizeOk (.seq ((items.toList.drop (sIx items.size 0 lo)).take (sIx items.size items.size hi-sIx items.size 0 lo)).toArray):=by
  show((items.toList.drop (sIx items.size 0 lo)).take (sIx items.size items.size hi-sIx items.size 0 lo)).toArray.size<=sizeLine
  rw[aT,aL,cm,dY]
  omega
 have hj:sIx items.size items.size hi<=items.size:=sIx_le _ _ (az _) hi
 obtain⟨os,hos,hcs,Lb⟩:=id hs
 have hTs:s.TypeIs (.ref sl) "slice":=⟨os,hos,hcs⟩
 unfold getItem
 try with_reducible refine c8 ?_
 first|refine aa (ay ?_)|skip
 refine aa (wpAny_sequenceKey ht.typeIs (by decide) ?_)
 refine aa (bI (name:=Str.ofString "__getitem__") ht.typeIs ec
  (b6 ec ht.typeIs entry_tuple_getitem ?_ (args_tuple_getitem _ _)))
 show wpAny _ _ (Builtin.Tuple.tupleItemsOf (.ref t) >>= _) _ _ s
 refine aa (tupleItemsOf_ ht ?_)
 refine aa (ii hTs ?_)
 rw[aJ (by decide)]
 refine aa (sliceApplied_gen hs pl pu ?_)
 have hno:¬ ((((sIx items.size 0 lo:Nat):Int)==0&&(1:Int)==1&&(sIx items.size items.size hi-sIx items.size 0 lo)==items.size)=true):=by
  intro q
  rw[dr,dr]at q
  have q1:((sIx items.size 0 lo:Nat):Int)=0:=mI q.1.1
  have q2:sIx items.size items.size hi-sIx items.size 0 lo=items.size:=mI q.2
  exact hw ⟨by omega,by omega⟩
 show wpAny _ _ (if (((sIx items.size 0 lo:Nat):Int)==0&&(1:Int)==1&&(sIx items.size items.size hi-sIx items.size 0 lo)==items.size)=true then _ else _) _ _ s
 rw[aV hno,EV]
 first
  |exact aa (m:=Builtin.Tuple.tupleExact _) (cr (ay ⟨_,rfl,ay h⟩) htake)
  |exact aa (m:=Builtin.Tuple.tupleExact _) (cr (aa (ay (ay ⟨_,rfl,ay h⟩))) htake)
  |exact aa (aa (m:=Builtin.Tuple.tupleExact _) (cr (ay (ay ⟨_,rfl,ay h⟩)) htake))
  |exact aa (aa (m:=Builtin.Tuple.tupleExact _) (cr (ay ⟨_,rfl,ay h⟩) htake))
end
end HT
namespace L2
variable{nk:Nat}
open PySem PySem.Spec PyProof.Rows
abbrev TO:=St->Hp->(Option Int->Hp->Prop)->Prop
def PO(X:Cx)(e:Option Expr)(t:TO):Prop:=
 ∀(al:List (Addr×Obj)) (s:Shared) (σ:St) (H:Hp) (Q:Option Int->Hp->Prop),bU X al σ H s->t σ H Q ->
  wpAny (model X.prog X.w) X.A (evalPart e X.env) (fun u s'=>∃o H',bU X al σ H' s'/\IsPart u o/\Q o H') X.xe s
def IB:TO:=fun _ H Q=>Q none H
def OE(t:TE):TO:=fun σ H Q=>t σ H fun x H1=>∃i,x=.int i/\Q (some i) H1
section
variable{X:Cx}{e:Expr}{te:TE}{lo hi:Option Expr}{tl th:TO}{pos p2:Pos}
theorem IC:PO X none IB:=by
 intro al s σ H Q I h
 rw[evalPart_none]
 exact ay ⟨none,H,I,.none,h⟩
theorem ID(h:PE X e te):PO X (some e) (OE te):=by
 intro al s σ H Q I hw
 rw[evalPart_some]
 refine jq (h al s σ H _ I hw) fun u s1 kt1 ⟨x,H1,I1,r1,q1⟩=>?_
 obtain⟨i,rfl,q⟩:=q1
 obtain⟨t,rfl⟩:=r1
 exact⟨some i,H1,I1,.int i t,q⟩
def OF(X:Cx)(r:V->Option Int->Option Int->Hp->VK->Prop):Prop:=
 ∀(al:List (Addr×Obj)) (s:Shared) (σ:St) (H:Hp) (x:V) (v vl vu:Value) (lo hi:Option Int) (sl:Addr) (Q:VK),bU X al σ H s->c_ s.toks x v->s.heap.IsSliceOf sl vl vu .none->IsPart vl lo->IsPart vu hi->r x lo hi H Q ->
  ∃T id,typeLookup (.type T) "__getitem__"=pure (some (.builtin id))/\s.TypeIs v T/\wpAny (model X.prog X.w) X.A (getItem v (.ref sl)) (EP X al σ Q) X.xe s
def Tp(r:V->Option Int->Option Int->Hp->VK->Prop)(te:TE)(tl th:TO):TE:=fun σ H Q=>te σ H fun x H1=>tl σ H1 fun l H2=>th σ H2 fun u H3=>r x l u H3 Q
theorem EW{r:V->Option Int->Option Int->Hp->VK->Prop}(hr:OF X r)(he:PE X e te)(hl:PO X lo tl)(hu:PO X hi th):PE X (.Subscript e (.Slice lo hi none p2) pos) (Tp r te tl th):=by
 intro al s σ H Q I h
 refine Subscript_ (jq (he al s σ H _ I h) fun v s1 kt1 ⟨x,H1,I1,r1,q1⟩=>?_)
 refine wpAny_Slice (jq (hl al s1 σ H1 _ I1 q1) fun vl s2 kt2 ⟨l,H2,I2,pl,q2⟩=>jq (hu al s2 σ H2 _ I2 q2) fun vu s3 kt3 ⟨u,H3,I3,pu,q3⟩=>?_)
 rw[evalPart_none]
 refine ay ?_
 have I4:bU X al σ H3 { s3 with heap:=s3.heap.push { cls:=.type "slice",data:=.fields #[vl,vu,.none] } }:=I3.kept (t':=s3.toks) fun b ob q=>aq _ q
 obtain⟨T,id,hT,ht,hg⟩:=hr al { s3 with heap:=s3.heap.push { cls:=.type "slice",data:=.fields #[vl,vu,.none] } } σ H3 x v vl vu l u s3.heap.objs.size Q I4 (r1.up (aM kt2 kt3)) (Heap.IsSliceOf.new ..) pl pu q3
 show wpAny (model X.prog X.w) X.A (subscriptTail e (.Slice lo hi none p2) v (.ref s3.heap.objs.size)) (EP X al σ Q) X.xe { s3 with heap:=s3.heap.push { cls:=.type "slice",data:=.fields #[vl,vu,.none] } }
 exact tail_any (ops:=[.ref s3.heap.objs.size,v]) ht hT hg (by with_unfolding_all rfl)
def uD(xs:List V)(lo hi:Option Int):List V:=(xs.drop (HT.sIx xs.length 0 lo)).take (HT.sIx xs.length xs.length hi-HT.sIx xs.length 0 lo)
theorem tu(xs:List V)(lo hi:Option Int):(uD xs lo hi).length<=xs.length:=by
 unfold uD
 rw[aL,cm]
 omega
def RR(K:Frag):V->Option Int->Option Int->Hp->VK->Prop:=fun x lo hi H Q=>∃a xs,x=.ref a/\gg K H a xs /\
 ¬ (HT.sIx xs.length 0 lo=0/\HT.sIx xs.length xs.length hi=xs.length)/\∀p,H p=none->Q (.ref p) (gf H p (.tup (uD xs lo hi)))
theorem LZ:OF X (RR X.K):=by
 intro al s σ H x v vl vu lo hi sl Q I rx hs pl pu h
 obtain⟨a,xs,rfl,hx,hw,q⟩:=h
 cases rx
 obtain⟨bF,r,ht,hz⟩:=I.tuple hx
 have fT:bF.toArray.size=xs.length:=by rw[aT];exact r.length.symm
 refine⟨"tuple",_,ec.lookup,ht.typeIs,?_⟩
 refine HT.getItem_tuple_cut ht hs pl pu (by rw[fT];exact hw) ?_ (by rw[fT];exact hz)
 rw[fT]
 refine⟨.ref s.heap.objs.size,_,I.laid (t':=s.toks) (o:=.tup (uD xs lo hi)) (fun b ob q=>aq _ q) (az _) ?_,rfl,q _ (I.hok.fresh (az _))⟩
 exact⟨aM (tu xs lo hi) hz,_,(r.drop (HT.sIx xs.length 0 lo)).take (HT.sIx xs.length xs.length hi-HT.sIx xs.length 0 lo),IsTup.new _ _⟩
def OG(K:Frag):R2:=fun x y H Q=>∃a b xs ys,x=.ref a/\y=.ref b/\gg K H a xs/\gg K H b ys/\xs≠[]/\xs.length+ys.length<=sizeLine /\
 (ys=[]->Q (.ref a) H)/\(ys≠[]->∀p,H p=none->Q (.ref p) (gf H p (.tup (xs++ys))))
theorem cG.nil_iff{xs:List V}{us:List Value}(r:cG nk xs us):us=[]↔xs=[]:=by
 cases r with
 |nil=>simp
 |cons _ _=>simp
theorem IE:n9 X (binaryOp .Add) (OG X.K):=by
 intro al s σ H x y v u Q I rx ry h
 obtain⟨a,b,xs,ys,rfl,rfl,ha,hb,hx,hz,q1,q2⟩:=h
 cases rx
 cases ry
 obtain⟨bF,r1,p1,_⟩:=I.tuple ha
 obtain⟨its2,r2,p2,_⟩:=I.tuple hb
 refine HT.cat_tup p1 p2 (fun z=>hx (r1.nil_iff.mp z)) (fun z=>⟨.ref a,H,I,rfl,q1 (r2.nil_iff.mp z)⟩) (fun z=>?_) (by rw[<- r1.length,<- r2.length];exact hz)
 refine⟨.ref s.heap.objs.size,_,I.laid (t':=s.toks) (o:=.tup (xs++ys)) (fun b ob q=>aq _ q) (az _) ?_,rfl,q2 (fun w=>z (r2.nil_iff.mpr w)) _ (I.hok.fresh (az _))⟩
 exact⟨by rw[ah];exact hz,_,r1.append r2,IsTup.new _ _⟩
theorem y6:iU X (.type "tuple") (fun xs H Q=>∃a ys,xs=[.ref a]/\gg X.K H a ys/\Q (.ref a) H):=by
 intro al s σ H xs us Q I r h
 obtain⟨a,ys,rfl,ha,q⟩:=h
 obtain⟨u,rfl,ru⟩:=n_ r
 cases ru
 obtain⟨bF,_,p1,_⟩:=I.tuple ha
 exact call_tuple_same (items:=bF.toArray) p1 ⟨.ref a,H,I,rfl,q⟩
end
end L2
namespace L2
variable{nk:Nat}
open PySem PySem.Spec PyProof.Rows
def CC(n:Nat)(i:Int):Option Nat:=if 0<=i then(if i<n then some i.toNat else none)else if -(n:Int)<=i then some (i+n).toNat else none
def r6{α:Type}(xs:List α)(i:Int):Option α:=(CC xs.length i).bind fun j=>xs[j]?
theorem CD{n:Nat}{i:Int}{j:Nat}(h:CC n i=some j):seqIndex? i n=some j/\j<n/\-(n:Int)<=i/\i<n:=by
 unfold CC at h
 by_cases h0:0<=i
 ·rw[aJ h0]at h
  by_cases h1:i<n
  ·rw[aJ h1]at h
   have e:i.toNat=j:=bx h
   exact⟨by rw[seqIndex_of h0 h1,e],by omega,by omega,h1⟩
  ·rw[aV h1]at h;cases h
 ·rw[aV h0]at h
  by_cases h1:-(n:Int)<=i
  ·rw[aJ h1]at h
   have e:(i+n).toNat=j:=bx h
   exact⟨by rw[rL (by omega) h1,e],by omega,h1,by omega⟩
  ·rw[aV h1]at h;cases h
theorem xy{α:Type}{xs:List α}{i:Int}{v:α}(h:r6 xs i=some v):∃j,seqIndex? i xs.length=some j/\xs[j]?=some v/\j<xs.length/\-(xs.length:Int)<=i/\i<xs.length:=by
 unfold r6 at h
 cases e:CC xs.length i with
 |none=>rw[e]at h;cases h
 |some j=>
  rw[e]at h
  obtain⟨h1,h2,h3,h4⟩:=CD e
  exact⟨j,h1,h,h2,h3,h4⟩
def CF(b:Expr):Prop:=∀o i,subscripted b false o i=operate [o,i] (getItem o i)
def HV(X:Cx)(r:R2):Prop:=
 ∀(value slice:Expr) (al:List (Addr×Obj)) (s:Shared) (σ:St) (H:Hp) (x y:V) (v u:Value) (Q:VK),bU X al σ H s->c_ s.toks x v->c_ s.toks y u->r x y H Q ->
  subscripted slice false v u=operate [v,u] (getItem v u)->wpAny (model X.prog X.w) X.A (subscriptTail value slice v u) (EP X al σ Q) X.xe s
def DC(X:Cx)(id:String)(r:V->List V->Hp->VK->Prop):Prop:=
 ∀(al:List (Addr×Obj)) (s:Shared) (σ:St) (H:Hp) (x:V) (xs:List V) (v:Value) (us:List Value) (Q:VK),bU X al σ H s->c_ s.toks x v->cG s.toks xs us->r x xs H Q ->
  wpAny (model X.prog X.w) X.A (call (.builtin id) (v::us)) (EP X al σ Q) X.xe s
section
variable{X:Cx}{a b:Expr}{ta tb:TE}{pos:Pos}
theorem HV.or{r r':R2}(h:HV X r)(h':HV X r'):HV X (fun x y H Q=>r x y H Q\/r' x y H Q):=by
 intro value slice al s σ H x y v u Q I rx ry q hs
 rcases q with q|q
 ·exact h value slice al s σ H x y v u Q I rx ry q hs
 ·exact h' value slice al s σ H x y v u Q I rx ry q hs
theorem OH{r:R2}(hr:HV X r)(ha:PE X a ta)(hb:PE X b tb)(hs:CF b):PE X (.Subscript a b pos) (Ot r ta tb):=by
 intro al s σ H Q I h
 exact Subscript_ (LG ha hb I h fun v u s2 x y H2 I2 rx ry q=>hr a b al s2 σ H2 x y v u Q I2 rx ry q (hs _ _))
def OI(K:Frag):R2:=fun x y H Q=>∃p xs i v,x=.ref p/\y=.int i/\rW K H p xs/\r6 xs i=some v/\Q v H
def OJ(K:Frag):R2:=fun x y H Q=>∃p xs i v,x=.ref p/\y=.int i/\gg K H p xs/\r6 xs i=some v/\Q v H
def OK:R2:=fun x y H Q=>∃z i c,x=.str z/\y=.int i/\z.length<=sizeLine/\r6 z.cps.toList i=some c/\Q (.str ⟨#[c]⟩) H
theorem IF:HV X (OI X.K):=by
 intro value slice al s σ H x y v u Q I rx ry h hs
 obtain⟨p,xs,i,z,rfl,rfl,hq,he,q⟩:=h
 cases rx
 obtain⟨t,rfl⟩:=ry
 obtain⟨bF,r,pl,hz⟩:=I.list hq
 obtain⟨j,h1,h2,h3,h4,h5⟩:=xy he
 obtain⟨w,ew,sZ⟩:=r.get h2
 have hl:=r.length
 have hn:=rY
 have kA:EP X al σ Q w s:=⟨z,H,I,sZ,q⟩
 by_cases h0:0<=i
 ·have hj:i.toNat=j:=by
   rw[seqIndex_of h0 h5]at h1
   exact bx h1
  exact item_listR pl.isList h0 (by omega) (by rw[hj];simpa using ew) kA hs
 ·have hj:(i+(bF.toArray.size:Int)).toNat=j:=by
   rw[rL (by omega) h4]at h1
   rw[aT,<- hl]
   exact bx h1
  exact m_ (x:=w) pl.isList.typeIs slot_list_getitem.lookup
   (wpAny_getItem_list_neg (Q:=fun r s'=>r=w/\EP X al σ Q r s') pl.isList (by omega) (by rw[aT]<;>omega) (by omega) (by rw[hj];simpa using ew) ⟨rfl,kA⟩) hs
theorem L0:HV X (OJ X.K):=by
 intro value slice al s σ H x y v u Q I rx ry h hs
 obtain⟨p,xs,i,z,rfl,rfl,hq,he,q⟩:=h
 cases rx
 obtain⟨t,rfl⟩:=ry
 obtain⟨bF,r,pl,hz⟩:=I.tuple hq
 obtain⟨j,h1,h2,h3,h4,h5⟩:=xy he
 obtain⟨w,ew,sZ⟩:=r.get h2
 have hl:=r.length
 have hn:=rY
 have kA:EP X al σ Q w s:=⟨z,H,I,sZ,q⟩
 exact m_ (x:=w) pl.typeIs slot_tuple_getitem.lookup
  (getItem_tuple (j:=j) (Q:=fun r s'=>r=w/\EP X al σ Q r s') pl (by omega) (by omega) (by rw[aT,<- hl];exact h1) (by simpa using ew) ⟨rfl,kA⟩) hs
theorem L1:HV X OK:=by
 intro value slice al s σ H x y v u Q I rx ry h hs
 obtain⟨z,i,c,rfl,rfl,hz,he,q⟩:=h
 obtain⟨t,rfl⟩:=rx
 obtain⟨t',rfl⟩:=ry
 obtain⟨j,h1,h2,h3,h4,h5⟩:=xy he
 have hl:z.cps.toList.length=z.length:=by simp[Str.length]
 rw[hl]at h1 h4 h5
 have hn:=rY
 exact tail_any (k6 s z t) slot_str_getitem.lookup (getItem_str (c:=c) (by
  have e1:decide (i < -(2^63:Int))=false:=ba (by omega)
  have e2:decide (i≥2^63)=false:=ba (by omega)
  rw[e1,e2,me]) (by rw[h1];simpa using h2) ⟨.str ⟨#[c]⟩,H,I.tok _,I.tkS,q⟩) hs
def Tq(K:Frag):R2:=fun x y H Q=>OI K x y H Q\/OJ K x y H Q\/OK x y H Q
theorem L3:HV X (Tq X.K):=IF.or (L0.or L1)
theorem Bb(bF:List Value)(n j:Nat)(u:Value):Obj.mapSeq (·.setIfInBounds j u) { cls:=.type "list",data:=.seq bF.toArray n }={ cls:=.type "list",data:=.seq (bF.set j u).toArray n }:=by
 simp[Obj.mapSeq]
theorem bU.lst{al:List (Addr×Obj)}{σ:St}{H:Hp}{s:Shared}{p:Addr}{xs:List V}(I:bU X al σ H s)(h:H p=some (.lst xs)) :
  ∃(bF:List Value) (n:Nat),cG s.toks xs bF/\s.heap.get? p=some { cls:=.type "list",data:=.seq bF.toArray n }/\xs.length<=sizeLine:=by
 obtain⟨z,bF,n,r,e⟩:=I.hok p _ h
 exact⟨bF,n,r,e,z⟩
theorem bU.lstUpd{al:List (Addr×Obj)}{σ:St}{H:Hp}{s:Shared}{p:Addr}{xs ys:List V}{bF its':List Value}{n n':Nat}{f:Obj->Obj}(I:bU X al σ H s)(h:H p=some (.lst xs))
  (ho:s.heap.get? p=some { cls:=.type "list",data:=.seq bF.toArray n }) (hf:f { cls:=.type "list",data:=.seq bF.toArray n }={ cls:=.type "list",data:=.seq its'.toArray n' }) (r:cG s.toks ys its') (hz:ys.length<=sizeLine) (t:Nat) (hk:s.toks<=t:=by first|exact az _|exact bp _|assumption|omega) :
  bU X al σ (gf H p (.lst ys)) { s with heap:=s.heap.update p f,toks:=t }:=by
 have e:(s.heap.update p f).get? p=some { cls:=.type "list",data:=.seq its'.toArray n' }:=by
  rw[dy f ho (by rw[hf]<;>rfl),hf]
 refine I.write (x:=p) (e:=p) (by rw[h];trivial) (.inl rfl) (fun b u hb q=>(cC _ _ (Ne.symm hb)).trans q) ⟨_,e⟩ ?_
 exact⟨hz,its',n',r.up hk,e⟩
def OL:V->V->V->Hp->(Hp->Prop)->Prop:=fun o i v H Q=>∃p xs k j,o=.ref p/\i=.int k/\H p=some (.lst xs)/\CC xs.length k=some j/\Q (gf H p (.lst (xs.set j v)))
theorem EX:EH X OL:=by
 intro al s σ H o i v ov iv u Q I ro ri rv h
 obtain⟨p,xs,k,j,rfl,rfl,hp,hj,q⟩:=h
 cases ro
 obtain⟨t,rfl⟩:=ri
 obtain⟨bF,n,r,ho,hz⟩:=I.lst hp
 obtain⟨h1,h2,h3,h4⟩:=CD hj
 have hl:=r.length
 have hn:=rY
 have I':bU X al σ (gf H p (.lst (xs.set j v))) { s with heap:=s.heap.update p (Obj.mapSeq (·.setIfInBounds j u)) }:=
  I.lstUpd hp ho (Bb bF n j u) (r.set rv j) (by rw[nK];exact hz) s.toks
 by_cases h0:0<=k
 ·have hk:k.toNat=j:=by
   rw[seqIndex_of h0 h4]at h1
   exact bx h1
  exact PySem.W.ki_setAt ho h0 (by omega) (by rw[aT,<- hl];exact h4) (by rw[hk];exact⟨_,I',q⟩)
 ·have hk:(k+(bF.toArray.size:Int)).toNat=j:=by
   rw[rL (by omega) h3]at h1
   rw[aT,<- hl]
   exact bx h1
  exact PySem.W.ki_setBack ho (by omega) (by rw[aT,<- hl];exact h3) (by omega) (by rw[hk];exact⟨_,I',q⟩)
theorem xz(lo hi:Option Int)(n:Nat):(sliceBounds lo hi none n).1=((HT.sIx n 0 lo:Nat):Int)/\(sliceBounds lo hi none n).2.1=((HT.sIx n n hi:Nat):Int)/\(sliceBounds lo hi none n).2.2=1:=by
 refine⟨?_,?_,rfl⟩
 ·cases lo with
  |none=>simp[sliceBounds,HT.sIx]
  |some i=>
   simp only[sliceBounds,HT.sIx,Option.getD_none,show(1:Int)>0 by decide,fX]
   by_cases h:i<0
   ·simp only[h,fX]<;>omega
   ·simp only[h,jU]<;>omega
 ·cases hi with
  |none=>simp[sliceBounds,HT.sIx]
  |some i=>
   simp only[sliceBounds,HT.sIx,Option.getD_none,show(1:Int)>0 by decide,fX]
   by_cases h:i<0
   ·simp only[h,fX]<;>omega
   ·simp only[h,jU]<;>omega
theorem vP(bF:List Value)(lo hi:Option Int):slicePick bF.toArray lo hi none=((bF.drop (HT.sIx bF.length 0 lo)).take (HT.sIx bF.length bF.length hi-HT.sIx bF.length 0 lo)).toArray:=by
 obtain⟨h1,h2,h3⟩:=xz lo hi bF.toArray.size
 unfold slicePick
 rw[h1,h2,h3]
 simp only[sliceRange_one,pick_run,aT]<;>rfl
def RT(K:Frag):V->Option Int->Option Int->Hp->VK->Prop:=fun x lo hi H Q=>∃a xs,x=.ref a/\rW K H a xs/\∀p,H p=none->Q (.ref p) (gf H p (.lst (uD xs lo hi)))
theorem IG:OF X (RT X.K):=by
 intro al s σ H x v vl vu lo hi sl Q I rx hs pl pu h
 obtain⟨a,xs,rfl,hx,q⟩:=h
 cases rx
 obtain⟨bF,r,ht,hz⟩:=I.list hx
 have fT:=r.length
 refine⟨"list",_,slot_list_getitem.lookup,ht.isList.typeIs,?_⟩
 refine wpAny_getItem_list_slice ht.isList hs pl pu .none (by simp) ?_ (by rw[aT]<;>omega)
 rw[vP,<- fT]
 refine⟨.ref s.heap.objs.size,_,I.laid (t':=s.toks) (o:=.lst (uD xs lo hi)) (fun b ob q=>aq _ q) (az _) ?_,rfl,q _ (I.hok.fresh (az _))⟩
 exact⟨aM (tu xs lo hi) hz,_,0,(r.drop (HT.sIx xs.length 0 lo)).take (HT.sIx xs.length xs.length hi-HT.sIx xs.length 0 lo),aB _ rfl⟩
theorem qB:iU X (.builtin "len") (fun xs H Q=>∃p ys,xs=[.ref p]/\(rW X.K H p ys\/gg X.K H p ys)/\Q (.int ys.length) H):=by
 intro al s σ H xs us Q I r h
 obtain⟨p,ys,rfl,hq,q⟩:=h
 obtain⟨u,rfl,rx⟩:=n_ r
 cases rx
 have hn:=rY
 rcases hq with hq|hq
 ·obtain⟨bF,r',pl,hz⟩:=I.list hq
  have fT:=r'.length
  exact Calls.call_len_list pl.isList (by simp only[aT]<;>omega) ⟨.int ys.length,H,I.tok _,⟨s.toks+1,by rw[aT,fT]⟩,q⟩
 ·obtain⟨bF,r',pl,hz⟩:=I.tuple hq
  have fT:=r'.length
  exact len_tuple pl (by simp only[aT]<;>omega) ⟨.int ys.length,H,I.tok _,⟨s.toks+1,by rw[aT,fT]⟩,q⟩
theorem xA:iU X (.builtin "len") (fun xs H Q=>∃z,xs=[.str z]/\z.length<=sizeLine/\Q (.int z.length) H):=by
 intro al s σ H xs us Q I r h
 obtain⟨z,rfl,hz,q⟩:=h
 obtain⟨u,rfl,t,rfl⟩:=n_ r
 have hn:=rY
 exact len_str (by omega) ⟨.int z.length,H,I.tok _,⟨_,rfl⟩,q⟩
theorem xB:iU X (.type "list") (fun xs H Q=>∃p ys,xs=[.ref p]/\(rW X.K H p ys\/gg X.K H p ys)/\∀l,H l=none->Q (.ref l) (gf H l (.lst ys))):=by
 intro al s σ H xs us Q I r h
 obtain⟨p,ys,rfl,hq,q⟩:=h
 obtain⟨u,rfl,rx⟩:=n_ r
 cases rx
 have kA:∀(bF:List Value),cG _ ys bF->ys.length<=sizeLine->∀(h':Heap) (c':Nat),(∀b o',s.heap.get? b=some o'->h'.get? b=some o') ->
   h'.get? s.heap.objs.size=some { cls:=.type "list",dict:=none,data:=.seq bF.toArray c',slots:=#[] }->EP X al σ Q (.ref s.heap.objs.size) { s with heap:=h' }:=fun bF r' hz h' c' kp e=>
  ⟨.ref s.heap.objs.size,_,I.laid (t':=s.toks) kp (az _) (show gz X.prog X.w _ _ h' _ (.lst ys)from⟨hz,bF,c',r',e⟩),rfl,q _ (I.hok.fresh (az _))⟩
 rcases hq with hq|hq
 ·obtain⟨bF,r',pl,hz⟩:=I.list hq
  have fT:=r'.length
  obtain⟨o,ho,hc,n,hd⟩:=pl.isList
  exact call_list_seq p (.inl rfl) ho hc hd (fun h' c' kp e=>kA bF r' hz h' c' kp e) (by simp only[aT]<;>omega)
 ·obtain⟨bF,r',pl,hz⟩:=I.tuple hq
  have fT:=r'.length
  obtain⟨o,ho,hc,n,hd⟩:=pl
  exact call_list_seq p (.inr rfl) ho hc hd (fun h' c' kp e=>kA bF r' hz h' c' kp e) (by simp only[aT]<;>omega)
theorem vQ:iU X (.type "tuple") (fun xs H Q=>∃p ys,xs=[.ref p]/\((rW X.K H p ys/\∀l,H l=none->Q (.ref l) (gf H l (.tup ys)))\/(gg X.K H p ys/\Q (.ref p) H))):=by
 intro al s σ H xs us Q I r h
 obtain⟨p,ys,rfl,h⟩:=h
 obtain⟨u,rfl,rx⟩:=n_ r
 cases rx
 rcases h with⟨hq,q⟩|⟨hq,q⟩
 ·obtain⟨bF,r',pl,hz⟩:=I.list hq
  have fT:=r'.length
  refine call_tuple_list pl.isList (fun h' kp=>?_) (by simp only[aT]<;>omega)
  have I1:bU X al σ H { s with heap:=h' }:=I.kept (t':=s.toks) kp
  have I2:bU X al σ (gf H h'.objs.size (.tup ys)) { s with heap:=h'.push { cls:=.type "tuple",data:=.seq bF.toArray } }:=
   I1.laid (t':=s.toks) (fun b o e=>aq _ e) (az _) (show gz X.prog X.w _ _ _ _ (.tup ys)from⟨hz,bF,r',IsTup.new _ _⟩)
  exact⟨.ref h'.objs.size,_,I2,rfl,q _ (I1.hok.fresh (az _))⟩
 ·obtain⟨bF,r',pl,hz⟩:=I.tuple hq
  exact call_tuple_same pl ⟨.ref p,H,I,rfl,q⟩
def Q7(K:Frag)(T:String)(x:V)(H:Hp):Prop:=match x with
 |.str _=>T="str"
 |.int _=>T="int"
 |.ref p=>(T="list"/\∃xs,rW K H p xs)\/(T="tuple"/\∃o,K.lookup p=some o/\o.cls=.type "tuple"/\o.dict=none) \/
   (T="dict"/\((∃gk,H p=some (.dK gk))\/∃gk,H p=some (.dT gk)))\/(T="set"/\∃S n,H p=some (.set S n))
 |_=>False
theorem Bc{al:List (Addr×Obj)}{σ:St}{H:Hp}{s:Shared}{T:String}{x:V}{v:Value}(I:bU X al σ H s)(r:c_ s.toks x v)(ty:Q7 X.K T x H) :
  s.TypeIs v T/\∀a,v=.ref a->∃ob,s.heap.get? a=some ob/\ob.dict=none:=by
 cases x with
 |str z=>
  obtain⟨t,rfl⟩:=r
  cases(show T="str" from ty)
  exact⟨k6 s z t,fun _ e=>nomatch e⟩
 |int i=>
  obtain⟨t,rfl⟩:=r
  cases(show T="int" from ty)
  exact⟨typeIs_int s i t,fun _ e=>nomatch e⟩
 |ref p=>
  cases r
  rcases ty with⟨rfl,xs,hq⟩|⟨rfl,o,hk,hc,hd⟩|⟨rfl,hk⟩|⟨rfl,S,n,hk⟩
  ·obtain⟨bF,_,pl,_⟩:=I.list hq
   refine⟨pl.isList.typeIs,fun a e=>?_⟩
   cases e
   obtain⟨o,n,e,c,hd,_⟩:=pl
   exact⟨o,e,hd⟩
  ·refine⟨⟨o,I.kIn p o hk,hc⟩,fun a e=>?_⟩
   cases e
   exact⟨o,I.kIn _ o hk,hd⟩
  ·have z:∃o,s.heap.get? p=some o/\o.ExactDict:=by
    rcases hk with⟨gk,hk⟩|⟨gk,hk⟩
    ·obtain⟨_,_,_,_,o,_,_,e,ex,_⟩:=I.hok p _ hk
     exact⟨o,e,ex⟩
    ·obtain⟨_,_,_,_,o,_,_,e,ex,_⟩:=I.hok p _ hk
     exact⟨o,e,ex⟩
   obtain⟨o,e,ex⟩:=z
   refine⟨⟨o,e,ex.1⟩,fun a e2=>?_⟩
   cases e2
   exact⟨o,e,ex.2.1⟩
  ·obtain⟨o,_,_,_,e,ex,_⟩:=I.hok p _ hk
   refine⟨⟨o,e,ex.1⟩,fun a e2=>?_⟩
   cases e2
   exact⟨o,e,ex.2.1⟩
 |_=>exact False.elim ty
variable{o e:Expr}{es:List Expr}{to:TE}{t:TA}{name:Str}{f9 d_:Pos}{T id:String}{r:V->List V->Hp->VK->Prop}
end
end L2
namespace L2
variable{nk:Nat}
open PySem PySem.Spec PyProof.Rows
def SQ(X:Cx)(id:String)(r:V->List V->Hp->VK->Prop):Prop:=
 ∀(al:List (Addr×Obj)) (s:Shared) (σ:St) (H:Hp) (x:V) (xs:List V) (v:Value) (us:List Value) (Q:VK),bU X al σ H s->c_ s.toks x v->cG s.toks xs us->r x xs H Q ->
  wpAny (model X.prog X.w) X.A (call (.builtin id) (v::us)) (EP X al σ Q) X.xe s
theorem cG.one{x:V}{us:List Value}(h:cG nk [x] us):∃u,us=[u]/\c_ nk x u:=by cases h with|cons r t=>cases t;exact⟨_,rfl,r⟩
theorem cG.two{x y:V}{us:List Value}(h:cG nk [x,y] us):∃u v,us=[u,v]/\c_ nk x u/\c_ nk y v:=by cases h with|cons r t=>obtain⟨v,rfl,q⟩:=cG.one t;exact⟨_,v,rfl,r,q⟩
theorem cG.zero:∀{us:List Value},cG nk [] us->us=[]
 |_,.nil=>rfl
theorem cG.dropLast{xs:List V}{us:List Value}(h:cG nk xs us):cG nk xs.dropLast us.dropLast:=by
 induction h with
 |nil=>exact .nil
 |cons r t ih=>
  cases t with
  |nil=>exact .nil
  |cons q t'=>exact .cons r ih
theorem Bd{α:Type}(l:List α):l.eraseIdx (l.length-1)=l.dropLast:=by
 induction l with
 |nil=>rfl
 |cons a r ih=>
  cases r with
  |nil=>rfl
  |cons b r=>
   have e:(a::b::r).length-1=((b::r).length-1)+1:=by
    have h1:(a::b::r).length=r.length+2:=rfl
    have h2:(b::r).length=r.length+1:=rfl
    omega
   rw[e,List.eraseIdx_cons_succ,ih]
   all_goals rfl
section
variable{X:Cx}{al:List (Addr×Obj)}{σ:St}{H:Hp}{s:Shared}{l b:Addr}{xs ys zs:List V}
theorem bU.lset{bF its':List Value}{n:Nat}{f:Array Value->Array Value}{t':Nat}(I:bU X al σ H s)(hH:H l=some (.lst xs))
  (e:s.heap.get? l=some { cls:=.type "list",data:=.seq bF.toArray n }) (hf:f bF.toArray=its'.toArray) (hv:cG t' ys its') (hz:ys.length<=sizeLine) (hk:s.toks<=t':=by first|exact az _|exact bp _|assumption|omega) :
  bU X al σ (gf H l (.lst ys)) { s with heap:=s.heap.update l (Obj.mapSeq f),toks:=t' }:=by
 have q:=PySem.IsL.update e f
 rw[hf]at q
 refine I.write (x:=l) (e:=l) (by rw[hH];exact trivial) (.inl rfl) (fun b' u hb hu=>(cC s.heap (Obj.mapSeq f) (Ne.symm hb)).trans hu) ⟨_,q⟩ ?_
 exact⟨hz,its',_,hv,q⟩
theorem bU.lnew{bF:List Value}{t':Nat}(I:bU X al σ H s)(hv:cG t' ys bF)(hz:ys.length<=sizeLine)(hk:s.toks<=t':=by first|exact az _|exact bp _|assumption|omega) :
  bU X al σ (gf H s.heap.objs.size (.lst ys)) { s with heap:=s.heap.push { cls:=.type "list",data:=.seq bF.toArray },toks:=t' }:=
 I.laid (fun _ _ q=>aq _ q) (az _) ⟨hz,bF,0,hv,aB _ rfl⟩
theorem bU.fresh(I:bU X al σ H s):H s.heap.objs.size=none:=I.hok.fresh (az _)
theorem bU.lstM(I:bU X al σ H s)(hH:H l=some (.lst xs)):xs.length<=sizeLine/\∃(bF:List Value) (n:Nat),cG s.toks xs bF/\xs.length=bF.length/\s.heap.get? l=some { cls:=.type "list",data:=.seq bF.toArray n }:=by
 obtain⟨z,bF,n,r,e⟩:=I.hok l _ hH
 exact⟨z,bF,n,r,r.length,e⟩
end
section
variable{X:Cx}
def CG:V->List V->Hp->VK->Prop:=fun x vs H Q=>∃l xs y,x=.ref l/\vs=[y]/\H l=some (.lst xs)/\xs.length<sizeLine/\Q .non (gf H l (.lst (xs++[y])))
theorem DD:SQ X "list.append" CG:=by
 intro al s σ H x vs v us Q I rx rv h
 obtain⟨l,xs,y,rfl,rfl,hH,hz,q⟩:=h
 cases rx
 obtain⟨u,rfl,ru⟩:=rv.one
 obtain⟨z,bF,n,r,hl,e⟩:=I.lstM hH
 refine qy F.slot_list_append ⟨_,e,rfl⟩ F.entry_list_append (F.args_list_append_2 _ _) (PySem.list_append l bF.toArray n u (by rw[aT];omega)) ⟨e,?_⟩
 refine⟨.non,_,I.lset (its':=bF++[u]) hH e (by simp) (r.append (.cons ru .nil)) ?_,rfl,q⟩
 rw[ah,b8]
 omega
def OM:V->List V->Hp->VK->Prop:=fun x vs H Q=>∃l xs y,x=.ref l/\vs=[]/\H l=some (.lst xs)/\xs[xs.length-1]?=some y/\Q y (gf H l (.lst xs.dropLast))
theorem L4:SQ X "list.pop" OM:=by
 intro al s σ H x vs v us Q I rx rv h
 obtain⟨l,xs,y,rfl,rfl,hH,hy,q⟩:=h
 cases rx
 have hus:=rv.zero
 subst hus
 obtain⟨z,bF,n,r,hl,e⟩:=I.lstM hH
 obtain⟨u,hu,ru⟩:=r.get hy
 have hy':bF.toArray[bF.toArray.size-1]?=some u:=by
  show bF.toArray[bF.length-1]?=some u
  rw[<- fB,<- hl]
  exact hu
 refine qy F.slot_list_pop ⟨_,e,rfl⟩ F.entry_list_pop (F.args_list_pop_1 _) (MeetsSeq.list_pop_last l bF.toArray n u hy' (by rw[aT];omega)) ⟨e,?_⟩
 refine⟨y,_,I.lset (its':=bF.dropLast) hH e ?_ r.dropLast ?_,ru,q⟩
 ·show bF.toArray.eraseIdxIfInBounds (bF.toArray.size-1)=bF.dropLast.toArray
  rw[aT,List.eraseIdxIfInBounds_toArray,Bd]
 ·rw[List.length_dropLast]
  omega
def RU:R2:=fun x y H Q=>∃l b xs zs,x=.ref l/\y=.ref b/\H l=some (.lst xs)/\H b=some (.lst zs)/\xs.length+zs.length<=sizeLine/\∀p,H p=none->Q (.ref p) (gf H p (.lst (xs++zs)))
theorem L5:n9 X (binaryOp .Add) RU:=by
 intro al s σ H x y v u Q I rx ry h
 obtain⟨l,b,xs,zs,rfl,rfl,hH,hB,hz,q⟩:=h
 cases rx
 cases ry
 obtain⟨z,bF,n,r,hl,e⟩:=I.lstM hH
 obtain⟨z2,its2,n2,r2,hl2,e2⟩:=I.lstM hB
 refine PySem.P.add_list e e2 ?_ (by rw[aT,aT];omega)
 have ea:bF.toArray++its2.toArray=(bF++its2).toArray:=by simp
 rw[ea]
 exact⟨.ref _,_,I.lnew (t':=s.toks) (r.append r2) (by rw[ah];omega),rfl,q _ I.fresh⟩
end
section
variable{prog:Program}{w:World}{A:Around}{E:Value->Shared->Prop}{s:Shared}
end
section
variable{X:Cx}
end
end L2
namespace Att
open PySem PySem.W PySem.Calls PyProof.Rows
theorem tU{P:Params}{h:Heap}:∀(ns:List Int) (vs:List Value),WellAll P h vs (ns.map WData.int)->IntsAre vs ns:=by
 intro ns
 induction ns with
 |nil=>
  intro vs w
  rw[List.map_nil]at w
  cases w
  exact .nil
 |cons n ns ih=>
  intro vs w
  rw[bn]at w
  cases w with
  |cons a b=>
   cases a
   exact .cons _ _ (ih _ b)
theorem DE{l:OpenLaw}{n:Nat}(hn:l.most=some n){P:Params}{h:Heap}{args:List WData}{ud:List Value}
  (AM:l.row.toRowW.claim.pre args=true) (Sx:WellAll P h ud args) :
  ∃a vs ns,ud=[Value.ref a]/\args=[WData.list (ns.map WData.int)]/\h.get? a=some { cls:=.type "list",data:=.seq vs.toArray }/\IntsAre vs ns/\ns.length<=n:=by
 have hsh:WShape.hasAll [] args [.list .int]=true:=(pre_splitW AM).1
 have hc:l.pre.holds [] { args:=args }=true:=(pre_splitW AM).2
 obtain⟨d,r,rfl,h1,h2⟩:=hasAllW_cons hsh
 obtain rfl:=hasAllW_nil h2
 obtain⟨xs,rfl,h3⟩:=hasW_list h1
 obtain⟨ns,rfl⟩:=items_int h3
 have fT:ns.length<=n:=by
  unfold OpenLaw.pre at hc
  have h4:(WTm.not (.lt (.lit (.int (n:Int))) (.len (.arg 0)))).holds [] { args:=[.list (ns.map .int)] }=true:=by
   have h4:=(holds_andW hc).1
   rw[hn]at h4
   exact h4
  have h5:=condW_of h4 (w_not (w_lt w_lit (w_len_list (w_arg rfl))))
  rw[aE]at h5
  refine Nat.le_of_not_lt fun q=>?_
  have q':(n:Int)<((ns.length:Nat):Int):=by omega
  first
   |(rw[bY q']at h5;exact absurd h5 (by decide))
   |(simp at h5;omega)
 cases Sx with
 |cons w1 w2=>
  cases w2
  cases w1 with
  |list ho hall=>exact⟨_,_,ns,rfl,rfl,ho,tU ns _ hall,fT⟩
theorem DF(l:OpenLaw)(args:List WData):l.row.toRowW.claim.post args (.bool true) args=true:=
 postW_of (r:=l.row.toRowW) (X:=(true==true))
  (show WShape.has [] (.bool true) .bool=true by first|rfl|decide|simp[WShape.has,WShape.arms,WShape.armsAll])
  (show(WTm.eq .res (.lit (.bool true))).value [] { args:=args,res:=some (.bool true),after:=args }=some (.bool (true==true))from w_eq_bool (w_res rfl) w_lit) rfl
theorem attach_call{l:OpenLaw}{n:Nat}{q:Program}{xl:List Str}{XP:(Str->Option Value)->Heap->Prop}{YP:World->Heap->Prop}{d:DefRec}
  (hn:l.most=some n) (Q1:d.params.defaults=[])
  (call:∀(w:World) (s₀ s₁:Shared) (mg mb:Str->Option Value) (fa:Addr) (o:Obj) (pm cd rS:Value) (a:Addr) (vs:List Value) (ns:List Int),
   Ground q xl [] XP w s₀ mg mb s₁.heap->YP w s₁.heap ->
   s₁.heap.get? fa=some o->o.data=.func (docDef d.name d.params d.body d.scope pm cd rS)->s₁.heap.CodeRec cd d.name->mg d.name=some (.ref fa) ->
   s₁.heap.get? a=some { cls:=.type "list",data:=.seq vs.toArray }->IntsAre vs ns->ns.length<=n->s₁.gens=#[] ->
   codeAny (model l.prog w) callerA (.call (.ref fa) ⟨[.ref a],[]⟩) (fun r s'=>r=.ok (.ret (.bool true))/\OldK s₁.heap s'.heap/\s'.os=s₁.os/\AllBare s'.gens) s₁) :
  WalkO q xl XP YP l.row.toRowW d [] (fun f vs=>PySem.call f vs):=by
 intro w s₀ s₁ mg mb G Y fa o pm cd rS dV kV ho hd Eu hD hmg hg args ud as AM hlay hrd Sx hlo
 obtain rfl:dV=.none:=Dflts.none hD Q1
 obtain rfl:kV=.none:=Dflts.noKw hD
 obtain⟨a,vs,ns,rfl,rfl,hobj,hints,fT⟩:=DE hn AM Sx
 refine enter_call (ig (call w s₀ s₁ mg mb fa o pm cd rS a vs ns G Y ho (fd_plain hd) Eu hmg hobj hints fT hg) fun r s' hq=>?_)
 obtain⟨rfl,h2,h3,h4⟩:=hq
 exact⟨.inl ⟨.bool true,.bool true,[],rfl,fun _=>rfl,.bool true,DF l _,fun _=>⟨List.Pairwise.nil,fun _ hm=>(nomatch hm)⟩⟩,h2,h3,h4⟩
section
variable{prog:Program}{w:World}{A:Around}{E:Value->Shared->Prop}{s:Shared}{K:Frag}
end
end Att
namespace L2
variable{nk:Nat}
open PySem PySem.Spec PyProof.Rows
theorem wD:∀{vs:List Value} {ns:List Int},IntsAre vs ns->cG nk (ns.map V.int) vs
 |_,_,.nil=>.nil
 |_,_,.cons n t h=>.cons ⟨t,rfl⟩ (wD h)
def IH(H:Hp):Prop:=∀b,H b=none\/∃o xs,H b=some (.frz o (.lst xs))
theorem EY{P:Program}{w:World}{K:Frag}{mg mb:Str->Option Value}{CX:Dz}{k:Nat}{fa a:Addr}{fd:FuncData}{x:Str}{sp:Sp}{s₁:Shared}{vs:List Value}{ns:List Int}
  (KX:K.In s₁.heap) (SC:s₁.heap.Ns mainGlobals mg) (hb:s₁.heap.Ns builtinsNs mb) (Tv:∀x:Str,x ≠ "__name__"->mb x=bootBuiltins x) (Sl:s₁.heap.NoLimit) (hg:s₁.gens=#[])
  (ha:s₁.heap.get? a=some { cls:=.type "list",data:=.seq vs.toArray }) (hi:IntsAre vs ns) (hl:ns.length<=sizeLine) (hr:i' k callerA)
  (F:∀base:Heap,K.In base->base.Ns mainGlobals mg->cV P w K mg base CX k fa fd [x] sp) (Q3:∀(s:Shared) (u:Value),BindsTo s fd ⟨[u],[]⟩ [(x,u)]) (NY:fd.scope.names.lookup x=some .local)
  (Lf:∀H:Hp,IH H->rW K H a (ns.map V.int)->sp [.ref a] H (fun v _=>v=.bl true) fun _ _ _=>False)
  (Su:∀H e s',CX [] H s₁ (fun _ _ _=>False) e s'->False) :
  codeAny (model P w) callerA (.call (.ref fa) ⟨[.ref a],[]⟩) (fun r s'=>r=.ok (.ret (.bool true))/\OldK s₁.heap s'.heap/\s'.os=s₁.os/\AllBare s'.gens) s₁:=by
 have rv:cG 0 _ _:=wD hi
 have lenV:=hi.length
 have core:∀H:Hp,IH H->rW K H a (ns.map V.int)->rR P w s₁.toks H s₁.heap->(∀b,H b≠none->b=a)->(H a≠none->K.lookup a=none) ->
   codeAny (model P w) callerA (.call (.ref fa) ⟨[.ref a],[]⟩) (fun r s'=>r=.ok (.ret (.bool true))/\OldK s₁.heap s'.heap/\s'.os=s₁.os/\AllBare s'.gens) s₁:=by
  intro H hO hS hok hA hK
  have base_of:∀{b:Addr} {o:Obj},s₁.heap.get? b=some o->H b=none->(xq s₁.heap H).get? b=some o:=fun e n=>EB e n
  have noA:∀{b:Addr} {o:Obj} {es:Array DictEntry} {ep:Nat},s₁.heap.get? b=some o->o.data=.dict es ep->H b=none:=fun{b o es ep} e d=>by
   cases q:H b with
   |none=>rfl
   |some u=>
    have e':b=a:=hA b (by rw[q];simp)
    subst e'
    rw[ha]at e;cases e
    have d':Data.seq vs.toArray _=Data.dict es ep:=d
    cases d'
  have nsK:∀{b:Addr} {m:Str->Option Value},s₁.heap.Ns b m->(xq s₁.heap H).Ns b m:=fun{b m} ⟨o,es,ep,e,d,r⟩=>⟨o,es,ep,base_of e (noA e d),d,r⟩
  have hKb:K.In (xq s₁.heap H):=fun b o e=>base_of (KX b o e) (by
   cases q:H b with
   |none=>rfl
   |some u=>
    have e':b=a:=hA b (by rw[q];simp)
    subst e'
    rw[hK (by rw[q];simp)]at e;cases e)
  have hM:Mod K mg (xq s₁.heap H):=⟨hKb,nsK SC,⟨mb,nsK hb,Tv⟩,let ⟨mc,h1,h2⟩:=Sl;⟨mc,nsK h1,h2⟩⟩
  have e0:A8 P w K mg (xq s₁.heap H) callerA [] s₁ H:=⟨rfl,hM,fun b o e=>Ia e,Nat.le_of_eq (Do _ _),trivial,fun b hb=>absurd (show b∈([]:List Addr)from hb) (by simp),hok,.of_eq hg⟩
  refine ig ((F _ hKb (nsK SC)).run callerA [] s₁ H ⟨[.ref a],[]⟩ [.ref a] [.ref a] _ _ hr e0 (.inr ⟨x,rfl,NY⟩) (Q3 s₁ (.ref a)) (.cons rfl .nil) (Lf H hO hS)) fun r s' h=>?_
  cases r with
  |error e=>exact(Su H e s' h).elim
  |ok fl=>
   cases fl with
   |next=>exact False.elim h
   |brk=>exact False.elim h
   |cont=>exact False.elim h
   |ret u=>
    obtain⟨v,H',os,bare,un,hok',r',q⟩:=h
    have q':v=.bl true:=q
    subst q'
    obtain rfl:u=Value.bool true:=r'
    refine⟨rfl,OldK.of_keep fun b o e=>?_,os,bare⟩
    cases q:H b with
    |none=>exact un.keep b o e q (by intro z;exact absurd (show b∈([]:List Addr)from z) (by simp)) (by simp)
    |some u=>
     rcases hO b with z|⟨ob,xs,z⟩
     ·rw[q]at z;cases z
     ·have z2:=un.frzs b ob _ z
      obtain⟨e1,_⟩:=hok b _ z
      obtain⟨e2,_⟩:=hok' b _ z2
      rw[e]at e1;cases e1
      exact e2
 cases hk:K.lookup a with
 |some o=>
  have e:=KX a o hk
  rw[ha]at e
  cases e
  refine core (fun _=>none) (fun _=>.inl rfl) (.inr ⟨_,vs.toArray,_,hk,rfl,rfl,rfl,by rw[aT,lenV];exact hl,by simpa using rv⟩) (fun b u z=>by have z':(none:Option HO)=some u:=z;cases z') (fun b z=>absurd rfl z) fun z=>absurd rfl z
 |none=>
  refine core (fun b=>if b=a then some (.frz { cls:=.type "list",data:=.seq vs.toArray } (.lst (ns.map V.int)))else none) (fun b=>?_) (.inl (.inr ⟨{ cls:=.type "list",data:=.seq vs.toArray },aJ rfl⟩)) (fun b u z=>?_) (fun b z=>?_) fun _=>hk
  ·by_cases hb:b=a
   ·exact .inr ⟨_,_,aJ hb⟩
   ·exact .inl (aV hb)
  ·by_cases hb:b=a
   ·have z':=(aJ hb).symm.trans z
    cases z'
    subst hb
    exact⟨ha,by rw[aE];exact hl,vs,_,rv.up (ce _),ha⟩
   ·have z':=(aV hb).symm.trans z
    cases z'
  ·by_cases hb:b=a
   ·exact hb
   ·exact absurd (aV hb) z
end L2
namespace L2
variable{nk:Nat}
open PySem PySem.Spec PyProof.Rows
theorem walk_of{l:PySem.W.OpenLaw}{n k:Nat}{q:Program}{xl:List Str}{XP:(Str->Option Value)->Heap->Prop}{YP:World->Heap->Prop}{d:DefRec}{K:Params->Frag}{CX:World->Dz}{sp:World->Sp}{x:Str}
  (hn:l.most=some n) (QY:n<=sizeLine) (Q1:d.params.defaults=[]) (hr:i' k callerA)
  (hY:∀(w:World) (h:Heap),YP w h->(K w.params).In h)
  (F:∀(w:World) (mg:Str->Option Value) (fa:Addr) (h:Heap),(K w.params).In h->h.Ns mainGlobals mg->mg d.name=some (.ref fa) ->
   ∃fd:FuncData,fd.scope.names.lookup x=some .local/\(∀(s:Shared) (u:Value),BindsTo s fd ⟨[u],[]⟩ [(x,u)]) /\
    ∀base:Heap,(K w.params).In base->base.Ns mainGlobals mg->cV l.prog w (K w.params) mg base (CX w) k fa fd [x] (sp w))
  (Lf:∀(w:World) (H:Hp) (a:Addr) (ns:List Int),ns.length<=n->IH H->rW (K w.params) H a (ns.map V.int)->sp w [.ref a] H (fun v _=>v=.bl true) fun _ _ _=>False)
  (Su:∀(w:World) (H:Hp) (s:Shared) (e:Value) (s':Shared),CX w [] H s (fun _ _ _=>False) e s'->False) :
  PySem.W.WalkO q xl XP YP l.row.toRowW d [] (fun f vs=>PySem.call f vs):=by
 refine Att.attach_call hn Q1 fun w s₀ s₁ mg mb fa o pm cd rS a vs ns G Y ho hd Eu hmg hobj hints fT hg=>?_
 have KX:=hY w _ Y
 obtain⟨fd,NY,hb,hF⟩:=F w mg fa _ KX G.T.g hmg
 exact EY KX G.T.g G.T.b G.T.builtins G.T.nolimit hg hobj hints (aM fT QY) hr hF hb NY (fun H hO hS=>Lf w H a ns fT hO hS) fun H e s'=>Su w H s₁ e s'
end L2
namespace L2
variable{nk:Nat}
open PySem PySem.Spec PyProof.Rows
def hW(s:Stmt):Arguments:=match s with
 |.FunctionDef _ a _ _ _ _ _ _ _ _=>a
 |_=>{ posonlyargs:=[],args:=[],vararg:=none,kwonlyargs:=[],kw_defaults:=[],kwarg:=none,defaults:=[] }
def gp(s:Stmt):List Stmt:=match s with
 |.FunctionDef _ _ b _ _ _ _ _ _ _=>b
 |_=>[]
def aP(s:Stmt):Scope:=match s with
 |.FunctionDef _ _ _ _ _ _ sc _ _ _=>sc
 |_=>{ kind:=.function,names:=[],isGenerator:=false,isCoroutine:=false }
structure iw(K:Frag)(x fv:Str)(st:Stmt)(f:Addr)(fd:FuncData):Prop where
 ex:∃(oc:Value) (od:Option Addr) (kV rS pm:Value) (an:Option Addr) (e_ ct:Value) (La:Array (Option Value)),
  fd=fnOf x fv (hW st) (gp st) (aP st) .none kV rS pm an e_ ct/\K.lookup f=some ⟨oc,od,.func fd,La⟩/\codeIn K e_ fv=true
 kp:keepIn K (.ref f)=true
section
variable{P:Program}{w:World}{K:Frag}{mg:Str->Option Value}{base:Heap}
theorem iw.binds{x fv:Str}{st:Stmt}{f:Addr}{fd:FuncData}{ps:List Str}(F:iw K x fv st f fd)
  (h:∀(kV rS pm:Value) (an:Option Addr) (e_ ct:Value) (us:List Value),us.length=ps.length->bindArgs (fnOf x fv (hW st) (gp st) (aP st) .none kV rS pm an e_ ct) ⟨us,[]⟩=pure (ps.zip us)):pF K fd ps []:=by
 obtain⟨oc,od,kV,rS,pm,an,e_,ct,La,rfl,lk,Eu⟩:=F.ex
 exact .all (h kV rS pm an e_ ct)
theorem xC{x fv:Str}{st:Stmt}{f:Addr}{oc:Value}{od an:Option Addr}{La:Array (Option Value)}{kV rS pm e_ ct:Value}(l:K.lookup f=some ⟨oc,od,.func (fnOf x fv (hW st) (gp st) (aP st) .none kV rS pm an e_ ct),La⟩)
  (c:codeIn K e_ fv=true) (k:keepIn K (.ref f)=true):iw K x fv st f (fnOf x fv (hW st) (gp st) (aP st) .none kV rS pm an e_ ct):=⟨⟨oc,od,kV,rS,pm,an,e_,ct,La,rfl,l,c⟩,k⟩
end
section
variable{X:Cx}
theorem pv(i:Nat){x:Str}{pos:Pos}(hN:X.N[i]?=some x:=by rfl)(hv:Od X.env.scope x:=by first|exact Or.inl rfl|exact Or.inr (Or.inl rfl)|exact Or.inr (Or.inr rfl))(hd:(x==("__debug__":Str))=false:=by decide)
  (Eu:(x==("__classdict__":Str))=false:=by decide):PE X (.Name x pos) (Oe i):=Lk hN hv hd Eu
end
def uE(H H':Hp):Prop:=∀b o,H b=some o->H' b=some o
theorem uE.refl(H:Hp):uE H H:=fun _ _ h=>h
end L2
namespace L2
variable{nk:Nat}
open PySem PySem.Spec PyProof.Rows
section
variable{κ:Type}[DecidableEq κ]
end
section
variable{P:Program}{w:World}{H:Hp}{h:Heap}{a:Addr}
end
section
variable{X:Cx}{al:List (Addr×Obj)}{σ:St}{H:Hp}{s:Shared}{a:Addr}{y v:V}{u r:Value}{o:Option V}{A:Around}{E:Value->Shared->Prop}
end
section
variable{X:Cx}{al:List (Addr×Obj)}{σ:St}{H:Hp}{s:Shared}{a:Addr}{gk:List (uy×V)}{k:uy}{u:Value}{A:Around}{E:Value->Shared->Prop}
end
section
variable{X:Cx}{o i e value:Expr}{pos ie Sy:Pos}{td ty tv:TE}
end
section
variable{X:Cx}{pos:Pos}
end
section
variable{X:Cx}{al:List (Addr×Obj)}{σ:St}{H:Hp}{s:Shared}{a:Addr}{y d:V}{u r:Value}{o:Option V}{A:Around}{E:Value->Shared->Prop}
end
section
variable{X:Cx}{o e f:Expr}{f9 d_:Pos}{td ty tx:TE}
end
section
variable{X:Cx}{al:List (Addr×Obj)}{σ:St}{H:Hp}{s:Shared}{a:Addr}{gk:List (uy×V)}{A:Around}{E:Value->Shared->Prop}
end
section
variable{X:Cx}{al:List (Addr×Obj)}{σ:St}{H:Hp}{s:Shared}{a:Addr}{y:V}{u:Value}{A:Around}{E:Value->Shared->Prop}
end
end L2
namespace L2
variable{nk:Nat}
open PySem PySem.Spec PyProof.Rows
section
variable{X:Cx}
end
section
variable{κ:Type}[DecidableEq κ]
end
end L2
set_option maxHeartbeats 4000000
namespace L2
open PySem PySem.Spec PyProof.Rows
theorem r9{α:Type}{t:Sem α}{Q Q':α->Shared->Prop}{M:Model}{A:Around}{E:Value->Shared->Prop}{s:Shared}(h:wpAny M A t Q (fun _ _=>False) s)(hQ:∀a s',s.toks<=s'.toks->Q a s'->Q' a s'):wpAny M A t Q' E s:=
 up (kW h (fun a s' q k=>hQ a s' k q) fun _ _ z=>z.elim)
abbrev dI(X:Cx)(nm:List Str)(scope:Scope)(cl:List (Str×Addr))(C:Addr)(s0:Shared)(H0:Hp)(fp:List Addr):Cx:=
 { X with N:=nm,s₀:=s0,H₀:=H0,env:=compEnvC scope cl C X.env,outer:=X.stack,stack:=X.stack,ex:=fp,fn:=fun _=>false,pn:=[],xe:=fun _ _=>False }
def EZ(X:Cx)(mM:List Expr)(t:TT):Prop:=
 ∀(al:List (Addr×Obj)) (s:Shared) (σ:St) (H:Hp) (Q:Bool->Hp->Prop),bU X al σ H s->t σ H Q ->
  wpAny (model X.prog X.w) X.A (forIn mM true fun c r=>if r=true then do let ok <- isTrue c X.env (eval c X.env);pure (ForInStep.yield ok)else pure (ForInStep.yield r)) (TP X al σ Q) X.xe s
def RV:TT:=fun _ H Q=>Q true H
theorem II{X:Cx}:EZ X [] RV:=fun _ _ _ H _ I h=>wpAny_tests_nil ⟨H,I,h⟩
theorem IJ{X:Cx}{c:Expr}{t:TT}(hc:PT X c t):EZ X [c] t:=fun al s σ H Q I h=>wpAny_tests_one (hc al s σ H Q I h)
def pG(cap:List (Option Nat))(σ:St):St:=cap.map fun o=>o.bind fun j=>(σ[j]?).join
def uF(cap:List (Option Nat))(wi:TI)(g:TG)(tc:TT)(te:TE):TE:=fun σ H Q=>wi σ H fun J H1=>∃W:Nat->Nat->List V->Hp->Prop,(∃m,W 0 m [] H1)/\∀i m ys H2,W i m ys H2 ->
 (J.stop i H2/\ys.length<=sizeLine/\∀p,H2 p=none->Q (.ref p) (gf H2 p (.lst ys))) \/
 (J.go i H2/\∀x H3,J.yld i H2 x H3->g x (pG cap σ) H3 fun σ2 H4=>tc σ2 H4 fun b H5=>if b=true then te σ2 H5 fun y H6=>ys.length<sizeLine/\∃m',m'<m/\W (i+1) m' (ys++[y]) H6 else ∃m',m'<m/\W (i+1) m' ys H5)
theorem Un.cellK{fs ex:List Addr}{H H':Hp}{h h':Heap}(u:Un fs ex H H' h h'){c:Addr}{v:Option Value}(x:h.IsCell c v)(n:H c=none)(he:c∉ex):h'.IsCell c v:=by
 obtain⟨o,ho,hd⟩:=x
 obtain⟨sl,q⟩:=u.any ho n he
 exact⟨_,q,hd⟩
structure uG(X:Cx)(scope:Scope)(cl:List (Str×Addr))(x:Str):Prop where
 vis:Od X.env.scope x
 nl:X.env.scope.names.lookup x≠some .local
 cl:cl.lookup x=X.env.cells.lookup x
 kd:(relabel scope X.env).names.lookup x=some .cell\/(relabel scope X.env).names.lookup x=some .free
theorem lV:∀(names:List (Str×NameKind)) (n:Nat) (iI:List (Str×Addr)) {y:Str} {c:Addr},(y,c)∈cellsFrom n names iI->(y,NameKind.cell)∈names\/(y,c)∈iI
 |[],_,_,_,_,h=>.inr h
 |(x,k)::r,n,iI,y,c,h=>by
  have h:(y,c)∈(if k==.cell then cellsFrom (n+1) r ((x,n)::iI)else cellsFrom n r iI):=h
  split at h
  ·rename_i hk
   rcases lV r _ _ h with q|q
   ·exact .inl (aR _ q)
   ·rcases aS.mp q with e|q
    ·cases e
     exact .inl (by rw[mI hk];exact bB)
    ·exact .inr q
  ·rcases lV r _ _ h with q|q
   ·exact .inl (aR _ q)
   ·exact .inr q
theorem iV{β:Type}:∀{l:List (Str×β)} {x:Str} {b:β},l.lookup x=some b->(x,b)∈l
 |[],_,_,h=>by simp at h
 |(y,c)::r,x,b,h=>by
  rw[jI]at h
  cases hx:x==y with
  |true=>rw[hx]at h;have:=mI hx;subst this;cases h;exact bB
  |false=>rw[hx]at h;exact aR _ (iV h)
theorem jK:∀(names:List (Str×NameKind)) (n:Nat) (iI:List (Str×Addr)),cellsFrom n names iI=cellsFrom n names []++iI
 |[],_,_=>rfl
 |(x,k)::r,n,iI=>by
  show(if k==.cell then cellsFrom (n+1) r ((x,n)::iI)else cellsFrom n r iI)=(if k==.cell then cellsFrom (n+1) r [(x,n)]else cellsFrom n r [])++iI
  split
  ·rw[jK r (n+1) ((x,n)::iI),jK r (n+1) [(x,n)],ak];rfl
  ·exact jK r n iI
abbrev eQ(X:Cx)(nm:List Str)(scope:Scope)(cl:List (Str×Addr))(C:Addr)(s0:Shared)(H0:Hp)(fp:List Addr):Cx:=
 { dI X nm scope cl C s0 H0 fp with fn:=fun y=>scope.names.lookup y==some .cell }
theorem IK{M:Model}{A:Around}{E:Value->Shared->Prop}{s:Shared}{scope:Scope}{globals:Addr}{cl:List (Str×Addr)}{fv:Str}{env:Env}{Q:Env->Shared->Prop}
  (hQ:∀h':Heap,h'.Ns s.heap.objs.size (fun x=>([]:List (Str×Value)).reverse.lookup x)->(∀b o,s.heap.get? b=some o->h'.get? b=some o)->CellsOk h' (s.heap.objs.size+1) (cellsFrom (s.heap.objs.size+1) scope.names []) ->
   Q (newEnv scope s.heap.objs.size globals (cellsFrom (s.heap.objs.size+1) scope.names []++cl) fv none .none (some env) builtinsNs) { s with heap:=h' }) :
  wpAny M A (newFunctionEnv scope globals cl [] fv none .none (some env)) Q E s:=by
 simp only[newFunctionEnv,Option.isSome_some,fX]
 refine aa (wpAny_alloc ?_)
 refine aa (wpAny_layCells _ (fun name kind cells=>by cases hkc:kind==NameKind.cell<;>simp[hkc]) _ _ _ _ ?_)
 have ok:=cellsFrom_ok scope.names (s.heap.push { cls:=.type "dict",data:=.dict #[] }) (s.heap.objs.size+1) [] ⟨fun _ _ hm=>(nomatch hm),List.Pairwise.nil⟩ (by rw[bt];exact az _)
 rw[bt]at ok
 rw[show({ s with heap:=s.heap.push { cls:=.type "dict",data:=.dict #[] } }:Shared).heap.objs.size=s.heap.objs.size+1 from bt ..,jK _ _ cl]
 exact aa (ay (ay (hQ _ ((Heap.Ns.new s.heap (.type "dict")).keeps (kh _ _)) (fun b o e=>kh _ _ b o (aq _ e)) ok)))
section
variable{X:Cx}{qr tg dQ:Expr}{mM:List Expr}{scope:Scope}{pos:Pos}{nm:List Str}{cl:List (Str×Addr)}{cap:List (Option Nat)}{wi:TI}{g:TG}{tc:TT}{te:TE}
theorem xD{prog:Program}{w:World}{A:Around}{E:Value->Shared->Prop}{s:Shared}{l:Addr}{bF:List Value}{n:Nat}{u:Value}{Q:Value->Shared->Prop}
  (e:s.heap.get? l=some { cls:=.type "list",data:=.seq bF.toArray n }) (hz:bF.length<sizeLine)
  (h:∀(h':Heap) (n' tk:Nat),h'.get? l=some { cls:=.type "list",data:=.seq (bF++[u]).toArray n' }->(∀b o,b≠l->s.heap.get? b=some o->h'.get? b=some o)->Q .none { s with heap:=h',toks:=tk }) :
  wpAny (model prog w) A (call (.builtin "list.append") [.ref l,u]) Q E s:=by
 refine qy F.slot_list_append ⟨_,e,rfl⟩ F.entry_list_append (F.args_list_append_2 _ _) (PySem.list_append l bF.toArray n u (by rw[aT];omega)) ⟨e,?_⟩
 have q:=PySem.IsL.update e (fun a=>a.push u)
 have q2:(s.heap.update l (Obj.mapSeq fun x=>x.push u)).get? l=some { cls:=.type "list",data:=.seq (bF++[u]).toArray (if ((bF.toArray.push u).size==bF.toArray.size)=true then n else n+1) }:=by
  rw[show(s.heap.update l (Obj.mapSeq fun x=>x.push u)).get? l=_ from q];simp
 exact h _ _ s.toks q2 fun b o hb ho=>(cC s.heap (Obj.mapSeq _) (Ne.symm hb)).trans ho
structure y7(X:Cx)(al:List (Addr×Obj))(H:Hp)(s:Shared)(C:Addr)(m:Str->Option Value):Prop where
 ns:s.heap.Ns C m
 fr:H C=none
 nl:C≠X.env.locals
 nf:C∉X.fs
 hi:X.s₀.heap.objs.size<=C
 nc:∀x c,X.env.cells.lookup x=some c->c≠C
 np:∀p∈X.pn++al,p.1≠C
theorem y7.off{al:List (Addr×Obj)}{σ:St}{H:Hp}{s:Shared}{C:Addr}{m:Str->Option Value}{h':Heap}(B:y7 X al H s C m)(I:bU X al σ H s)(hs:Heap.SameBut C s.heap h'):bU X al σ H { s with heap:=h' }:=I.turned (t':=s.toks) (it:=C) (fun b o hb e=>hs.extBut b o hb e) B.fr B.nl (.inr B.hi) B.nc B.np
theorem E0{al Le:List (Addr×Obj)}{σ σ2:St}{H1 H:Hp}{s2 s:Shared}{C:Addr}{fp:List Addr}
  (t9:∀(i j:Nat),cap[i]?=some (some j)->∃x,nm[i]?=some x/\X.N[j]?=some x/\uG X scope cl x) (fT:cap.length=nm.length)
  (I2:bU X al σ H1 s2) (QT:∀b∈fp,∀x c,X.env.cells.lookup x=some c->c≠b)
  (I:bU (eQ X nm scope cl C s2 H1 fp) Le σ2 H s):bU (eQ X nm scope cl C s2 H1 fp) Le (pG cap σ) H s:=by
 refine⟨I.ok,I.os,I.bare,I.base,?_,I.cell,I.free,I.freeC,I.pin,I.hok,by show(pG cap σ).length=nm.length;unfold pG;rw[aE];exact fT,I.pos,I.tk⟩
 obtain⟨m,hn,_⟩:=I.loc
 refine⟨m,hn,fun i x v e1 e2 e3=>?_⟩
 unfold pG at e2
 rw[aG]at e2
 cases hc:cap[i]? with
 |none=>rw[hc]at e2;cases e2
 |some oj=>
  cases oj with
  |none=>rw[hc]at e2;cases e2
  |some j=>
   rw[hc]at e2
   have e2':(σ[j]?).join=some v:=by simpa using e2
   have e2:σ[j]?=some (some v):=by
    cases hs:σ[j]? with
    |none=>rw[hs]at e2';cases e2'
    |some ov=>rw[hs]at e2';simp at e2';rw[e2']
   obtain⟨x',f1,f2,k⟩:=t9 i j hc
   have hx:x'=x:=by
    have z:nm[i]?=some x:=e1
    rw[f1]at z;exact bx z
   subst hx
   obtain⟨m2,_,hl2⟩:=I2.loc
   obtain⟨u,r,l⟩:=hl2 j x' v f2 e2 k.vis
   refine⟨u,r.up I.tk,?_⟩
   rcases l with⟨kl,_⟩|⟨_,c,hcc,gR⟩
   ·exact absurd kl k.nl
   ·refine .inr ⟨k.kd,c,by rw[<- hcc];exact k.cl,?_⟩
    exact I.base.cellK gR (I2.freeC _ _ hcc) fun z=>QT c z _ _ hcc rfl
theorem Be{al:List (Addr×Obj)}{σ:St}{H:Hp}{s:Shared}{use:Option (Value->Sem Unit)}{Qk:VK}{Qv:Value->Shared->Prop}(js:X.calm=true)(vJ:closureFor scope X.env=pure cl)(AN:∀x c,cl.lookup x=some c->X.env.cells.lookup x=some c)
  (jt:scope.kind=.function) (qu:∀x∈scope.names,x.2=.local->scope.names.lookup x.1=some .local) (Tx:∀y∈scope.names,y.2=.cell->cl.lookup y.1=none)
  (Cm:∀x,scope.names.lookup x≠some .cell->((relabel scope X.env).names.lookup x=some .cell\/(relabel scope X.env).names.lookup x=some .free)->∃c,cl.lookup x=some c)
  (t9:∀(i j:Nat),cap[i]?=some (some j)->∃x,nm[i]?=some x/\X.N[j]?=some x/\uG X scope cl x/\(x,NameKind.cell)∉scope.names) (fT:cap.length=nm.length)
  (hi:PI X tg dQ wi) (hg:∀k C s0 H0 fp,PG (eQ X nm scope (cellsFrom k scope.names []++cl) C s0 H0 fp) tg g) (ht:∀k C s0 H0 fp,EZ (eQ X nm scope (cellsFrom k scope.names []++cl) C s0 H0 fp) mM tc)
  (he:∀k C s0 H0 fp,PE (eQ X nm scope (cellsFrom k scope.names []++cl) C s0 H0 fp) qr te) (hs:∀x,foldedSetIterable dQ X.env x=pure x)
  (I:bU X al σ H s) (h:uF cap wi g tc te σ H Qk) (kA:∀(s4:Shared) (C D:Addr) (m4:Str->Option Value) (Hn:Hp),bU X al σ Hn s4->y7 X al Hn s4 C m4->Qk (.ref D) Hn->compPost (model X.prog X.w) X.A X.xe use Qv (.ref D) C (.ok .next) s4) :
  wpAny (model X.prog X.w) X.A (comprehension (.ListComp qr [⟨tg,dQ,mM,0⟩] scope pos) scope X.env (firstIterPos [⟨tg,dQ,mM,0⟩] pos) (newList []) (firstAsync [⟨tg,dQ,mM,0⟩]) (firstIter [⟨tg,dQ,mM,0⟩] X.env) use) Qv X.xe s:=by
 refine wpAny_comprehension_free (use:=use) rfl hs vJ jt qu (AW (hi al s σ H _ I h) fun v s1 h1=>AW h1 fun SF s2 h2=>?_)
 obtain⟨it,fp,tn,J,H1,e,I2,T,cX,f2,W,⟨m0,w0⟩,turn⟩:=h2
 subst e
 have hfpn:∀b∈fp,b<s2.heap.objs.size:=fun b hb=>let ⟨o,ho,_⟩:=T.obj _ _ cX b hb;aI ho
 have hfpc:∀b∈fp,∀x c,X.env.cells.lookup x=some c->c≠b:=fun b hb=>(f2 b hb).2.2.2.2.1
 refine cr (IK (fun h₁ hns₁ hsb₁ cok=>?_))
 dsimp only at hns₁ hsb₁ cok ⊢
 generalize hH2:s2.heap.push { cls:=.type "list",dict:=none,data:=.seq ([]:List Value).toArray }=G2 at hns₁ hsb₁ cok ⊢
 have hC:G2.objs.size=s2.heap.objs.size+1:=by rw[<- hH2,bt]
 have hDC:s2.heap.objs.size≠G2.objs.size:=by rw[hC];exact a7 (bZ _)
 have old:∀b o,s2.heap.get? b=some o->h₁.get? b=some o:=fun b o e=>hsb₁ b o (hH2▸aq _ e)
 have hacc:h₁.get? s2.heap.objs.size=some { cls:=.type "list",data:=.seq ([]:List Value).toArray }:=hsb₁ _ _ (hH2▸aB _ rfl)
 have both:∀y c,(cellsFrom (G2.objs.size+1) scope.names []++cl).lookup y=some c->(cellsFrom (G2.objs.size+1) scope.names []).lookup y=some c\/cl.lookup y=some c:=fun y c e=>by
  rw[iS]at e
  cases h:(cellsFrom (G2.objs.size+1) scope.names []).lookup y with
  |none=>rw[h]at e;exact .inr e
  |some b=>rw[h]at e;exact .inl e
 have ownhi:∀y c,(cellsFrom (G2.objs.size+1) scope.names []).lookup y=some c->h₁.IsCell c none/\G2.objs.size+1<=c:=fun y c e=>cok.empty y c (PySem.mem_of_lookup e)
 have cllow:∀y c,cl.lookup y=some c->c<s2.heap.objs.size:=fun y c e=>by obtain⟨v,hv⟩:=I2.cell y c (AN _ _ e);exact hv.lt
 have hcap0:=t9
 have t9:∀(i j:Nat),cap[i]?=some (some j)->∃x,nm[i]?=some x/\X.N[j]?=some x/\uG X scope (cellsFrom (G2.objs.size+1) scope.names []++cl) x:=fun i j e=>by
  obtain⟨x,q1,q2,k,q3⟩:=hcap0 i j e
  refine⟨x,q1,q2,k.vis,k.nl,?_,k.kd⟩
  rw[iS]
  cases h:(cellsFrom (G2.objs.size+1) scope.names []).lookup x with
  |none=>exact k.cl
  |some c=>
   rcases lV _ _ _ (PySem.mem_of_lookup h)with z|z
   ·exact absurd z q3
   ·cases z
 have okB:(eQ X nm scope (cellsFrom (G2.objs.size+1) scope.names []++cl) G2.objs.size s2 H1 fp).Ok:=by
  refine⟨I2.ok.mod,jt,I2.ok.glob,I2.ok.blt,by show s2.heap.objs.size<=G2.objs.size;omega,fun x y c h1 h2=>?_,fun x hx=>?_,fun x c h0 hc=>?_,fun hc=>I2.ok.hd js,I2.ok.frames,.inl rfl,?_,?_,?_,?_,?_,?_,?_⟩
  ·rcases both x c h1 with q1|q1<;>rcases both y c h2 with q2|q2
   ·exact name_of_addr cok.apart (PySem.mem_of_lookup q1) (PySem.mem_of_lookup q2)
   ·exact absurd (cllow y c q2) (iT.mpr (aM (by omega) (ownhi x c q1).2))
   ·exact absurd (cllow x c q1) (iT.mpr (aM (by omega) (ownhi y c q2).2))
   ·exact I2.ok.inj x y c (AN _ _ q1) (AN _ _ q2)
  ·show ∃c,(cellsFrom (G2.objs.size+1) scope.names []++cl).lookup x=some c
   rw[iS]
   by_cases hq:scope.names.lookup x=some .cell
   ·obtain⟨c,e⟩:=ml (n:=G2.objs.size+1) hq
    exact⟨c,by rw[e];rfl⟩
   ·obtain⟨c,e⟩:=Cm x hq hx
    cases h:(cellsFrom (G2.objs.size+1) scope.names []).lookup x with
    |none=>exact⟨c,e⟩
    |some b=>exact⟨b,rfl⟩
  ·have hq:scope.names.lookup x=some .cell:=by simpa using h0
   obtain⟨b,e⟩:=ml (n:=G2.objs.size+1) hq
   have hc:(cellsFrom (G2.objs.size+1) scope.names []++cl).lookup x=some c:=hc
   rw[iS,e]at hc
   cases hc
   have:=(ownhi x _ e).2
   show s2.heap.objs.size<=_
   omega
  ·intro b hb
   exact⟨a7 (aQ (hfpn b hb) (by show _<=G2.objs.size;omega)),fun x c hx=>(both x c hx).elim (fun q=>dS (aQ (hfpn b hb) (aM (by omega) (ownhi x c q).2))) fun q=>hfpc b hb x c (AN _ _ q)⟩
  ·exact fun b o hb=>I2.bs b o hb
  ·exact aM I2.ok.bsz I2.sz
  ·intro b o hb z
   rcases(f2 b z).2.2.2.1 with q|q
   ·exact I2.ok.noex b o hb q
   ·exact absurd (aI (I2.ok.bs b o hb).1) (iT.mpr q)
  ·intro b hb z
   rcases aS.mp (I2.stkSub b z)with q|q
   ·exact(f2 b hb).2.1 q
   ·exact(f2 b hb).2.2.1 q
  ·exact I2.stack
  ·exact I2.stkFree
 have I4:bU (eQ X nm scope (cellsFrom (G2.objs.size+1) scope.names []++cl) G2.objs.size s2 H1 fp) [] (pG cap σ) H1 { s2 with heap:=h₁ }:=by
  refine E0 t9 fT I2 hfpc (σ2:=List.replicate nm.length none) ⟨okB,rfl,I2.bare,Un.kept old,⟨_,hns₁,fun i x v _ e2=>?_⟩,fun x c hx=>?_,?_,fun x c hx=>(both x c hx).elim (fun q=>I2.hok.fresh (by have:=(ownhi x c q).2;omega)) fun q=>I2.freeC x c (AN _ _ q),fun p hp=>absurd hp (by simp),I2.hok.kept old,by simp,I2.pos,az _⟩
  ·rw[i6]at e2;split at e2<;>cases e2
  ·rcases both x c hx with q|q
   ·exact⟨none,(ownhi x c q).1⟩
   ·obtain⟨v,hv⟩:=I2.cell x c (AN _ _ q)
    exact⟨v,hv.keeps old⟩
  ·exact I2.hok.fresh (by show _<=G2.objs.size;omega)
 have hsz0:∀{Hx:Hp} {sx:Shared} {px:List (Addr×Obj)} {σx:St},bU (eQ X nm scope (cellsFrom (G2.objs.size+1) scope.names []++cl) G2.objs.size s2 H1 fp) px σx Hx sx->Hx s2.heap.objs.size=none->∀{oa:Obj},sx.heap.get? s2.heap.objs.size=some oa->(∀v,oa.data≠.cell v) ->
   bU (eQ X nm scope (cellsFrom (G2.objs.size+1) scope.names []++cl) G2.objs.size s2 H1 fp) [(s2.heap.objs.size,oa)] σx Hx sx:=fun{Hx sx px σx} Ix hn {oa} ho hd=>Ix.pins_of fun p hp=>by
  have e:p=(s2.heap.objs.size,oa):=by simpa using hp
  subst e
  exact⟨ho,hn,hDC,fun z=>by
   obtain⟨_,o,q,_⟩:=I2.stack.mem z
   exact absurd (aI q) (dz _),hd⟩
 have hfpB:∀{Hx:Hp} {oa:Obj},(∀b∈fp,Hx b=none)->∀b∈fp,rX (eQ X nm scope (cellsFrom (G2.objs.size+1) scope.names []++cl) G2.objs.size s2 H1 fp) [(s2.heap.objs.size,oa)] Hx b:=fun{Hx oa} hn b hb=>
  ⟨hn b hb,(okB.exf b hb).1,okB.exfs b hb,.inl hb,(okB.exf b hb).2,fun p hp=>by
   have e:p=(s2.heap.objs.size,oa):=by simpa using hp
   subst e
   exact dS (hfpn b hb)⟩
 have hcalmB:(eQ X nm scope (cellsFrom (G2.objs.size+1) scope.names []++cl) G2.objs.size s2 H1 fp).calm=true:=js
 have loop:∀sx:Shared,sx={ s2 with heap:=h₁ } ->
   codeAny (model X.prog X.w) X.A (.compLoop (.ListComp qr [⟨tg,dQ,mM,0⟩] scope pos) 0 (.ref it) (.ref s2.heap.objs.size) (compEnvC scope (cellsFrom (G2.objs.size+1) scope.names []++cl) G2.objs.size X.env))
    (compPost (model X.prog X.w) X.A X.xe use Qv (.ref s2.heap.objs.size) G2.objs.size) sx:=by
  rintro sx rfl
  refine codeAny_loop rfl (fun n s'=>∃i ys H',bU (eQ X nm scope (cellsFrom (G2.objs.size+1) scope.names []++cl) G2.objs.size s2 H1 fp) [] (pG cap σ) H' s'/\tn i s'.heap/\(∀b∈fp,H' b=none)/\H' s2.heap.objs.size=none /\
   (∃bF k,cG s'.toks ys bF/\s'.heap.get? s2.heap.objs.size=some { cls:=.type "list",data:=.seq bF.toArray k })/\W i n ys H') ?_ m0
   ⟨0,[],H1,I4,T.keep _ _ _ cX (fun b _ o e=>old b o e),fun b hb=>(f2 b hb).1,I2.fresh,⟨[],0,.nil,hacc⟩,w0⟩
  rintro n s3 ⟨i,ys,H3,I3,lM,fr3,na3,⟨bF,ka,rv,ea⟩,w3⟩
  show wpAny _ X.A ((compTurn (.ListComp qr [⟨tg,dQ,mM,0⟩] scope pos) 0 (.ref it) (.ref s2.heap.objs.size) (compEnvC scope (cellsFrom (G2.objs.size+1) scope.names []++cl) G2.objs.size X.env)).onRaise (fun x=>do noteFrame x (compEnvC scope (cellsFrom (G2.objs.size+1) scope.names []++cl) G2.objs.size X.env);theTreesLotGoes x)) _ _ s3
  refine wpAny_noted ?_
  rw[compTurn_list]
  refine aa (pW ?_)
  have I3p:=hsz0 I3 na3 ea (fun v z=>by cases z)
  rcases turn i n ys H3 w3 with⟨stop,hz,qn⟩|⟨go,step⟩
  ·refine aa (r9 (T.done (eQ X nm scope (cellsFrom (G2.objs.size+1) scope.names []++cl) G2.objs.size s2 H1 fp) rfl rfl rfl hcalmB i _ s3 _ H3 (fun _ _=>False) I3p (hfpB fr3) lM stop) (fun r s4 kt4 hr=>?_))
   obtain⟨hr,I4'⟩:=hr
   subst hr
   refine ay ?_
   obtain⟨m4,hn4,_⟩:=id I4'.loc
   have pa:=I4'.pin (s2.heap.objs.size,{ cls:=.type "list",data:=.seq bF.toArray ka }) (by simp)
   have ne:∀b o,s2.heap.get? b=some o->b≠s2.heap.objs.size/\b≠G2.objs.size:=fun b o e=>⟨a7 (aI e),a7 (by rw[hC];exact cJ (aI e))⟩
   have I5:bU X al σ (gf H3 s2.heap.objs.size (.lst ys)) s4:=by
    refine I2.call' (ch:=fp) I4'.os ⟨fun b o e n hb hx=>?_,fun b o e n hb hx=>?_,fun b o e n hx=>?_,fun b o e hx=>?_,fun b xs e=>?_,fun b o u e=>?_,fun b ps e=>?_⟩ ?_ I4'.bare (fun b hb=>?_) I4'.tk
    ·exact I4'.base.keep b o e n hb hx
    ·exact I4'.base.slot b o e n hb hx
    ·rw[cZ (ne b o e).1];exact I4'.base.free b o e n hx
    ·exact I4'.base.there b o e hx
    ·have q:=I4'.base.tups b xs e
     rw[cZ (fg q na3)];exact q
    ·have q:=I4'.base.frzs b o u e
     rw[cZ (fg q na3)];exact q
    ·obtain⟨mr,q⟩:=I4'.base.tbls b ps e
     exact⟨mr,by rw[cZ (fg q na3)];exact q⟩
    ·intro b o e
     by_cases hb:b=s2.heap.objs.size
     ·subst hb
      rw[iA]at e;cases e
      exact⟨hz,bF,ka,rv.up kt4,pa.1⟩
     ·rw[cZ hb]at e
      exact(I4'.hok b o e).stay (fun c u hc q=>q) (fun c q=>by rw[cZ (fg q na3)];exact q) fun c xs q=>by rw[cZ (fg q na3)];exact q
    ·obtain⟨_,g1,_,g3,g4,g5⟩:=f2 b hb
     exact⟨g3,g1,g4,g5⟩
   have lC:s2.heap.objs.size<=G2.objs.size:=by rw[hC];exact bp _
   exact kA s4 G2.objs.size _ m4 _ I5 ⟨hn4,by rw[cZ (Ne.symm hDC)];exact I4'.free,dS (aQ I2.lt lC),I2.nofs lC,aM I2.sz lC,fun x c hx z=>(by
    obtain⟨v,o,ho,_⟩:=I2.cell x c hx
    exact absurd (aI ho) (by rw[z];exact iT.mpr lC)),fun p hp z=>(by
    have:=(I2.pin p hp).1
    exact absurd (aI this) (by rw[z];exact iT.mpr lC))⟩ (qn _ na3)
  ·refine aa (r9 (T.item (eQ X nm scope (cellsFrom (G2.objs.size+1) scope.names []++cl) G2.objs.size s2 H1 fp) rfl rfl rfl hcalmB i _ s3 _ H3 (fun _ _=>False) I3p (hfpB fr3) lM go) (fun r s4 kt4 hr=>?_))
   obtain⟨u,hr,h4⟩:=hr
   subst hr
   dsimp only
   refine aa (r9 h4 (fun _ s5 kt5 h5=>?_))
   obtain⟨x,H5,I5,r5,y5,st5,fr5⟩:=h5
   have I5':=I5.pinned (hfpB fr5) (T.obj _ _ st5)
   refine aa (r9 (hg _ _ _ _ _ _ s5 _ H5 x u _ I5' r5 (step x H5 y5)) (fun _ s6 kt6 h6=>?_))
   obtain⟨σ6,H6,I6,q6⟩:=h6
   refine aa (r9 (ht _ _ _ _ _ _ s6 σ6 H6 _ I6 q6) (fun ok s7 kt7 h7=>?_))
   obtain⟨H7,I7,q7⟩:=h7
   have back:∀{H8:Hp} {s8:Shared} {Oa:List V} {its':List Value} {k':Nat},bU (eQ X nm scope (cellsFrom (G2.objs.size+1) scope.names []++cl) G2.objs.size s2 H1 fp) [] σ6 H8 s8->(∀b∈fp,∀o,s5.heap.get? b=some o->s8.heap.get? b=some o)->(∀b∈fp,H8 b=none)->H8 s2.heap.objs.size=none ->
     cG s8.toks Oa its'->s8.heap.get? s2.heap.objs.size=some { cls:=.type "list",data:=.seq its'.toArray k' }->(∃m',m'<n/\W (i+1) m' Oa H8) ->
     ∃m,m<n/\∃i ys H',bU (eQ X nm scope (cellsFrom (G2.objs.size+1) scope.names []++cl) G2.objs.size s2 H1 fp) [] (pG cap σ) H' s8/\tn i s8.heap/\(∀b∈fp,H' b=none)/\H' s2.heap.objs.size=none /\
      (∃bF k,cG s8.toks ys bF/\s8.heap.get? s2.heap.objs.size=some { cls:=.type "list",data:=.seq bF.toArray k })/\W i m ys H':=
    fun{H8 s8 Oa its' k'} I8 kf f8 n8 rv8 e8 ⟨m',hm,w8⟩=>⟨m',hm,i+1,Oa,H8,E0 t9 fT I2 hfpc I8,T.keep _ _ _ st5 kf,f8,n8,⟨its',k',rv8,e8⟩,w8⟩
   cases ok with
   |false=>
    refine ay ⟨rfl,?_⟩
    have q7':∃m',m'<n/\W (i+1) m' ys H7:=by simpa using q7
    have pa:=I7.pin (s2.heap.objs.size,{ cls:=.type "list",data:=.seq bF.toArray ka }) (by simp)
    refine back (I7.pins_of fun p hp=>absurd hp (by simp)) (fun b hb o e=>?_) (fun b hb=>?_) pa.2.1 (rv.up (by omega)) pa.1 q7'
    ·exact(I7.pin (b,o) (aO _ (aO _ (jv hb e)))).1
    ·obtain⟨o,e,d⟩:=T.obj _ _ st5 b hb
     exact(I7.pin (b,o) (aO _ (aO _ (jv hb e)))).2.1
   |true=>
    rw[aJ rfl]at q7
    refine aa (aa (r9 (he _ _ _ _ _ _ s7 σ6 H7 _ I7 q7) (fun xv s8 kt8 h8=>?_)))
    obtain⟨y,H8,I8,r8,hzy,q8⟩:=h8
    have pa:=I8.pin (s2.heap.objs.size,{ cls:=.type "list",data:=.seq bF.toArray ka }) (by simp)
    refine aa (up (xD pa.1 (by rw[<- rv.length];exact hzy) fun h' k' tk e9 sb hk=>?_))
    refine ay (ay ⟨rfl,?_⟩)
    have I9:bU (eQ X nm scope (cellsFrom (G2.objs.size+1) scope.names []++cl) G2.objs.size s2 H1 fp) [] σ6 H8 { s8 with heap:=h',toks:=tk }:=
     (bU.pins_of (pins':=[]) I8 fun p hp=>absurd hp (by simp)).turned (it:=s2.heap.objs.size) (fun b o hb e=>sb b o hb e) pa.2.1 hDC (.inr (az _)) (fun x c hx z=>by
      rcases both x c hx with q|q
      ·exact iT.mpr (ownhi x c q).2 (by rw[z];omega)
      ·exact dz _ (by have:=cllow x c q;rw[z]at this;exact this)) (fun p hp=>absurd hp (by simp))
    refine back I9 (fun b hb o e=>?_) (fun b hb=>?_) pa.2.1 ((rv.up (by omega)).append (.cons (r8.up hk) .nil)) e9 q8
    ·exact sb b o (a7 (hfpn b hb)) (I8.pin (b,o) (aO _ (aO _ (jv hb e)))).1
    ·obtain⟨o,e,d⟩:=T.obj _ _ st5 b hb
     exact(I8.pin (b,o) (aO _ (aO _ (jv hb e)))).2.1
 exact codeAny_compStart_list (loop _ rfl) (T.self _ _ _ _ _ (T.keep _ _ _ cX fun b _ o e=>old b o e) (loop _ rfl))
theorem qC:∀(names:List (Str×NameKind)) (n:Nat),(∀y∈names,y.2≠.cell)->cellsFrom n names []=[]
 |[],_,_=>rfl
 |(x,k)::r,n,h=>by
  show(if k==.cell then cellsFrom (n+1) r [(x,n)]else cellsFrom n r [])=[]
  rw[aV (by have:=h (x,k) (by simp);simpa using this)]
  exact qC r n fun y hy=>h y (by simp[hy])
theorem wE{al:List (Addr×Obj)}{σ:St}{H:Hp}{s:Shared}{use:Option (Value->Sem Unit)}{Qk:VK}{Qv:Value->Shared->Prop}(js:X.calm=true)(vJ:closureFor scope X.env=pure cl)(AN:∀x c,cl.lookup x=some c->X.env.cells.lookup x=some c)
  (jt:scope.kind=.function) (qu:∀x∈scope.names,x.2=.local->scope.names.lookup x.1=some .local) (gR:∀y∈scope.names,y.2≠.cell)
  (Cm:∀x,((relabel scope X.env).names.lookup x=some .cell\/(relabel scope X.env).names.lookup x=some .free)->∃c,cl.lookup x=some c)
  (t9:∀(i j:Nat),cap[i]?=some (some j)->∃x,nm[i]?=some x/\X.N[j]?=some x/\uG X scope cl x) (fT:cap.length=nm.length)
  (hi:PI X tg dQ wi) (hg:∀C s0 H0 fp,PG (dI X nm scope cl C s0 H0 fp) tg g) (ht:∀C s0 H0 fp,EZ (dI X nm scope cl C s0 H0 fp) mM tc)
  (he:∀C s0 H0 fp,PE (dI X nm scope cl C s0 H0 fp) qr te) (hs:∀x,foldedSetIterable dQ X.env x=pure x)
  (I:bU X al σ H s) (h:uF cap wi g tc te σ H Qk) (kA:∀(s4:Shared) (C D:Addr) (m4:Str->Option Value) (Hn:Hp),bU X al σ Hn s4->y7 X al Hn s4 C m4->Qk (.ref D) Hn->compPost (model X.prog X.w) X.A X.xe use Qv (.ref D) C (.ok .next) s4) :
  wpAny (model X.prog X.w) X.A (comprehension (.ListComp qr [⟨tg,dQ,mM,0⟩] scope pos) scope X.env (firstIterPos [⟨tg,dQ,mM,0⟩] pos) (newList []) (firstAsync [⟨tg,dQ,mM,0⟩]) (firstIter [⟨tg,dQ,mM,0⟩] X.env) use) Qv X.xe s:=by
 have nc:∀k,cellsFrom k scope.names []++cl=cl:=fun k=>by rw[qC _ _ gR];rfl
 have nx:∀C s0 H0 fp,eQ X nm scope cl C s0 H0 fp=dI X nm scope cl C s0 H0 fp:=fun C s0 H0 fp=>by
  have:(fun y=>scope.names.lookup y==some .cell)=fun _=>false:=funext fun y=>by
   rw[bj]
   exact fun e=>gR _ (iV e) rfl
  unfold eQ dI
  rw[this]
 exact Be js vJ AN jt qu (fun y hy h=>absurd h (gR y hy)) (fun x _ h=>Cm x h) (fun i j h=>let ⟨x,a,b,d⟩:=t9 i j h;⟨x,a,b,d,fun z=>gR _ z rfl⟩) fT hi
  (fun k C s0 H0 fp=>by rw[nc,nx];exact hg C s0 H0 fp) (fun k C s0 H0 fp=>by rw[nc,nx];exact ht C s0 H0 fp) (fun k C s0 H0 fp=>by rw[nc,nx];exact he C s0 H0 fp) hs I h kA
theorem IL(js:X.calm=true)(vJ:closureFor scope X.env=pure cl)(AN:∀x c,cl.lookup x=some c->X.env.cells.lookup x=some c)
  (jt:scope.kind=.function) (qu:∀x∈scope.names,x.2=.local->scope.names.lookup x.1=some .local) (gR:∀y∈scope.names,y.2≠.cell)
  (Cm:∀x,((relabel scope X.env).names.lookup x=some .cell\/(relabel scope X.env).names.lookup x=some .free)->∃c,cl.lookup x=some c)
  (t9:∀(i j:Nat),cap[i]?=some (some j)->∃x,nm[i]?=some x/\X.N[j]?=some x/\uG X scope cl x) (fT:cap.length=nm.length)
  (hi:PI X tg dQ wi) (hg:∀C s0 H0 fp,PG (dI X nm scope cl C s0 H0 fp) tg g) (ht:∀C s0 H0 fp,EZ (dI X nm scope cl C s0 H0 fp) mM tc)
  (he:∀C s0 H0 fp,PE (dI X nm scope cl C s0 H0 fp) qr te) (hs:∀x,foldedSetIterable dQ X.env x=pure x:=by intro _;rfl) :
  PE X (.ListComp qr [⟨tg,dQ,mM,0⟩] scope pos) (uF cap wi g tc te):=by
 intro al s σ H Q I h
 rw[eval_ListComp]
 exact wE js vJ AN jt qu gR Cm t9 fT hi hg ht he hs I h fun s4 C D m4 Hn I4 B q=>⟨m4,B.ns,fun h' hs'=>⟨.ref D,Hn,B.off I4 hs',rfl,q⟩⟩
end
end L2
namespace L2
variable{nk:Nat}
open PySem PySem.Spec PyProof.Rows
def tx(l:List Nat):Str:=⟨l.toArray⟩
theorem L6(l:List Nat):(tx l).cps.toList=l:=rfl
theorem ON(z:Str):tx z.cps.toList=z:=by cases z;rfl
theorem iN(l:List Nat):(tx l).length=l.length:=by show l.toArray.size=_;simp
theorem Bf(a b:List Nat):tx a++tx b=tx (a++b):=by
 show(⟨a.toArray++b.toArray⟩:Str)=⟨(a++b).toArray⟩
 simp
theorem Bg{a b:List Nat}:tx a=tx b↔a=b:=⟨fun h=>by have:=hJ (fun z:Str=>z.cps.toList) h;exact this,fun h=>by rw[h]⟩
def RW(ud:List V):It:=⟨fun i _=>i<ud.length,fun i H x H'=>H'=H/\ud[i]?=some x,fun i _=>ud.length<=i⟩
section
variable{X:Cx}{tg:Expr}
def ja(l:List Nat):List V:=l.map fun c=>.str (tx [c])
def RX(tl:TE):TI:=fun σ H R=>tl σ H fun x H1=>∃l,x=.str (tx l)/\R (RW (ja l)) H1
theorem uH{P:Program}{w:World}{K:Frag}{tg:Expr}{it:Addr}{l:List Nat}{t:Tok}{ty:String}(Cr:["enumerate","zip","dict_itemiterator","dict_reverseitemiterator","odict_iterator","itertools.zip_longest","itertools.pairwise"].contains ty=false)
  (next:∀{A:Around} {s:Shared} {i c:Nat} {Q:Option Value->Shared->Prop} {E:Value->Shared->Prop},s.heap.IsStrIter it ty (tx l) t i->(tx l).cps[i]?=some c ->
   (∀h',h'.IsStrIter it ty (tx l) t (i+1)->Heap.SameBut it s.heap h'->Q (some (.str ⟨#[c]⟩ s.toks)) { s with heap:=h',toks:=s.toks+1 })->wpAny (model P w) A (pyNext (.ref it)) Q E s)
  (stop:∀{A:Around} {s:Shared} {i:Nat} {Q:Option Value->Shared->Prop} {E:Value->Shared->Prop},A.handled=none->s.heap.IsStrIter it ty (tx l) t i->(tx l).cps[i]?=none ->
   (∀h',Heap.ExtBut it s.heap h'->Q none { s with heap:=h' })->wpAny (model P w) A (pyNext (.ref it)) Q E s)
  (QU:∀(A:Around) (i:Nat) (s:Shared) (Q:Value->Shared->Prop) (E:Value->Shared->Prop),s.heap.IsStrIter it ty (tx l) t i->Q (.ref it) s->wpAny (model P w) A (pyIter (.ref it)) Q E s) :
  AX P w K tg (RW (ja l)) [it] it (fun i h=>h.IsStrIter it ty (tx l) t i) where
 mem:=by simp
 obj:=fun i h st b hb=>by
  have e:b=it:=by simpa using hb
  subst e
  obtain⟨o,e,_,d⟩:=st
  exact⟨o,e,fun v z=>by rw[d]at z;cases z⟩
 keep:=fun i h h' st k=>by
  obtain⟨o,e,r⟩:=st
  exact⟨o,k it (by simp) o e,r⟩
 item:=by
  intro X hP hw hK hc i al s σ H E I hf st hg
  subst hP hw hK
  obtain⟨f0,f1,f2,f3,f4,f5⟩:=hf it (by simp)
  have hg:i<l.length:=by have hg:i<(ja l).length:=hg;simpa[ja]using hg
  obtain⟨c,hx⟩:∃c,l[i]?=some c:=⟨_,aj hg⟩
  refine next st (c:=c) (by simpa[tx]using hx) fun h' bh hs=>?_
  have I1:bU X al σ H { s with heap:=h',toks:=s.toks+1 }:=I.turned (fun b o hb e=>hs.extBut b o hb e) f0 f1 f3 f4 f5
  obtain⟨o,e,cl,d⟩:=id bh
  exact⟨_,rfl,CA (s:={ s with heap:=h',toks:=s.toks+1 }) e cl d Cr ⟨.str (tx [c]),H,I1,I.tkS,⟨rfl,by unfold ja;rw[aG,hx];rfl⟩,bh,fun b hb=>(hf b hb).1⟩⟩
 done:=by
  intro X hP hw hK hc i al s σ H E I hf st hg
  subst hP hw hK
  obtain⟨f0,f1,f2,f3,f4,f5⟩:=hf it (by simp)
  have hg:l.length<=i:=by have hg:(ja l).length<=i:=hg;simpa[ja]using hg
  exact stop (I.ok.hd hc) st (by simpa[tx]using hg) fun h' hs=>⟨rfl,I.turned (t':=s.toks) (fun b o hb e=>hs b o hb e) f0 f1 f3 f4 f5⟩
 self:=fun A i s Q E st h=>QU A i s Q E st h
theorem L7{l:Expr}{tl:TE}(hl:PE X l tl):PI X tg l (RX tl):=by
 intro al s σ H R I h
 refine jq (hl al s σ H _ I h) fun v s1 kt1 ⟨x,H1,I1,r1,q1⟩=>?_
 obtain⟨l,e,q⟩:=q1
 subst e
 obtain⟨t,rfl⟩:=r1
 have fp:∀b∈[s1.heap.objs.size],rX X al H1 b:=fun b hb=>by
  have e:b=s1.heap.objs.size:=by simpa using hb
  subst e
  exact I1.fpOk (az _) (I1.hok.fresh (az _))
 cases ha:(tx l).cps.all (· < 128)
 ·exact lN ha ⟨s1.heap.objs.size,[s1.heap.objs.size],_,_,H1,rfl,I1.kept (t':=s1.toks) fun b o e=>aq _ e,uH (l:=l) (t:=t.1) (ty:="str_iterator") (by decide) (fun a b c=>jl a b c) (fun hh a b c=>wpAny_pyNext_wide_end hh a b c) (fun A i s Q E st h=>wpAny_pyIter_striter_wide st h),⟨_,aB _ rfl,rfl,rfl⟩,fp,q⟩
 ·exact k7 ha ⟨s1.heap.objs.size,[s1.heap.objs.size],_,_,H1,rfl,I1.kept (t':=s1.toks) fun b o e=>aq _ e,uH (l:=l) (t:=t.1) (ty:="str_ascii_iterator") (by decide) (fun a b c=>i7 a b c) (fun hh a b c=>wpAny_pyNext_ascii_end hh a b c) (fun A i s Q E st h=>wpAny_pyIter_striter_ascii st h),⟨_,aB _ rfl,rfl,rfl⟩,fp,q⟩
def Bh(l:List Nat)(lo hi:Option Int):List Nat:=(l.drop (HT.sIx l.length 0 lo)).take (HT.sIx l.length l.length hi-HT.sIx l.length 0 lo)
theorem y8(l:List Nat)(lo hi:Option Int):(Bh l lo hi).length<=l.length:=by unfold Bh;rw[aL,cm];omega
theorem Bi(l:List Nat)(i k:Nat):((List.range k).map fun(m:Nat)=>i+m).filterMap (fun j=>l[j]?)=(l.drop i).take k:=by
 induction k generalizing i with
 |zero=>simp
 |succ k ih=>
  rw[ng,bn,b7]
  have e:((fun m=>i+m)∘Nat.succ)=fun m=>(i+1)+m:=by funext m;simp[Function.comp];omega
  rw[e]
  by_cases h:i<l.length
  ·rw[fW]
   simp only[rM,aj h]
   rw[ih (i+1),fD h,List.take_succ_cons]
  ·rw[fW]
   have h':l.length<=i:=by omega
   simp only[rM,b9 h']
   rw[ih (i+1),nh h',nh (by omega)]
   simp
theorem J1(v:Int)(n d:Nat):(if (1:Int)>0 then max 0 (min (if v<0 then v+(n:Int)else v) (n:Int))else max (-1) (min (if v<0 then v+(n:Int)else v) ((n:Int)-1)))=((HT.sIx n d (some v):Nat):Int):=by
 rw[aJ (by omega)]
 show _=(((if v<0 then(v+(n:Int)).toNat else min v.toNat n):Nat):Int)
 by_cases hv:v<0
 ·simp only[aJ hv];omega
 ·simp only[aV hv];omega
theorem L8(lo hi:Option Int)(n:Nat):Builtin.Str.strSliceIndices lo hi 1 n=(List.range (HT.sIx n n hi-HT.sIx n 0 lo)).map fun(m:Nat)=>HT.sIx n 0 lo+m:=by
 have key:∀a b:Nat,sliceRange (a:Int) (b:Int) 1=(List.range (b-a)).map fun(m:Nat)=>a+m:=fun a b=>by
  unfold sliceRange
  have e:(if (1:Int)>0 then(if (a:Int)<(b:Int)then((b:Int)-a+1-1)/1 else 0)else(if (a:Int)>b then((a:Int)-b-1-1)/(-1)else 0)).toNat=b-a:=by
   rw[aJ (by omega)]
   by_cases h:(a:Int)<b
   ·rw[aJ h];omega
   ·rw[aV h];omega
  dsimp only
  rw[e]
  refine eO fun k _=>?_
  omega
 unfold Builtin.Str.strSliceIndices
 rw[<- key]
 dsimp only
 congr 1
 ·cases lo with
  |none=>rfl
  |some v=>exact J1 v n 0
 ·cases hi with
  |none=>rfl
  |some v=>exact J1 v n n
theorem E1(l:List Nat)(lo hi:Option Int):Txt.slice (tx l) lo hi=tx (Bh l lo hi):=by
 unfold Txt.slice
 rw[L8,iN]
 split
 ·rename_i h
  simp only[beq_self_eq_true,Bool.true_and,dv,aE,List.length_range]at h
  unfold Bh
  have h1:=HT.sIx_le l.length l.length (az _) hi
  have h2:=HT.sIx_le l.length 0 (ce _) lo
  by_cases hz:l.length=0
  ·have:l=[]:=gl hz
   subst this;simp
  ·have e0:HT.sIx l.length 0 lo=0:=by omega
   rw[e0,List.drop_zero,bz (by omega)]
 ·unfold Bh tx
  have:∀j:Nat,(l.toArray)[j]?=l[j]?:=fun j=>by simp
  simp only[this]
  rw[Bi]
def RY:V->Option Int->Option Int->Hp->VK->Prop:=fun x lo hi H Q=>∃l,x=.str (tx l)/\l.length<=sizeLine/\Q (.str (tx (Bh l lo hi))) H
theorem CH{v:Value}{o:Option Int}(p:IsPart v o):∃q:Option (Int×Tok),v=partValue q/\q.map (·.1)=o:=by
 cases p with
 |none=>exact⟨none,rfl,rfl⟩
 |int i t=>exact⟨some (i,t),rfl,rfl⟩
theorem L9:OF X RY:=by
 intro al s σ H x v vl vu lo hi sl Q I rx hs pl pu h
 obtain⟨l,e,hz,q⟩:=h
 subst e
 obtain⟨t,rfl⟩:=rx
 obtain⟨pl',rfl,rfl⟩:=CH pl
 obtain⟨pu',rfl,rfl⟩:=CH pu
 refine⟨"str",_,F.slot_str_getitem.lookup,k6 _ _ _,?_⟩
 refine wpAny_getItem_str_slice (l:=pl') (u:=pu') (st:=none) hs rfl ?_
 have e:=E1 l (pl'.map (·.1)) (pu'.map (·.1))
 unfold Txt.slice at e
 have hl:(tx (Bh l (pl'.map (·.1)) (pu'.map (·.1)))).length<=sizeLine:=by rw[iN];exact aM (y8 l _ _) hz
 show(if ((1:Int)==1&&(Builtin.Str.strSliceIndices (pl'.map (·.1)) (pu'.map (·.1)) 1 (tx l).length).length==(tx l).length)=true then Made.val (.str (tx l) t.1)else Made.str ⟨((Builtin.Str.strSliceIndices (pl'.map (·.1)) (pu'.map (·.1)) 1 (tx l).length).filterMap ((tx l).cps[·]?)).toArray⟩).post (EP X al σ Q) s
 split
 ·rename_i hc
  rw[aJ hc]at e
  rw[<- e]at q
  exact⟨.str (tx l),H,I,⟨t,rfl⟩,q⟩
 ·rename_i hc
  rw[aV hc]at e
  rw[e]
  exact⟨hl,⟨.str _,H,I.tok _,I.tkS,q⟩⟩
theorem L_(c:Nat)(l:List Nat):(!(Builtin.Str.occurrences (tx l) (tx [c]) 0 (tx l).length 1).isEmpty)=decide (c∈l):=StrLaws.found_one (tx l) c
def RZ(QK:Bool):R2:=fun x y H Q=>∃c l,x=.str (tx [c])/\y=.str (tx l)/\Q (.bl (if QK then !decide (c∈l)else decide (c∈l))) H
theorem DG:n9 X (compareOp .In) (RZ false):=by
 intro al s σ H x y v u Q I rx ry h
 obtain⟨c,l,rfl,rfl,q⟩:=h
 exact Du al s σ H _ _ v u Q I rx ry ⟨_,_,rfl,rfl,by rw[L_];exact q⟩
theorem uI:∀{ys:List (List Nat)} {bF:List Value},cG nk (ys.map fun l=>V.str (tx l)) bF->StrsAre bF (ys.map tx)
 |[],_,r=>by cases r;exact .nil
 |y::ys,_,r=>by
  cases r with
  |cons r rr=>
   obtain⟨t,rfl⟩:=r
   exact .cons _ _ (uI rr)
def iB(n:Nat)(bF:List Value):Prop:=∀(x:Str) (t:Tok),Value.str x t∈bF->x.length=1->0<t/\t<n
theorem mO:∀{bF:List Value} {ss:List Str},StrsAre bF ss->iB nk bF->cG nk (ss.map fun z=>V.str z) bF
 |_,_,.nil,_=>.nil
 |_,_,.cons y t r,h=>.cons ⟨⟨t,h y t bB⟩,rfl⟩ (mO r fun x u hx=>h x u (aR _ hx))
theorem qD:∀{vs:List V} {bF:List Value},cG nk vs bF->iB nk bF
 |_,_,.nil=>fun _ _ h=>nomatch h
 |v::_,_,.cons r t=>fun x u hx=>by
  rcases aS.mp hx with e|hx
  ·subst e
   cases v with
   |str y=>obtain⟨tk,e⟩:=r;cases e;exact tk.2
   |non=>cases r
   |bl b=>cases r
   |int i=>obtain⟨_,e⟩:=r;cases e
   |byt b=>obtain⟨_,e⟩:=r;cases e
   |flt b=>obtain⟨_,e⟩:=r;cases e
   |ref a=>cases r
   |ty n=>cases r
  ·exact qD t x u hx
theorem CI:∀{ys:List (List Nat)} {bF:List Value},cG nk (ys.map fun l=>V.str (tx l)) bF->∃zs:List (Str×Tok),bF=strValues zs/\zs.map (·.1)=ys.map tx
 |[],_,r=>by cases r;exact⟨[],rfl,rfl⟩
 |y::ys,_,r=>by
  cases r with
  |cons r rr=>
   obtain⟨t,rfl⟩:=r
   obtain⟨zs,rfl,e⟩:=CI rr
   exact⟨(tx y,t.1)::zs,rfl,by rw[bn,bn,e]⟩
def kN(sep:List Nat):List (List Nat)->List Nat
 |[]=>[]
 |[x]=>x
 |x::y::r=>x++sep++kN sep (y::r)
theorem mq:∀ys:List (List Nat),kN [] ys=ys.flatten
 |[]=>rfl
 |[x]=>by simp[kN]
 |x::y::r=>by rw[kN,mq (y::r)];simp
theorem CJ(sep:List Nat):∀ys:List (List Nat),Txt.join (tx sep) (ys.map tx)=tx (kN sep ys):=fun ys=>by
 show Builtin.Str.glued (tx sep) (ys.map tx)=_
 rw[gO]
 induction ys with
 |nil=>rfl
 |cons x r ih=>
  cases r with
  |nil=>rfl
  |cons y r=>
   show tx x++tx sep++Str.join (tx sep) ((y::r).map tx)=tx (x++sep++kN sep (y::r))
   rw[ih,Bf,Bf]
def OO(K:Frag):V->List V->Hp->VK->Prop:=fun x vs H Q=>∃(sep:List Nat) (a:Addr) (ys:List (List Nat)),x=.str (tx sep)/\vs=[.ref a]/\rW K H a (ys.map fun l=>V.str (tx l))/\(ys.map List.length).sum+ys.length*sep.length<=16777216/\Q (.str (tx (kN sep ys))) H
theorem bU.joinS{al:List (Addr×Obj)}{σ:St}{H:Hp}{s:Shared}{Q:VK}{sep:Str}{zs:List (Str×Tok)}(I:bU X al σ H s)(hl:(Builtin.Str.glued sep (zs.map (·.1))).length<=sizeLine)(hk:iB s.toks (strValues zs))(q:Q (.str (Txt.join sep (zs.map (·.1)))) H):(joinMade sep zs).post (EP X al σ Q) s:=by
 have kA:(Made.str (Builtin.Str.glued sep (zs.map (·.1)))).post (EP X al σ Q) s:=⟨hl,⟨.str _,H,I.tok _,I.tkS,q⟩⟩
 cases zs with
 |nil=>exact kA
 |cons p r=>
  cases r with
  |nil=>
   have e:Txt.join sep [p.1]=p.1:=by
    show Builtin.Str.glued sep [p.1]=_
    rw[gO];rfl
   rw[show([p]:List (Str×Tok)).map (·.1)=[p.1]from rfl,e]at q
   exact⟨.str p.1,H,I,⟨⟨p.2,hk p.1 p.2 (by simp[strValues])⟩,rfl⟩,q⟩
  |cons _ _=>exact kA
theorem IM:DC X "str.join" (OO X.K):=by
 intro al s σ H x vs v us Q I rx rv h
 obtain⟨sep,a,ys,rfl,rfl,hS,hz,q⟩:=h
 obtain⟨t,rfl⟩:=rx
 obtain⟨u,rfl,ru⟩:=rv.one
 cases ru
 obtain⟨bF,r,p,_⟩:=I.list hS
 have hk:iB s.toks bF:=qD r
 obtain⟨zs,rfl,ez⟩:=CI (by simpa using r)
 have hok:JoinOk (tx sep) (zs.map (·.1))=true:=joinOk_of (by
  rw[ez,b7,iN,aE]
  have e:((fun z:Str=>z.length)∘tx)=List.length:=by funext l;exact iN l
  rw[e];exact hz)
 have hj:=hok
 unfold JoinOk at hj
 rw[gX]at hj
 exact qy F.slot_str_join (k6 _ _ _) F.entry_str_join (F.args_str_join_2 _ _) (meets_str_join_list (tx sep) t.1 a zs hj) ⟨p.isList,I.joinS (joinFit_length hj) hk (by rw[ez,CJ];exact q)⟩
end
end L2
namespace L2
variable{nk:Nat}
open PySem PySem.Spec PyProof.Rows
inductive D where
 |non|bl (b:Bool)|int (i:Int)|str (l:List Nat)|tnil|tcons (d r:D)
 deriving DecidableEq
structure fj(K:Frag)(H H':Hp):Prop where
 t:∀p xs,gg K H p xs->gg K H' p xs
 z:∀b o u,H b=some (.frz o u)->H' b=some (.frz o u)
instance {K:Frag} {H H':Hp}:CoeFun (fj K H H') (fun _=>∀p xs,gg K H p xs->gg K H' p xs):=⟨fj.t⟩
theorem gg.same{K:Frag}{H H':Hp}(e:uE H H'):fj K H H':=⟨fun p xs h=>by
 rcases h with(h|⟨o,h⟩)|h
 ·exact .inl (.inl (e _ _ h))
 ·exact .inl (.inr ⟨o,e _ _ h⟩)
 ·exact .inr h,fun b o u h=>e _ _ h⟩
theorem du{H:Hp}{p:Addr}(h:H p=none)(o:HO):uE H (gf H p o):=fun b u q=>by rw[cZ (fg q h)];exact q
def R0(l:Addr)(H H':Hp):Prop:=∀b o,b≠l->H b=some o->H' b=some o
theorem lq{l:Addr}{H:Hp}{o:HO}:R0 l H (gf H l o):=fun b u h q=>by rw[cZ h];exact q
theorem gg.but{K:Frag}{l:Addr}{xs:List V}{H H':Hp}(e:R0 l H H')(hl:H l=some (.lst xs)):fj K H H':=by
 have Dj:∀{p:Addr} {o:HO},H p=some o->(∀zs,o≠.lst zs)->p≠l:=fun{p o} q hn z=>by subst z;rw[hl]at q;cases q;exact hn _ rfl
 refine⟨fun p ys h=>?_,fun b o u h=>e _ _ (Dj h (fun _ z=>by cases z)) h⟩
 rcases h with(h|⟨o,h⟩)|h
 ·exact .inl (.inl (e _ _ (Dj h (fun _ z=>by cases z)) h))
 ·exact .inl (.inr ⟨o,e _ _ (Dj h (fun _ z=>by cases z)) h⟩)
 ·exact .inr h
theorem fj.refl{K:Frag}{H:Hp}:fj K H H:=⟨fun _ _ h=>h,fun _ _ _ h=>h⟩
theorem fj.trans{K:Frag}{H H1 H2:Hp}(a:fj K H H1)(b:fj K H1 H2):fj K H H2:=⟨fun p xs h=>b p xs (a p xs h),fun c o u h=>b.z c o u (a.z c o u h)⟩
theorem gg.new{K:Frag}{H:Hp}{p:Addr}{xs:List V}:gg K (gf H p (.tup xs)) p xs:=gg.of iA
end L2
namespace L2
variable{nk:Nat}
open PySem PySem.Spec PyProof.Rows
theorem OP{X:Cx}{x:Str}{v:V}{pos:Pos}(h:∃u,X.mg x=some u/\c_ 0 v u)(hg:Gl X x:=by rfl)(hd:(x==("__debug__":Str))=false:=by decide):PE X (.Name x pos) (tC v):=by
 obtain⟨u,a,b⟩:=h
 exact Ie hg a b hd
end L2
namespace L2
variable{nk:Nat}
open PySem PySem.Spec PyProof.Rows
section
variable{X:Cx}{o e:Expr}{es:List Expr}{to:TE}{t:TA}{name:Str}{f9 d_:Pos}{id:String}{r:V->List V->Hp->VK->Prop}
def Tr(r:V->List V->Hp->VK->Prop)(to:TE)(t:TA):TE:=fun σ H Q=>to σ H fun x H1=>(∃l ys,x=.ref l/\H1 l=some (.lst ys))/\t σ H1 fun xs H2=>r x xs H2 Q
def Ts(r:V->List V->Hp->VK->Prop)(to:TE)(t:TA):TE:=fun σ H Q=>to σ H fun x H1=>(∃l,x=.str (tx l))/\t σ H1 fun xs H2=>r x xs H2 Q
def R1(r:V->List V->Hp->VK->Prop)(to:TE):TE:=fun σ H Q=>to σ H fun x H1=>(∃l ys,x=.ref l/\H1 l=some (.lst ys))/\r x [] H1 Q
theorem y9{K:Frag}{x:V}{H:Hp}(h:∃l ys,x=.ref l/\H l=some (.lst ys)):Q7 K "list" x H:=by
 obtain⟨l,ys,rfl,h⟩:=h
 exact .inl ⟨rfl,_,.of h⟩
theorem CK{K:Frag}{x:V}{H:Hp}(h:∃l,x=.str (tx l)):Q7 K "str" x H:=by
 obtain⟨l,rfl⟩:=h
 exact rfl
theorem E2{T:String}{ty:V->Hp->Prop}(SD:∀x H,ty x H->Q7 X.K T x H)(pa:PlainAttrs T)(slot:Slot T name id)(Cr:typeOf (.builtin id)=pure (.type "method_descriptor"))(hm:DC X id r)(ho:PE X o to)(ha:PA X (e::es) t)
  (jS:attributeBase o name X.env (eval o X.env)=eval o X.env)
  (qv:((backTo d_ (starEach (e::es) X.env)).all (fun x=>!x.1)&&(backToKw d_ (keywordEach [] X.env)).all (fun x=>x.1.isSome)
   && decide ((e::es).length+([]:List Keyword).length+(if ([]:List Keyword).isEmpty then 0 else 1)<30))=true)
  (jR:(f9.endLine==d_.line)=true) (hs:starEach (e::es) X.env=(false,eval e X.env)::starEach es X.env) (m9:(backTo d_ (starEach es X.env)).any (·.1)=false) :
  PE X (.Call (.Attribute o name f9) (e::es) [] d_) (fun σ H Q=>to σ H fun x H1=>ty x H1/\t σ H1 fun xs H2=>r x xs H2 Q):=by
 intro al s σ H Q I h
 refine ni jS qv jR rfl (jq (ho al s σ H _ I h) fun v s1 kt1 ⟨x,H1,I1,r1,ty,q1⟩=>?_)
 obtain⟨h1,h2⟩:=Bc I1 r1 (SD _ _ ty)
 refine⟨T,id,pa,slot,Cr,h1,h2,?_⟩
 have hA:=ha d_ al s1 σ H1 _ I1 q1
 rw[hs]at hA ⊢
 refine jm (by show(false||(backTo d_ (starEach es X.env)).any (·.1))=false;rw[m9]<;>rfl) (jV ?_)
 exact jq hA fun us s2 kt2 ⟨vs,H2,I2,r2,q2⟩=>hm al s2 σ H2 x vs v us Q I2 (r1.up kt2) r2 q2
theorem OQ(slot:Slot "list" name id)(Cr:typeOf (.builtin id)=pure (.type "method_descriptor"))(hm:DC X id r)(ho:PE X o to)(ha:PA X (e::es) t)
  (jS:attributeBase o name X.env (eval o X.env)=eval o X.env:=by rfl)
  (qv:((backTo d_ (starEach (e::es) X.env)).all (fun x=>!x.1)&&(backToKw d_ (keywordEach [] X.env)).all (fun x=>x.1.isSome)
   && decide ((e::es).length+([]:List Keyword).length+(if ([]:List Keyword).isEmpty then 0 else 1)<30))=true:=by rfl)
  (jR:(f9.endLine==d_.line)=true:=by rfl) (hs:starEach (e::es) X.env=(false,eval e X.env)::starEach es X.env:=by rfl) (m9:(backTo d_ (starEach es X.env)).any (·.1)=false:=by rfl) :
  PE X (.Call (.Attribute o name f9) (e::es) [] d_) (Tr r to t):=E2 (ty:=fun x H1=>∃l ys,x=.ref l/\H1 l=some (.lst ys)) (fun _ _ h=>y9 h) F.plainAttrs_list slot Cr hm ho ha jS qv jR hs m9
theorem OR(slot:Slot "str" name id)(Cr:typeOf (.builtin id)=pure (.type "method_descriptor"))(hm:DC X id r)(ho:PE X o to)(ha:PA X (e::es) t)
  (jS:attributeBase o name X.env (eval o X.env)=eval o X.env:=by rfl)
  (qv:((backTo d_ (starEach (e::es) X.env)).all (fun x=>!x.1)&&(backToKw d_ (keywordEach [] X.env)).all (fun x=>x.1.isSome)
   && decide ((e::es).length+([]:List Keyword).length+(if ([]:List Keyword).isEmpty then 0 else 1)<30))=true:=by rfl)
  (jR:(f9.endLine==d_.line)=true:=by rfl) (hs:starEach (e::es) X.env=(false,eval e X.env)::starEach es X.env:=by rfl) (m9:(backTo d_ (starEach es X.env)).any (·.1)=false:=by rfl) :
  PE X (.Call (.Attribute o name f9) (e::es) [] d_) (Ts r to t):=E2 (ty:=fun x H1=>∃l,x=.str (tx l)) (fun _ _ h=>CK h) F.plainAttrs_str slot Cr hm ho ha jS qv jR hs m9
theorem L'(slot:Slot "list" name id)(Cr:typeOf (.builtin id)=pure (.type "method_descriptor"))(hm:DC X id r)(ho:PE X o to)
  (jS:attributeBase o name X.env (eval o X.env)=eval o X.env:=by rfl) (jR:(f9.endLine==d_.line)=true:=by rfl):PE X (.Call (.Attribute o name f9) [] [] d_) (R1 r to):=by
 intro al s σ H Q I h
 refine wpAny_Call_method0_late jS jR (jq (ho al s σ H _ I h) fun v s1 kt1 ⟨x,H1,I1,r1,ty,q1⟩=>?_)
 obtain⟨h1,h2⟩:=Bc I1 r1 (y9 ty)
 exact⟨"list",id,F.plainAttrs_list,slot,Cr,h1,h2,jm rfl (PySem.evalArgs_none (hm al s1 σ H1 x [] v [] Q I1 r1 .nil q1))⟩
end
end L2
namespace L2
variable{nk:Nat}
open PySem PySem.Spec PyProof.Rows
end L2
namespace L2
variable{nk:Nat}
open PySem PySem.Spec PyProof.Rows
section
variable{X:Cx}{e:Expr}{es:List Expr}{te:TE}{t:TA}{pos:Pos}
def OS(t:TA):TE:=fun σ H Q=>t σ H fun xs H1=>xs.length<=sizeLine/\∀p H2,H1 p=none->H2=gf H1 p (.tup xs)->Q (.ref p) H2
def OT(t:TA):TE:=fun σ H Q=>t σ H fun xs H1=>xs.length<=sizeLine/\∀p H2,H1 p=none->H2=gf H1 p (.lst xs)->Q (.ref p) H2
theorem IN{x1}(h:PA X es t):PE X (.Tuple es x1 pos) (OS t):=by
 intro al s σ H Q I hq
 refine wpAny_Tuple_spliced (jq (h pos al s σ H _ I hq) fun us s1 kt1 ⟨xs,H1,I1,r,z,q⟩=>⟨by rw[<- r.length];exact z,?_⟩)
 have hf:H1 s1.heap.objs.size=none:=I1.hok.fresh (az _)
 refine⟨.ref s1.heap.objs.size,gf H1 s1.heap.objs.size (.tup xs),I1.laid (t':=s1.toks) (fun b u e=>aq _ e) (az _) ?_,rfl,q _ _ hf rfl⟩
 exact⟨z,us,r,⟨_,aB _ rfl,rfl,_,rfl⟩⟩
theorem IP(h:PA X es t):PE X (.List es pos) (OT t):=by
 intro al s σ H Q I hq
 refine wpAny_List_spliced (jq (h pos al s σ H _ I hq) fun us s1 kt1 ⟨xs,H1,I1,r,z,q⟩=>⟨by rw[<- r.length];exact z,?_⟩)
 have hf:H1 s1.heap.objs.size=none:=I1.hok.fresh (az _)
 refine⟨.ref s1.heap.objs.size,gf H1 s1.heap.objs.size (.lst xs),I1.laid (t':=s1.toks) (fun b u e=>aq _ e) (az _) ?_,rfl,q _ _ hf rfl⟩
 exact⟨z,us,0,r,aB _ rfl⟩
theorem DC.imp{id:String}{r r':V->List V->Hp->VK->Prop}(h:DC X id r)(i:∀x xs H Q,r' x xs H Q->r x xs H Q):DC X id r':=fun al s σ H x xs v us Q I rx rv q=>h al s σ H x xs v us Q I rx rv (i _ _ _ _ q)
theorem iU.imp{f:Value}{r r':List V->Hp->VK->Prop}(h:iU X f r)(i:∀xs H Q,r' xs H Q->r xs H Q):iU X f r':=fun al s σ H xs us Q I rv q=>h al s σ H xs us Q I rv (i _ _ _ q)
theorem n9.imp{f:Value->Value->Sem Value}{r r':R2}(h:n9 X f r)(i:∀x y H Q,r' x y H Q->r x y H Q):n9 X f r':=fun al s σ H x y v u Q I rx ry q=>h al s σ H x y v u Q I rx ry (i _ _ _ _ q)
def E3:V->List V->Hp->VK->Prop:=fun x vs H Q=>∃l xs y,x=.ref l/\vs=[y]/\H l=some (.lst xs)/\xs.length<sizeLine/\∀H2,H2=gf H l (.lst (xs++[y]))->Q .non H2
theorem Bj:DC X "list.append" E3:=DC.imp (r:=CG) DD fun _ _ _ _ ⟨l,xs,y,a,b,c,d,q⟩=>⟨l,xs,y,a,b,c,d,q _ rfl⟩
def OU:V->List V->Hp->VK->Prop:=fun x vs H Q=>∃l xs y,x=.ref l/\vs=[]/\H l=some (.lst (xs++[y]))/\∀H2,H2=gf H l (.lst xs)->Q y H2
theorem IQ:DC X "list.pop" OU:=DC.imp (r:=OM) L4 fun _ _ _ _ ⟨l,xs,y,a,b,c,q⟩=>⟨l,xs++[y],y,a,b,c,by simp,by rw[List.dropLast_concat];exact q _ rfl⟩
def Ma:V->V->V->Hp->(Hp->Prop)->Prop:=fun o i v H Q=>∃p xs k j,o=.ref p/\i=.int k/\H p=some (.lst xs)/\CC xs.length k=some j/\∀H2,H2=gf H p (.lst (xs.set j v))->Q H2
theorem DH:EH X Ma:=fun al s σ H o i v ov iv u Q I r1 r2 r3 q=>by
 obtain⟨p,xs,k,j,a,b,c,d,q⟩:=q
 exact EX al s σ H o i v ov iv u Q I r1 r2 r3 ⟨p,xs,k,j,a,b,c,d,q _ rfl⟩
def E4(K:Frag):List V->Hp->VK->Prop:=fun xs H Q=>∃p ys,xs=[.ref p]/\rW K H p ys/\∀l H2,H l=none->H2=gf H l (.tup ys)->Q (.ref l) H2
theorem y_:iU X (.type "tuple") (E4 X.K):=iU.imp vQ fun _ _ _ ⟨p,ys,a,b,q⟩=>⟨p,ys,a,.inl ⟨b,fun l hl=>q l _ hl rfl⟩⟩
def IR(K:Frag):List V->Hp->VK->Prop:=fun xs H Q=>∃p ys,xs=[.ref p]/\(rW K H p ys\/gg K H p ys)/\∀l H2,H l=none->H2=gf H l (.lst ys)->Q (.ref l) H2
theorem uJ:iU X (.type "list") (IR X.K):=iU.imp xB fun _ _ _ ⟨p,ys,a,b,q⟩=>⟨p,ys,a,b,fun l hl=>q l _ hl rfl⟩
def OV:R2:=fun x y H Q=>∃l b xs zs,x=.ref l/\y=.ref b/\H l=some (.lst xs)/\H b=some (.lst zs)/\xs.length+zs.length<=sizeLine/\∀p H2,H p=none->H2=gf H p (.lst (xs++zs))->Q (.ref p) H2
theorem IS:n9 X (binaryOp .Add) OV:=n9.imp L5 fun _ _ _ _ ⟨l,b,xs,zs,h1,h2,h3,h4,h5,q⟩=>⟨l,b,xs,zs,h1,h2,h3,h4,h5,fun p hp=>q p _ hp rfl⟩
end
end L2
namespace L2
variable{nk:Nat}
open PySem PySem.Spec PyProof.Rows
end L2
namespace L2
variable{nk:Nat}
open PySem PySem.Spec PyProof.Rows
def E5(T:String):Prop:=T="tuple"\/T="bool"\/T="int"\/T="str"
end L2
namespace L2
variable{nk:Nat}
end L2
namespace L2
variable{nk:Nat}
open PySem PySem.Spec PyProof.Rows
end L2
namespace L2
variable{nk:Nat}
open PySem PySem.Spec PyProof.Rows
structure QE(X:Cx)(e:Expr)(t:TE):Prop where
 h:PE X e t
structure QA(X:Cx)(es:List Expr)(t:TA):Prop where
 h:PA X es t
structure QS(X:Cx)(s:Stmt)(t:TS):Prop where
 h:PS X s t
structure QG(X:Cx)(e:Expr)(t:TG):Prop where
 h:PG X e t
structure QI(X:Cx)(tg it:Expr)(t:TI):Prop where
 h:PI X tg it t
structure R3(X:Cx)(es:List Expr)(t:TT):Prop where
 h:EZ X es t
structure SR(X:Cx)(f:Value->Value->Sem Value)(r:R2):Prop where
 h:n9 X f r
structure J2(X:Cx)(f:Value)(r:List V->Hp->VK->Prop):Prop where
 h:iU X f r
section
variable{X:Cx}{a b c e o:Expr}{es:List Expr}{ta tb tc te to:TE}{t u:TA}{pos p p2 f9 d_:Pos}{x name:Str}{j:Nat}{tA QL:TT}{gn:List Expr}
theorem E6:SR X (binaryOp .LShift) (rI LJ fun i j=>.int (i*2^j.toNat)):=⟨EO⟩
variable{st:Stmt}{sr:List Stmt}{ts us:TS}{g:TG}
variable{tg:Expr}
end
section
variable{X:Cx}{tg dQ c:Expr}{body:List Stmt}{wi:TI}{g:TG}{tb:TS}{pos:Pos}{tA:TT}
end
end L2
namespace L2
variable{nk:Nat}
open PySem PySem.Spec PyProof.Rows
end L2
namespace L2
variable{nk:Nat}
open PySem PySem.Spec PyProof.Rows
end L2
namespace L2
open PySem PySem.Spec PyProof.Rows
def jb(env:Env):List (Str×NameKind)->List (Str×Addr)->List (Str×Addr)
 |[],cs=>cs
 |(n,k)::r,cs=>jb env r (if k==.free then(n,(env.cells.lookup n).getD 0)::cs else cs)
theorem OW{scope:Scope}{env:Env}(h:∀x∈scope.names,x.2=.free->∃c,env.cells.lookup x.1=some c):closureFor scope env=pure (jb env scope.names []):=by
 unfold closureFor
 have key:∀(ns:List (Str×NameKind)) (cs:List (Str×Addr)),(∀x∈ns,x.2=.free->∃c,env.cells.lookup x.1=some c) ->
   (forIn ns cs fun(x:Str×NameKind) (r:List (Str×Addr))=>if (x.2==NameKind.free)=true then(do let a <- cellOf env x.1;pure (ForInStep.yield ((x.1,a)::r)))else(pure (ForInStep.yield r):Sem _))=pure (jb env ns cs):=by
  intro ns
  induction ns with
  |nil=>intro cs _;rfl
  |cons y r ih=>
   intro cs hc
   obtain⟨n,k⟩:=y
   rw[ki]
   have ihr:=fun cs=>ih cs fun x hx=>hc x (aR _ hx)
   by_cases hk:(k==NameKind.free)=true
   ·obtain⟨c,e⟩:=hc (n,k) bB (mI hk)
    have e2:cellOf env n=pure c:=by unfold cellOf;rw[e]
    show((if (k==NameKind.free)=true then _ else _) >>= _)=pure (jb env r (if (k==NameKind.free)=true then _ else _))
    rw[aJ hk,aJ hk,e2]
    simp only[pure_bind]
    have e3:(env.cells.lookup n).getD 0=c:=by rw[show env.cells.lookup n=some c from e];rfl
    rw[e3]
    exact ihr _
   ·show((if (k==NameKind.free)=true then _ else _) >>= _)=pure (jb env r (if (k==NameKind.free)=true then _ else _))
    rw[aV hk,aV hk]
    simp only[pure_bind]
    exact ihr _
 have:=key scope.names [] h
 dsimp only
 rw[this];simp only[pure_bind]
theorem wF{env:Env}:∀(ns:List (Str×NameKind)) (cs:List (Str×Addr)),(∀x∈ns,x.2=.free->∃c,env.cells.lookup x.1=some c)->(∀y∈cs,env.cells.lookup y.1=some y.2)->∀y∈jb env ns cs,env.cells.lookup y.1=some y.2
 |[],cs,_,h=>h
 |(n,k)::r,cs,hf,h=>by
  refine wF r _ (fun x hx=>hf x (aR _ hx)) ?_
  by_cases hk:(k==NameKind.free)=true
  ·rw[aJ hk]
   intro y hy
   rcases aS.mp hy with rfl|hy
   ·obtain⟨c,e⟩:=hf (n,k) bB (mI hk)
    show env.cells.lookup n=some ((env.cells.lookup n).getD 0)
    rw[show env.cells.lookup n=some c from e];rfl
   ·exact h y hy
  ·rw[aV hk];exact h
theorem uK{env:Env}:∀(ns:List (Str×NameKind)) (cs:List (Str×Addr)) (y:Str×Addr),y∈cs->y∈jb env ns cs
 |[],_,_,h=>h
 |(n,k)::r,cs,y,h=>by
  refine uK r _ y ?_
  split
  ·exact aR _ h
  ·exact h
theorem uL{env:Env}:∀(ns:List (Str×NameKind)) (cs:List (Str×Addr)) (x:Str),(x,NameKind.free)∈ns->∃c,(x,c)∈jb env ns cs
 |[],_,_,h=>by simp at h
 |(n,k)::r,cs,x,h=>by
  rcases aS.mp h with e|h
  ·obtain⟨e1,e2⟩:=Prod.mk.inj e
   subst e1;subst e2
   exact⟨_,uK r _ (x,_) (by rw[aJ (by rfl:(NameKind.free==NameKind.free)=true)];exact bB)⟩
  ·exact uL r _ x h
theorem uM{β:Type}:∀{l:List (Str×β)} {x:Str} {b:β},(x,b)∈l->∃c,l.lookup x=some c
 |(y,c)::r,x,b,h=>by
  rw[jI]
  cases hx:x==y with
  |true=>exact⟨c,rfl⟩
  |false=>
   rcases aS.mp h with e|h
   ·cases e;simp at hx
   ·exact uM h
theorem tw{env:Env}{g:Str×NameKind->Bool}:∀{names:List (Str×NameKind)} {x:Str},names.lookup x=some .free ->
  (names.map fun y=>if g y then(y.1,NameKind.cell)else y).lookup x=some .cell\/(names.map fun y=>if g y then(y.1,NameKind.cell)else y).lookup x=some .free
 |[],_,h=>by simp at h
 |(n,k)::r,x,h=>by
  rw[jI]at h
  rw[bn]
  have e1:∀y:Str×NameKind,(if g y then(y.1,NameKind.cell)else y).1=y.1:=fun y=>by split<;>rfl
  have e2:∀(y:Str×NameKind) (l:List (Str×NameKind)),(y::l).lookup x=if (x==y.1)=true then some y.2 else l.lookup x:=fun y l=>by
   obtain⟨a,b⟩:=y
   rw[jI]
   cases x==a<;>rfl
  rw[e2,e1]
  cases hx:x==n with
  |true=>
   rw[hx]at h
   cases h
   rw[aJ rfl]
   by_cases hg:g (n,.free)=true
   ·rw[aJ hg];exact .inl rfl
   ·rw[aV hg];exact .inr rfl
  |false=>
   rw[hx]at h
   rw[aV (by exact eD)]
   exact tw (env:=env) h
def DI(dn:List (Str×NameKind))(sn:List (Str×NameKind))(nm:List Str)(cap:List (Option Nat))(N:List Str):Bool:=
 (sn.all fun x=>!(x.2==.local)||sn.lookup x.1==some .local)&&(sn.all fun y=>!(y.2==.cell))&&(sn.all fun x=>!(x.2==.free)||dn.lookup x.1==some .cell)&&(cap.length==nm.length) &&
 ((List.range cap.length).all fun i=>match cap[i]? with
  |some (some j)=>(match nm[i]?,N[j]? with
   |some x,some y=>x==y&&dn.lookup x==some .cell&&sn.lookup x==some .free
   |_,_=>false)
  |_=>true)
structure R4(X:Cx)(scope:Scope)(nm:List Str)(cap:List (Option Nat)):Prop where
 clos:closureFor scope X.env=pure (jb X.env scope.names [])
 cl:∀x c,(jb X.env scope.names []).lookup x=some c->X.env.cells.lookup x=some c
 nms:∀x∈scope.names,x.2=.local->scope.names.lookup x.1=some .local
 cell:∀y∈scope.names,y.2≠.cell
 has:∀x,((relabel scope X.env).names.lookup x=some .cell\/(relabel scope X.env).names.lookup x=some .free)->∃c,(jb X.env scope.names []).lookup x=some c
 cp:∀(i j:Nat),cap[i]?=some (some j)->∃x,nm[i]?=some x/\X.N[j]?=some x/\uG X scope (jb X.env scope.names []) x
 len:cap.length=nm.length
theorem OX{X:Cx}{scope:Scope}{nm:List Str}{cap:List (Option Nat)}(hf:∀x,X.env.scope.names.lookup x=some .cell->∃c,X.env.cells.lookup x=some c)(hB:DI X.env.scope.names scope.names nm cap X.N=true):R4 X scope nm cap:=by
 simp only[DI,dr,List.all_eq_true,Bool.or_eq_true,gX,dv,bj]at hB
 obtain⟨⟨⟨⟨b1,b2⟩,b3⟩,b4⟩,b5⟩:=hB
 have has:∀x∈scope.names,x.2=.free->∃c,X.env.cells.lookup x.1=some c:=fun x hx hk=>by
  rcases b3 x hx with z|z
  ·exact absurd hk z
  ·exact hf _ z
 have AN:∀x c,(jb X.env scope.names []).lookup x=some c->X.env.cells.lookup x=some c:=fun x c h=>wF scope.names [] has (by simp) (x,c) (iV h)
 have hin:∀x,(x,NameKind.free)∈scope.names->∃c,(jb X.env scope.names []).lookup x=some c:=fun x h=>let ⟨_,q⟩:=uL (env:=X.env) scope.names [] x h;uM q
 have hmap:(relabel scope X.env).names=scope.names.map fun y=>if (y.2==.free&&X.env.scope.kind==.function&&X.env.kindOf y.1==some .cell)then(y.1,NameKind.cell)else y:=by
  show scope.names.map _=_
  refine eO fun y _=>?_
  obtain⟨a,b⟩:=y
  rfl
 have fr:∀x,((relabel scope X.env).names.lookup x=some .cell\/(relabel scope X.env).names.lookup x=some .free)->(x,NameKind.free)∈scope.names:=fun x h=>by
  have h':∃k,(x,k)∈(relabel scope X.env).names/\(k=.cell\/k=.free):=by
   rcases h with h|h
   ·exact⟨_,iV h,.inl rfl⟩
   ·exact⟨_,iV h,.inr rfl⟩
  obtain⟨k,hm,hk⟩:=h'
  rw[hmap]at hm
  obtain⟨y,hy,e⟩:=cS.mp hm
  obtain⟨a,b⟩:=y
  by_cases hb:b=.free
  ·subst hb
   have:a=x:=by split at e<;>(cases e;rfl)
   subst this;exact hy
  ·rw[aV (by simp[hb])]at e
   cases e
   rcases hk with rfl|rfl
   ·exact absurd rfl (b2 _ hy)
   ·exact absurd rfl hb
 refine⟨OW has,AN,fun x hx hk=>(b1 x hx).resolve_left fun z=>z hk,fun y hy=>b2 y hy,fun x hx=>hin x (fr x hx),fun i j e=>?_,b4⟩
 have hi':i<cap.length:=(ar.mp e).1
 have q:=b5 i (kU.mpr hi')
 rw[e]at q
 dsimp only at q
 cases hx:nm[i]? with
 |none=>rw[hx]at q;simp at q
 |some x=>
  cases hy:X.N[j]? with
  |none=>rw[hx,hy]at q;simp at q
  |some y=>
   rw[hx,hy]at q
   simp only[dr,dv]at q
   obtain⟨⟨rfl,q1⟩,q2⟩:=q
   refine⟨x,rfl,rfl,.inr (.inl q1),(by rw[q1];decide),?_,?_⟩
   ·obtain⟨c,hc⟩:=hin x (iV q2)
    rw[hc,AN _ _ hc]
   ·rw[hmap];exact tw (env:=X.env) q2
theorem Mb{X:Cx}{qr tg dQ:Expr}{mM:List Expr}{scope:Scope}{pos:Pos}{nm:List Str}{cap:List (Option Nat)}{wi:TI}{g:TG}{tc:TT}{te:TE}{m:Nat}(js:X.calm=true)
  (qw:X.env.cells=cellsFrom m X.env.scope.names []) (jt:scope.kind=.function) (hB:DI X.env.scope.names scope.names nm cap X.N=true)
  (hi:QI X tg dQ wi) (hg:∀cl C s0 H0 fp,QG (dI X nm scope cl C s0 H0 fp) tg g) (ht:∀cl C s0 H0 fp,R3 (dI X nm scope cl C s0 H0 fp) mM tc)
  (he:∀cl C s0 H0 fp,QE (dI X nm scope cl C s0 H0 fp) qr te) (hs:∀x,foldedSetIterable dQ X.env x=pure x:=by intro _;rfl) :
  QE X (.ListComp qr [⟨tg,dQ,mM,0⟩] scope pos) (uF cap wi g tc te):=by
 have F:=OX (nm:=nm) (cap:=cap) (fun x z=>by rw[qw];exact ml z) hB
 exact⟨IL js F.clos F.cl jt F.nms F.cell F.has F.cp F.len hi.h (fun C s0 H0 fp=>(hg _ C s0 H0 fp).h) (fun C s0 H0 fp=>(ht _ C s0 H0 fp).h) (fun C s0 H0 fp=>(he _ C s0 H0 fp).h) hs⟩
def IT(K:Frag):List V->Hp->VK->Prop:=fun xs H Q=>∃(p:Addr) (ys:List (List Nat)),xs=[.ref p]/\rW K H p (ys.map fun l=>V.str (tx l))/\ys.length<64 /\
 ∀zs:List (List Nat),zs.Perm ys->sortedS (zs.map tx)=true->∀l H2,H l=none->H2=gf H l (.lst (zs.map fun l=>V.str (tx l)))->Q (.ref l) H2
theorem CL(z:Str):tx z.cps.toList=z:=by cases z;rfl
theorem uN{vs:List Value}{xs:Array (Value×Value)}(hp:xs.Perm (pairsOf vs)):∀v∈(xs.map (·.2)).toList,v∈vs:=fun v hv=>by
 have hl:xs.toList.Perm (vs.zip vs):=by rw[<- pairsOf_toList];exact Array.perm_iff_toList_perm.mp hp
 rw[Array.toList_map]at hv
 obtain⟨p,hp',rfl⟩:=cS.mp hv
 have:=mem_zip_self (hl.mem_iff.mp hp')
 rw[<- this.1];exact this.2
theorem xE{prog:Program}{w:World}{A:Around}{E:Value->Shared->Prop}{s:Shared}{l:Addr}{vs:List Value}{ss:List Str}{Q:Value->Shared->Prop}(hl:s.heap.IsList l vs.toArray)(hS:StrsAre vs ss)(Ss:vs.length<64)
  (h:∀(out:Array Value) (H9:List Str),(∀v∈out.toList,v∈vs)->StrsAre out.toList H9->H9.Perm ss->sortedS H9=true->Q (.ref (s.heap.objs.size+1)) { s with heap:=sortedAll s.heap vs out }) :
  wpAny (model prog w) A (call (.builtin "sorted") [.ref l]) Q E s:=by
 refine sortedK pY hl hS.keysOf (fun v₁ v₂ gn e=>rN (by rw[<- e];exact hS)) Ss fun bh hp hs=>?_
 obtain⟨H9,h1,h2,h3⟩:=oS hS hp hs
 exact h _ H9 (uN hp) h1 h2 h3
theorem iB.sub{n:Nat}{vs us:List Value}(h:iB n vs)(hs:∀v∈us,v∈vs):iB n us:=fun x t hx=>h x t (hs _ hx)
theorem vR{X:Cx}:J2 X (.builtin "sorted") (IT X.K):=⟨by
 intro al s σ H xs us Q I r h
 obtain⟨p,ys,rfl,hS,Ss,q⟩:=h
 obtain⟨u,rfl,ru⟩:=n_ r
 cases ru
 obtain⟨bF,rv,pl,hz⟩:=I.list hS
 have hl:=rv.length
 rw[aE]at hl
 refine xE (ss:=ys.map tx) pl.isList (uI (by simpa using rv)) (by omega) fun out H9 hm h1 h2 h3=>?_
 obtain⟨ep,hat⟩:=sortedAll_at s.heap bF out
 have Cu:H (s.heap.objs.size+1)=none:=I.hok.fresh (bp _)
 have hmap:(H9.map fun z=>z.cps.toList).map tx=H9:=by
  rw[b7]
  have:(tx∘fun z:Str=>z.cps.toList)=id:=funext fun z=>CL z
  rw[this,i8]
 have hperm:(H9.map fun z=>z.cps.toList).Perm ys:=by
  have e:=h2.map fun z:Str=>z.cps.toList
  rw[b7]at e
  have:((fun z:Str=>z.cps.toList)∘tx)=id:=funext fun l=>by simp[tx]
  rw[this,i8]at e
  exact e
 have hvals:cG s.toks ((H9.map fun z=>z.cps.toList).map fun l=>V.str (tx l)) out.toList:=by
  have e:=mO h1 ((qD rv).sub hm)
  rw[<- hmap,b7]at e
  exact e
 refine⟨.ref (s.heap.objs.size+1),_,I.laid (t':=s.toks) (fun b o e=>sortedAll_old e) (bp _) ?_,rfl,q _ hperm (by rw[hmap];exact h3) _ _ Cu rfl⟩
 refine⟨?_,out.toList,ep,hvals,hat⟩
 rw[aE,hperm.length_eq]
 exact aM (fL Ss) (by decide)⟩
theorem bU.turned2{X:Cx}{al:List (Addr×Obj)}{σ:St}{H:Hp}{s:Shared}{h':Heap}{t':Nat}{e it:Addr}(I:bU X al σ H s)(k:∀b o,b≠e->b≠it->s.heap.get? b=some o->h'.get? b=some o)
  (he:∃o,h'.get? e=some o) (f1:rX X al H e) (f2:rX X al H it) (hk:s.toks<=t':=by first|exact az _|exact bp _|assumption|omega):bU X al σ H { s with heap:=h',toks:=t' }:=by
 have nit:∀b u,H b=some u->b≠e/\b≠it:=fun b u q=>⟨fun z=>(by rw[z,f1.1]at q;cases q),fun z=>(by rw[z,f2.1]at q;cases q)⟩
 have nin:∀b,b∉[e,it]->b≠e/\b≠it:=fun b h=>⟨fun z=>h (by simp[z]),fun z=>h (by simp[z])⟩
 refine I.step (g':=s.gens) (d':=s.drawn) (ch:=[e,it]) (fun b hb=>?_) (fun b o _ _ hc q _=>k b o (nin b hc).1 (nin b hc).2 q) (fun b o _ _ hc q _=>⟨o.slots,k b o (nin b hc).1 (nin b hc).2 q⟩) (fun _ _ _ _ n=>n)
  (fun b o hc q=>⟨o,k b o (nin b hc).1 (nin b hc).2 q⟩) (fun _ _ q=>q) (fun _ _ _ q=>q) (fun b ps q=>⟨#[],by rw[q];simp⟩) (fun m hm=>?_) (fun b u q=>?_) I.bare hk
 ·have z:b=e\/b=it:=by simpa using hb
  rcases z with rfl|rfl
  ·exact⟨f1.2.2.2.1,f1.2.1,f1.2.2.2.2.1,f1.2.2.2.2.2⟩
  ·exact⟨f2.2.2.2.1,f2.2.1,f2.2.2.2.2.1,f2.2.2.2.2.2⟩
 ·obtain⟨o,es,ep,ho,r⟩:=hm
  exact⟨o,es,ep,k _ o (Ne.symm f1.2.1) (Ne.symm f2.2.1) ho,r⟩
 ·refine((I.hok b u q).up hk).stay (fun c v hc z=>?_) (fun _ z=>z) fun _ _ z=>z
  rcases hc with y|y
  ·rw[y]at z ⊢;exact k b v (nit b u q).1 (nit b u q).2 z
  ·exact k c v (nit c _ y).1 (nit c _ y).2 z
section
variable{prog:Program}{w:World}{A:Around}{E:Value->Shared->Prop}{s:Shared}
theorem jL{it t:Addr}{i:Nat}{bF:Array Value}{x:Value}{Q:Value->Shared->Prop}(st:s.heap.IsTupleIter it t i)(ht:s.heap.IsTuple t bF)(hx:bF[i]?=some x)
  (q:∀g,g.IsTupleIter it t (i+1)->Heap.SameBut it s.heap g->Q x { s with heap:=g }):wpAny (model prog w) A (Builtin.SmallTypes.nextOf (.ref it)) Q E s:=by
 obtain⟨ob,e1,e2,e3⟩:=id st
 obtain⟨ot,g1,_,nt,g3⟩:=ht
 have T:=st.typeIs
 unfold Builtin.SmallTypes.nextOf
 refine aa (bI (name:=Str.ofString "__next__") T fA (b6 fA T kJ ?_ (kj _)))
 show wpAny _ _ (field (.ref it) 0 >>= _) _ _ s
 refine aa (c7 e1 e3 (x:=.ref t) rfl ?_)
 dsimp only
 rw[aV (show ¬ ((Value.ref t==Value.none)=true)from eD)]
 refine aa (c7 e1 e3 (x:=.int i 0) rfl ?_)
 dsimp only
 refine aa (dU g1 g3 ?_)
 simp only[cq,hx]
 refine aa (wpAny_setField e1 e3 (by simp) (ay ⟨x,rfl,ay (q _ ?_ (ip ..))⟩))
 exact⟨_,dy _ e1 (Obj.isFreed_of_fields (Obj.data_mapFields e3 _)),(Obj.cls_mapFields ..).trans e2,by rw[Obj.data_mapFields e3];simp[rawInt]⟩
theorem kD{it t:Addr}{i:Nat}{bF:Array Value}{Q:Value->Shared->Prop}(hh:A.handled=none)(st:s.heap.IsTupleIter it t i)(ht:s.heap.IsTuple t bF)(hx:bF[i]?=none)
  (q:∀g e,Heap.ExtBut it s.heap g->(∃o,g.get? e=some o/\o.cls=.type "StopIteration")->E (.ref e) { s with heap:=g }):wpAny (model prog w) A (Builtin.SmallTypes.nextOf (.ref it)) Q E s:=by
 obtain⟨ob,e1,e2,e3⟩:=id st
 obtain⟨ot,g1,_,nt,g3⟩:=ht
 have T:=st.typeIs
 unfold Builtin.SmallTypes.nextOf
 refine aa (bI (name:=Str.ofString "__next__") T fA (b6 fA T kJ ?_ (kj _)))
 show wpAny _ _ (field (.ref it) 0 >>= _) _ _ s
 refine aa (c7 e1 e3 (x:=.ref t) rfl ?_)
 dsimp only
 rw[aV (show ¬ ((Value.ref t==Value.none)=true)from eD)]
 refine aa (c7 e1 e3 (x:=.int i 0) rfl ?_)
 dsimp only
 refine aa (dU g1 g3 ?_)
 simp only[cq,hx]
 refine aa (jJ (aa (wpAny_setField e1 e3 (by simp) (aa ?_))))
 simp only[newExc,newTuple]
 refine aa (cr (aa (m:=firstArgMember _ _) (wpAny_of_eq (a:=Value.none) (by first|rfl|(simp only[firstArgMember];rfl)) (cr ?_ (by size_fits)))) (by size_fits))
 simp only[raiseNew]
 refine aa (wpAny_handled ?_)
 rw[show A.in1.handled=none from hh]
 exact aa (ay (wpAny_throw (q _ _ (((ip ..).extBut.push _).push _) ⟨_,aB _ rfl,rfl⟩)))
end
theorem E7{prog:Program}{w:World}{A:Around}(hh:A.handled=none)(it t:Addr)(Dj:t≠it)(bF:Array Value) :
  Draws prog w A it [it,t] bF.size (fun i v=>bF[i]?=some v) (fun i h=>h.IsTupleIter it t i/\h.IsTuple t bF) where
 live:=fun _ _ st=>let ⟨o,e,_⟩:=st.1;⟨o,e⟩
 frame:=fun _ h h' st k=>⟨st.1.at fun o e=>k it (by simp) o e,let ⟨o,e,r⟩:=st.2;⟨o,k t (by simp) o e,r⟩⟩
 item:=fun i s Q E hi st q=>jL st.1 st.2 (x:=bF[i]) (by simp[hi]) fun g a b=>q _ g s.toks (by simp[hi]) ⟨a,st.2.extBut b.extBut Dj⟩ b
 done:=fun s Q E st q=>kD hh st.1 st.2 (by simp) q
open AutoSeq1 (wpAny_loadPart')
def SU(K:Frag)(a:Addr):It:=
 ⟨fun i H=>∃xs x,gg K H a xs/\xs[i]?=some x,fun i H v H'=>∃p,H p=none/\v=.ref p/\∀xs x,gg K H a xs->xs[i]?=some x->H'=gf H p (.tup [.int i,x]),fun i H=>∃xs,gg K H a xs/\xs.length<=i⟩
theorem DJ{P:Program}{w:World}{K:Frag}{vM:List Expr}{kk:Nat}{pos:Pos}(a it e:Addr)(So:e≠it) :
  AX P w K (.Tuple vM kk pos) (SU K a) [e,it] e (fun i h=>(∃old,IsEnum h e it i old)/\h.IsTupleIter it a i) where
 mem:=by simp
 obj:=fun i h st b hb=>by
  have z:b=e\/b=it:=by simpa using hb
  rcases z with rfl|rfl
  ·obtain⟨old,q⟩:=st.1
   exact⟨_,q,fun v z=>by cases z⟩
  ·obtain⟨o,q,c,d⟩:=st.2
   exact⟨o,q,fun v z=>by rw[d]at z;cases z⟩
 keep:=fun i h h' st k=>⟨let ⟨old,q⟩:=st.1;⟨old,k e (by simp) _ q⟩,st.2.at fun o q=>k it (by simp) o q⟩
 item:=by
  intro X hP hw hK hc i al s σ H E I hf st hg
  subst hP hw hK
  obtain⟨xs,x,hq,hx⟩:=hg
  obtain⟨bF,rv,p,hz⟩:=I.tuple hq
  obtain⟨u,hu,ru⟩:=rv.get hx
  obtain⟨⟨old,he⟩,oQ⟩:=st
  have hT:s.heap.IsTuple a bF.toArray:=p
  obtain⟨oa,ha,hca,_⟩:=id hT
  obtain⟨oi,hi,hci,_⟩:=id oQ
  have nai:a≠it:=fun z=>by
   rw[z,hi]at ha;cases ha
   rw[hci]at hca;injection hca with z;exact absurd z (by decide)
  have nae:a≠e:=fun z=>by
   rw[z,he]at ha;cases ha
   injection hca with z;exact absurd z (by decide)
  have hlt:i<bF.toArray.size:=by
   have:=(ar.mp hu).1
   simpa using this
  refine up (wpAny_pyNext_enum_itemD (E7 (A:=X.A.in1) (I.ok.hd hc) it a nai bF.toArray) he ⟨oQ,hT⟩ hlt So (by simp[So,Ne.symm nae]) fun x' g tk hx' ho' bh htup yV hk Ru=>⟨_,rfl,?_⟩)
  have ex:x'=u:=by
   have e1:bF[i]?=some x':=by simpa using hx'
   rw[hu]at e1;exact(bx e1).symm
  subst ex
  refine wpAny_letOwnedTupleGo_enum ho' fun g2 SJ sY=>?_
  have Cu:H s.heap.objs.size=none:=I.hok.fresh (az _)
  have I1:bU X al σ (gf H s.heap.objs.size (.tup [.int i,x])) { s with heap:=s.heap.push { cls:=.type "tuple",data:=.seq #[.int i tk,x'] },toks:=tk+1 }:=I.laid (fun b o q=>aq _ q) (az _)
   ⟨by show 2<=sizeLine;decide,[.int i tk,x'],.cons ⟨tk,rfl⟩ (.cons (ru.up Ru) .nil),⟨_,aB _ rfl,rfl,_,rfl⟩⟩
  have nf:∀b∈[e,it],b≠s.heap.objs.size:=fun b hb=>by
   have z:b=e\/b=it:=by simpa using hb
   rcases z with rfl|rfl
   ·exact a7 (aI he)
   ·exact a7 (aI hi)
  have fp:∀b∈[e,it],rX X al (gf H s.heap.objs.size (.tup [.int i,x])) b:=fun b hb=>by
   obtain⟨f0,f⟩:=hf b hb
   exact⟨by rw[cZ (nf b hb)];exact f0,f⟩
  have he2':IsEnum g2 e it ((i:Int)+1) x':=SJ
  have I2:bU X al σ (gf H s.heap.objs.size (.tup [.int i,x])) { s with heap:=g2,toks:=tk+1 }:=I1.turned2 (t':=tk+1) (fun b o hbe hbi q=>?_) ⟨_,he2'⟩ (fp e (by simp)) (fp it (by simp))
  ·refine⟨.ref s.heap.objs.size,_,I2,rfl,⟨_,Cu,rfl,fun ys y hy hy'=>?_⟩,⟨⟨x',by simpa using he2'⟩,bh.1.extBut sY.extBut (Ne.symm So)⟩,fun b hb=>(fp b hb).1⟩
   have e1:=I.tuple_inj hy hq
   subst e1
   rw[hx]at hy';cases hy';rfl
  ·have q':(s.heap.push { cls:=.type "tuple",data:=.seq #[.int i tk,x'] }).get? b=some o:=q
   refine sY.extBut b o hbe ?_
   by_cases hb:b=s.heap.objs.size
   ·subst hb
    have e1:=aB s.heap (o:={ cls:=.type "tuple",data:=.seq #[.int i tk,x'] }) rfl
    rw[e1]at q';cases q'
    exact htup
   ·rw[Heap.get?_push_ne _ _ _ hb]at q'
    exact hk b o hbe hbi q'
 done:=by
  intro X hP hw hK hc i al s σ H E I hf st hg
  subst hP hw hK
  obtain⟨xs,hq,hx⟩:=hg
  obtain⟨bF,rv,p,hz⟩:=I.tuple hq
  obtain⟨⟨old,he⟩,oQ⟩:=st
  have hT:s.heap.IsTuple a bF.toArray:=p
  have hl:=rv.length
  have hT':Shared.TypeIs s (.ref e) "enumerate":=⟨_,he,rfl⟩
  unfold pyNext
  refine aa (gM (bI (name:=Str.ofString "__next__") hT' nU (b6 nU hT' F.entry_enumerate_next ?_ (F.args_enumerate_next_1 _))))
  show wpAny _ _ (field (.ref e) 2 >>= _) _ _ _
  refine aa (c7 he rfl (x:=.ref it) rfl (aa (kD (show X.A.in1.handled=none from I.ok.hd hc) oQ hT (by simp;omega) fun g y hx' hy=>?_)))
  obtain⟨o,ho,AN⟩:=hy
  refine aa (ga (T:="StopIteration") (b:=true) ⟨o,ho,AN⟩ k8 (ay ⟨rfl,?_⟩))
  obtain⟨f0,f1,f2,f3,f4,f5⟩:=hf it (by simp)
  exact I.turned (t':=s.toks) (fun b o hb q=>hx' b o hb q) f0 f1 f3 f4 f5
 self:=fun A i s Q E st h=>let ⟨_,q⟩:=st.1;wpAny_pyIter_enum q h
open AutoSeq1 (wpAny_loadPart')
abbrev lr(t:Addr):Obj:={ cls:=.type "tuple_iterator",data:=.fields #[.ref t,.int 0 0] }
abbrev Bk(it:Addr):Obj:={ cls:=.type "enumerate",data:=.fields #[.none,.bool false,.ref it,rawInt 0,.none,.none] }
theorem Md(t:Addr)(bF:Array Value)(n:Nat)(dc:Option Addr)(sl:Array (Option Value)) :
  Meets (Builtin.«enumerate.__new__» ⟨[.type "enumerate",.ref t],[]⟩) (fun _ R s=>s.heap.get? t=some { cls:=.type "tuple",dict:=dc,data:=.seq bF n,slots:=sl } /\
   R (.ok (.ret (.ref (s.heap.push (lr t)).objs.size))) { s with heap:=(s.heap.push (lr t)).push (Bk s.heap.objs.size) }):=
 .of_wp fun prog w A R s h=>by
  obtain⟨hp,g,d,tk,os⟩:=s
  obtain⟨ht,h⟩:=h
  have sb:=sub_enumerate
  have hT:Heap.IsTuple (Shared.heap ⟨hp,g,d,tk,os⟩) t bF:=⟨_,ht,rfl,n,rfl⟩
  wp_walk using c9 ht
  refine wpAny_stack_any fun st=>ay ?_
  split
  ·rename_i c _ _ _ _ _
   cases(c==Value.type "enumerate")<;>(wp_walk using c9 ht,fw hT;exact⟨_,rfl,h⟩)
  ·wp_walk using c9 ht,fw hT
   exact⟨_,rfl,h⟩
section
variable{prog:Program}{w:World}{A:Around}{E:Value->Shared->Prop}{s:Shared}
theorem vS{t:Addr}{bF:Array Value}{Q:Value->Shared->Prop}(hT:s.heap.IsTuple t bF)
  (q:∀g,IsEnum g (s.heap.objs.size+1) s.heap.objs.size 0 .none->g.IsTupleIter s.heap.objs.size t 0->(∀b o,s.heap.get? b=some o->g.get? b=some o)->Q (.ref (s.heap.objs.size+1)) { s with heap:=g }) :
  wpAny (model prog w) A (call (.type "enumerate") [.ref t]) Q E s:=by
 obtain⟨⟨c,dc,dt,sl⟩,ht,hc,n,hd⟩:=hT
 obtain rfl:c=.type "tuple":=hc
 obtain rfl:dt=.seq bF n:=hd
 refine callType_new F.called_enumerate (by decide) (F.typeCall_enumerate_1 _) (F.newCall_enumerate_1 _) (fun ob=>F.args_object_init_2 ob _) F.entry_enumerate_new (Md t bF n dc sl) ⟨ht,?_⟩
 have z:(s.heap.push (lr t)).objs.size=s.heap.objs.size+1:=bt ..
 show _/\_
 rw[z]
 have e1:IsEnum ((s.heap.push (lr t)).push (Bk s.heap.objs.size)) (s.heap.objs.size+1) s.heap.objs.size 0 .none:=by
  have y:=aB (s.heap.push (lr t)) (o:=Bk s.heap.objs.size) rfl
  rw[z]at y;exact y
 exact⟨⟨_,e1,rfl⟩,q _ e1 ⟨_,aq _ (aB _ rfl),rfl,rfl⟩ fun b o y=>aq _ (aq _ y)⟩
end
section
variable{X:Cx}
def R5(K:Frag)(ta:TA):TI:=fun σ H R=>ta σ H fun vs H1=>∃a,vs=[.ref a]/\(∃xs,gg K H1 a xs)/\R (SU K a) H1
theorem E8{a:Expr}{ta:TA}{p pos tp:Pos}{vM:List Expr}{kk:Nat}(hm:X.mg "enumerate"=none)(ha:QA X [a] ta)(hg:Gl X "enumerate":=by rfl)(hs:starEach [a] X.env=[(false,eval a X.env)]:=by rfl) :
  QI X (.Tuple vM kk tp) (.Call (.Name "enumerate" p) [a] [] pos) (R5 X.K ta):=⟨by
 intro al s σ H R I h
 refine Call_ (n6 I hg hm boot_enumerate (dF (jq (ha.h pos al s σ H _ I h) fun us s1 kt1 ⟨vs,H1,I1,r1,q1⟩=>?_) hs rfl))
 obtain⟨t,e,⟨xs,hq⟩,q⟩:=q1
 subst e
 obtain⟨u,rfl,ru⟩:=n_ r1
 cases ru
 obtain⟨bF,rv,pt,hz⟩:=I1.tuple hq
 refine vS (show s1.heap.IsTuple t bF.toArray from pt) fun g e1 e2 kp=>?_
 refine wpAny_pyIter_enum e1 ?_
 refine⟨s1.heap.objs.size+1,[s1.heap.objs.size+1,s1.heap.objs.size],_,_,H1,rfl,I1.kept (t':=s1.toks) kp,DJ t _ _ (Nat.succ_ne_self _),⟨⟨_,e1⟩,e2⟩,fun b hb=>?_,q⟩
 have z:b=s1.heap.objs.size+1\/b=s1.heap.objs.size:=by simpa using hb
 rcases z with rfl|rfl
 ·exact I1.fpOk (bp _) (I1.hok.fresh (bp _))
 ·exact I1.fpOk (az _) (I1.hok.fresh (az _))⟩
end
section
variable{cap:List (Option Nat)}{g:TG}{tc:TT}{te:TE}{σ:St}{H1:Hp}{Q:VK}{n:Nat}
end
theorem wG:∀(p:Nat) (m:List Nat),risingS (tx [p]) (m.map fun c=>tx [c])=true->(∀c∈m,p<=c)/\m.Pairwise (· <= ·)
 |p,[],_=>⟨fun c h=>by simp at h,.nil⟩
 |p,c::r,h=>by
  have h':(!ltCps (tx [c]).cps.toList (tx [p]).cps.toList&&risingS (tx [c]) (r.map fun c=>tx [c]))=true:=h
  rw[dr]at h'
  obtain⟨a,b⟩:=h'
  obtain⟨b1,b2⟩:=wG c r b
  have hpc:p<=c:=by
   rw[ltCps_eq]at a
   have a':(!decide ([c]<[p]))=true:=a
   have:=of_decide_eq_false (gX _▸a')
   rcases Nat.lt_or_ge c p with z|z
   ·exact absurd (List.Lex.rel z) this
   ·exact z
  refine⟨fun x hx=>?_,bQ.mpr ⟨b1,b2⟩⟩
  rcases aS.mp hx with rfl|hx
  ·exact hpc
  ·exact aM hpc (b1 x hx)
theorem za:∀(m:List Nat),sortedS ((m.map fun c=>[c]).map tx)=true->m.Pairwise (· <= ·)
 |[],_=>.nil
 |c::r,h=>by
  have h':risingS (tx [c]) ((r.map fun c=>[c]).map tx)=true:=h
  rw[b7]at h'
  obtain⟨a,b⟩:=wG c r h'
  exact bQ.mpr ⟨a,b⟩
theorem eF:Slot "set_iterator" "__next__" "set_iterator.__next__":=.of (owner:="set_iterator") (n:="__next__") (by rw[typeLookup_type,nV];kernel_rfl) (by decide +kernel) (by decide +kernel) (by decide +kernel) (by first|exact .inl (by decide +kernel)|exact .inr (by decide +kernel)) (by rw[dX];kernel_rfl)
theorem lv:entryFor table "set_iterator.__next__"=some Builtin.«set_iterator.__next__»:=entryFor_of_tree (by kernel_rfl)
theorem ly(a:Value):argsOk "set_iterator.__next__" ⟨[a],[]⟩:=by unfold argsOk;kernel_rfl
theorem zb:entryFor table "set.__iter__"=some Builtin.«frozenset.__iter__»:=entryFor_alias (id':="frozenset.__iter__") (by kernel_rfl) (by first|rfl|decide +kernel|(unfold String.splitOn;simp +decide [String.splitOnAux])) (by decide +kernel) (by kernel_rfl)
def tV(w:World):Bool:=w.params.followText "set-order"
def CM(w:World)(n:Nat)(t:SetTable):Prop:=(tV w=true\/t.led=true)/\(n=0\/t.plain=false)
theorem DL(t:SetTable)(es:Array (Int×Value))(h:Int)(x:Value):(layNew t es h x).2.1.led=t.led/\(t.plain=false->(layNew t es h x).2.1.plain=false):=by
 unfold layNew
 split
 ·dsimp only
  unfold SetTable.orStandIn
  split
  ·exact⟨rfl,fun z=>z⟩
  ·exact⟨rfl,fun _=>rfl⟩
 ·exact⟨rfl,fun _=>rfl⟩
theorem xF{t t':SetTable}{hs:Array Int}{n:Nat}{o:Array Nat}(h:t.relaid hs n=some (t',o)):t'.led=t.led/\t'.plain=t.plain:=by
 unfold SetTable.relaid SetTable.laid at h
 cases hc:SetTable.layClean (SetTable.sizeAbove n-1) hs with
 |none=>rw[hc]at h;cases h
 |some ow=>
  rw[hc]at h
  have h':=bx h
  obtain⟨a,_⟩:=Prod.mk.inj h'
  subst a
  exact⟨rfl,rfl⟩
theorem zc(t:SetTable)(es:Array (Int×Value))(n:Nat):(relayAll t es n).2.1.led=t.led/\(t.plain=false->(relayAll t es n).2.1.plain=false):=by
 unfold relayAll
 split
 ·rename_i t' o he
  obtain⟨a,b⟩:=xF he
  dsimp only
  split
  ·exact⟨a,fun z=>b.trans z⟩
  ·exact⟨rfl,fun _=>rfl⟩
 ·exact⟨rfl,fun _=>rfl⟩
section
variable{prog:Program}{w:World}
def uO(prog:Program)(w:World)(n:Nat)(h:Heap)(a:Addr)(ks:List Str):Prop:=
 ∃o es ep t,h.get? a=some o/\o.ExactSet/\o.data=.set es ep t/\ElemsOf (PySem.strKind prog w) es.toList/\(es.toList.map fun e=>strOf e.2).Perm ks/\es.size<scanBound/\t.fits es.size=true/\CM w es.size t/\iB n (es.toList.map (·.2))
theorem zd{l:List (Int×Value)}(h:ElemsOf (PySem.strKind prog w) l):∀e∈l,∃t,e.2=.str (strOf e.2) t:=fun e he=>by
 obtain⟨⟨k,hk,_⟩,_⟩:=h e he
 obtain⟨t,ht⟩:=kB hk
 exact⟨t,by rw[ht];rfl⟩
theorem wH{k:Str}{e:Int×Value}{l:List (Int×Value)}(h:ElemsOf (PySem.strKind prog w) l)(he:e∈l):(PySem.strKind prog w).is k e.2=true↔k=strOf e.2:=by
 obtain⟨t,ht⟩:=zd h e he
 constructor
 ·intro z
  obtain⟨u,hu⟩:=kB z
  rw[hu];rfl
 ·intro z
  show Value.isStrOf k e.2=true
  rw[ht,z]
  show Value.isStrOf (strOf e.2) (.str (strOf e.2) t)=true
  unfold Value.isStrOf;simp
theorem uO.keep{n:Nat}{h h':Heap}{a:Addr}{ks:List Str}(z:uO prog w n h a ks)(k:∀o,h.get? a=some o->h'.get? a=some o):uO prog w n h' a ks:=let ⟨o,es,ep,t,ho,r⟩:=z;⟨o,es,ep,t,k o ho,r⟩
theorem iB.up{n n':Nat}{l:List Value}(h:iB n l)(hn:n<=n'):iB n' l:=fun x t hx h1=>⟨(h x t hx h1).1,aQ (h x t hx h1).2 hn⟩
theorem uO.up{n n':Nat}{h:Heap}{a:Addr}{ks:List Str}(z:uO prog w n h a ks)(hn:n<=n'):uO prog w n' h a ks:=let ⟨o,es,ep,t,ho,h1,h2,h3,h4,h5,h6,h7,h8⟩:=z;⟨o,es,ep,t,ho,h1,h2,h3,h4,h5,h6,h7,h8.up hn⟩
variable{A:Around}{E:Value->Shared->Prop}{s:Shared}
theorem IU{a:Addr}{ks:List Str}{x:Str}{tk:Tok}{Q:Bool->Shared->Prop}{n:Nat}(z:uO prog w n s.heap a ks)(Rw:x.length=1->0<tk/\tk<n)(Tg:ks.length+1<scanBound)
  (q:∀b g,Heap.SameBut a s.heap g->uO prog w n g a (if x∈ks then ks else ks++[x])->Q b { s with heap:=g }):wpAny (model prog w) A (setAddHashed a (.str x tk) ((PySem.strKind prog w).hash x)) Q E s:=by
 obtain⟨o,es,ep,t,ho,yW,hd,hel,hp,hb,hf,H_,hta⟩:=z
 have fT:es.size=ks.length:=by have:=hp.length_eq;simpa using this
 have hkey:(PySem.strKind prog w).is x (.str x tk)=true:=by show Value.isStrOf x (.str x tk)=true;unfold Value.isStrOf;simp
 have hsc:(Value.str x tk).scannable=true:=rfl
 unfold setAddHashed setAddHashedIn
 refine c8 (aa (fM ho hd hf ?_))
 dsimp only
 rw[byScan_of hsc hb hel,aJ rfl]
 unfold setAddByScan
 refine aa (aa (jJ (aa (wpAny_setScan_of hkey ho hd hf hel ?_))))
 cases hr:List.findIdx? (fun e=>(PySem.strKind prog w).is x e.2) es.toList with
 |some j=>
  obtain⟨hj,hpj,_⟩:=List.findIdx?_eq_some_iff_getElem.mp hr
  have hin:x∈ks:=hp.mem_iff.mp (cS.mpr ⟨es.toList[j],dD hj,((wH hel (dD hj)).mp hpj).symm⟩)
  refine ay (ay ?_)
  have e1:=q false s.heap (Heap.SameBut.refl a s.heap) (by rw[aJ hin];exact⟨o,es,ep,t,ho,yW,hd,hel,hp,hb,hf,H_,hta⟩)
  exact e1
 |none=>
  have hin:¬ x∈ks:=fun hx=>by
   obtain⟨e,he,hxe⟩:=cS.mp (hp.mem_iff.mpr hx)
   have y:=List.findIdx?_eq_none_iff.mp hr e he
   rw[(wH hel he).mpr hxe.symm]at y
   cases y
  have q':=fun b g h1 h2=>q b g h1 (by rw[aV hin];exact h2)
  dsimp only
  have lp:=layNew_perm t es ((PySem.strKind prog w).hash x) (.str x tk)
  have lf:=layNew_fits t es ((PySem.strKind prog w).hash x) (.str x tk)
  have lm:=DL t es ((PySem.strKind prog w).hash x) (.str x tk)
  generalize layNew t es ((PySem.strKind prog w).hash x) (.str x tk)=L at lp lf lm ⊢
  obtain⟨es1,t1,wd,gv⟩:=L
  dsimp only at lp lf lm ⊢
  rw[lS]at lp
  have el1:ElemsOf (PySem.strKind prog w) es1.toList:=(hel.push hkey hsc).perm lp
  have sz1:es1.size=es.size+1:=by have:=lp.length_eq;simpa using this
  have b1:es1.size<scanBound:=by omega
  have p1:(es1.toList.map fun e=>strOf e.2).Perm (ks++[x]):=by
   have y:=lp.map fun e:Int×Value=>strOf e.2
   rw[a8]at y
   exact y.trans (hp.append_right _)
  have ta1:iB n (es1.toList.map (·.2)):=fun y u hy=>by
   obtain⟨e,he,ee⟩:=cS.mp hy
   rcases aU.mp (lp.mem_iff.mp he)with z|z
   ·exact hta y u (cS.mpr ⟨e,z,ee⟩)
   ·rw[aY]at z
    subst z
    cases ee
    exact Rw
  have gw:∀(b:Bool) {s₁:Shared} {Q':Unit->Shared->Prop},Q' () s₁->wpAny (model prog w) A (match b with|true=>rule "set.scan.the-table-gave-way" | false=>pure ()) Q' E s₁:=fun b _ _ y=>by cases b<;>first|exact ay y|exact jJ y
  refine aa (gw _ ?_)
  have kA:∀t2:SetTable,t2.fits es1.size=true->t2.led=t.led->t2.plain=false->wpAny (model prog w) A (do
    storeSet a es1 t2
    if (!wd&&t2.tooFull)=true then do
      (match (relayAll t2 es1 (SetTable.grown es1.size)).2.2 with|true=>rule "set.scan.the-table-gave-way" | false=>pure ())
      storeSet a (relayAll t2 es1 (SetTable.grown es1.size)).1 (relayAll t2 es1 (SetTable.grown es1.size)).2.1
      pure (some true)
     else pure (some true)) (fun r s'=>wpAny (model prog w) A (match r with|some added=>pure added|none=>setAddHashedIn a (.str x tk) ((PySem.strKind prog w).hash x) 99999) Q E s') E s:=by
   intro t2 f2 l2 n2
   have to2:CM w es1.size t2:=⟨by rw[l2];exact H_.1,.inr n2⟩
   refine aa (wpAny_storeSet_of ho hd ?_ (fits_of_scanBound b1))
   have g1:(s.heap.update a (Obj.putSet es1 t2)).get? a=some { o with data:=.set es1 (ep+1) t2 }:=by
    have y:=dy (Obj.putSet es1 t2) ho (by rw[tf es1 t2 hd];rfl)
    rw[tf es1 t2 hd]at y;exact y
   have sb:=ip s.heap a (Obj.putSet es1 t2)
   split
   ·have rp:=relayAll_perm t2 es1 (SetTable.grown es1.size)
    have rf:=relayAll_fits t2 es1 (SetTable.grown es1.size)
    have rm:=zc t2 es1 (SetTable.grown es1.size)
    generalize relayAll t2 es1 (SetTable.grown es1.size)=R at rp rf rm ⊢
    obtain⟨es2,t3,gv2⟩:=R
    dsimp only at rp rf rm ⊢
    have sz2:es2.size=es1.size:=by have:=rp.length_eq;simpa using this
    refine aa (gw _ (aa (wpAny_storeSet_of g1 rfl (ay (ay ?_)) (fits_of_scanBound (by omega)))))
    have g2:((s.heap.update a (Obj.putSet es1 t2)).update a (Obj.putSet es2 t3)).get? a=some { o with data:=.set es2 (ep+1+1) t3 }:=by
     have y:=dy (Obj.putSet es2 t3) g1 (by rw[tf es2 t3 rfl];rfl)
     rw[tf es2 t3 rfl]at y;exact y
    refine q' true _ (sb.trans (ip _ a _)) ⟨_,es2,_,t3,g2,yW,rfl,el1.perm rp,?_,by omega,rf,?_⟩
    ·exact(rp.map fun e:Int×Value=>strOf e.2).trans p1
    ·exact⟨⟨by rw[rm.1,l2];exact H_.1,.inr (rm.2 n2)⟩,fun y u hy=>ta1 y u ((rp.map _).mem_iff.mp hy)⟩
   ·exact ay (ay (q' true _ sb ⟨_,es1,_,t2,g1,yW,rfl,el1,p1,b1,f2,to2,ta1⟩))
  by_cases pE:t1.plain=true
  ·rw[aJ pE,hashByValue_scannable 8 hsc]
   refine aa (ay ?_)
   exact kA { t1 with plain:=false } (SetTable.fits_plain_off lf) lm.1 rfl
  ·rw[aV pE]
   refine aa (ay ?_)
   exact kA t1 lf lm.1 (by simpa using pE)
end
section
variable{prog:Program}{w:World}{A:Around}{R:Result->Shared->Prop}{I:Addr}{fp wr:List Addr}{n:Nat}{P:Nat->Value->Prop}{St:Nat->Heap->Prop}
def J3(prog:Program)(w:World)(m:Nat)(val:Nat->Str)(h:Heap)(a:Addr)(i:Nat):Prop:=∃ks,uO prog w m h a ks/\ks.Nodup/\(∀x,x∈ks↔∃j,j<i/\val j=x)/\ks.length<=i
theorem E9(W:Walks prog w A.in1 I fp wr n P St)(S:Addr)(Td:S∉fp)(val:Nat->Str)(AQ:∀i v,P i v->∃t,v=.str (val i) t)(hb:n+1<scanBound){n0:Nat}
  (AJ:∀i (s:Shared) (Q:Option Value->Shared->Prop) (E:Value->Shared->Prop),n0<=s.toks->i<n->St i s.heap ->
   (∀v h' tk,s.toks<=tk->iB tk [v]->P i v->St (i+1) h'->(∀b o,b∉wr->s.heap.get? b=some o->h'.get? b=some o)->Q (some v) { s with heap:=h',toks:=tk })->wpAny (model prog w) A.in1 (pyNext (.ref I)) Q E s) :
  ∀(k i:Nat) (s:Shared),n-i=k->i<=n->n0<=s.toks->St i s.heap->J3 prog w s.toks val s.heap S i ->
   (∀g tk,s.toks<=tk->J3 prog w tk val g S n->(∀b o,b≠S->b∉wr->s.heap.get? b=some o->g.get? b=some o)->R (.ok (.ret .none)) { s with heap:=g,toks:=tk }) ->
   codeAny (model prog w) A (.builtin "set.update.loop" ⟨[.ref S,.ref I],[]⟩) R s:=by
 have hSw:S∉wr:=fun h=>Td (W.sub _ h)
 intro k
 induction k with
 |zero=>
  intro i s hk hi hn0 st hM hR
  obtain rfl:i=n:=by omega
  refine dB iq ?_
  rw[cO eP _]
  show wpAny _ A.in1 (pyNext (.ref I) >>= _) _ _ s
  refine aa (up (W.done s _ _ st fun g tk kp kM=>ay (hR g tk kM ?_ fun b o _ hb e=>kp b o hb e)))
  obtain⟨ks,z,r⟩:=hM
  exact⟨ks,(z.keep fun o e=>kp S o hSw e).up kM,r⟩
 |succ k ih=>
  intro i s hk hi hn0 st hM hR
  have hlt:i<n:=by omega
  refine dB iq ?_
  rw[cO eP _]
  show wpAny _ A.in1 (pyNext (.ref I) >>= _) _ _ s
  refine aa (AJ i s _ _ hn0 hlt st fun v g tk kM hta hP bh kp=>?_)
  obtain⟨t,rfl⟩:=AQ i v hP
  obtain⟨ks,z,nd,mem,len⟩:=hM
  have z':uO prog w (tk+1) g S ks:=(z.keep fun o e=>kp S o hSw e).up (gT kM)
  refine aa (c8 ?_)
  unfold setAdd
  refine c8 (aa ((PySem.strKind prog w).pyHash (k:=val i) (show Value.isStrOf (val i) (.str (val i) t)=true by unfold Value.isStrOf;simp) ?_))
  refine IU (s:={ s with heap:=g,toks:=tk+1 }) z' (fun h1=>⟨(hta _ t (by simp) h1).1,cJ (hta _ t (by simp) h1).2⟩) (by omega) fun _ g2 sb z2=>?_
  refine ay ⟨eX eP _,ih (i+1) _ (by omega) hlt (aM hn0 (gT kM)) (W.frame _ _ _ bh fun b hb o e=>?_) ?_ fun g3 tk3 hle3 hM3 kp3=>?_⟩
  ·rw[sb.2 b (fun h:b=S=>Td (by rw[<- h];exact hb))];exact e
  ·refine⟨_,z2,?_,fun x=>?_,?_⟩
   ·by_cases hx:val i∈ks
    ·rw[aJ hx];exact nd
    ·rw[aV hx];exact lT.mpr ⟨nd,by simp,fun a ha b hb=>by rw[aY]at hb;subst hb;exact fun e=>hx (e▸ha)⟩
   ·by_cases hx:val i∈ks
    ·rw[aJ hx,mem x]
     constructor
     ·rintro⟨j,hj,e⟩;exact⟨j,by omega,e⟩
     ·rintro⟨j,hj,e⟩
      by_cases hji:j=i
      ·subst hji;subst e;exact(mem _).mp hx
      ·exact⟨j,by omega,e⟩
    ·rw[aV hx,aU,mem x,aY]
     constructor
     ·rintro(⟨j,hj,e⟩|e)
      ·exact⟨j,by omega,e⟩
      ·exact⟨i,by omega,e.symm⟩
     ·rintro⟨j,hj,e⟩
      by_cases hji:j=i
      ·subst hji;exact .inr e.symm
      ·exact .inl ⟨j,by omega,e⟩
   ·by_cases hx:val i∈ks
    ·rw[aJ hx];omega
    ·rw[aV hx,ah,b8];omega
  ·exact hR g3 tk3 (aM (gT kM) hle3) hM3 fun b o hb hw e=>kp3 b o hb hw ((sb.2 b hb).trans (kp b o hw e))
end
section
variable{prog:Program}{w:World}{A:Around}{E:Value->Shared->Prop}{s:Shared}
abbrev dJ(w:World):Obj:={ cls:=.type "set",dict:=none,data:=.set #[] 0 (.fresh 0 0 (!tV w)) }
theorem ze(a:Value){Q₁:Value->Shared->Prop}(h:Q₁ (.ref s.heap.objs.size) { s with heap:=s.heap.push (dJ w) }) :
  codeAny (model prog w) A (.call (.builtin "set.__new__") ⟨[.type "set",a],[]⟩) (wants Q₁ E) s:=by
 refine codeAny_of_tree ?_
 show wpAny _ A.in1 (do checkBuiltinCall "set.__new__" ⟨[.type "set",a],[]⟩;again (.builtin "set.__new__" ⟨[.type "set",a],[]⟩)) _ _ s
 refine aa (wpAny_of_eq (PySem.F.newCall_set_1 a) (ay ⟨eX PySem.F.plain_set_new _,dB PySem.F.entry_set_new ?_⟩))
 rw[cO PySem.F.plain_set_new _]
 unfold Builtin.«set.__new__» Builtin.Frozenset.newClass
 have sb:=sub_set_self
 obtain⟨hp,g,d,tk,os⟩:=s
 dsimp only
 wp_walk
 refine mJ (ay ?_)
 dsimp only
 simp only[newObj]
 exact aa (wpAny_alloc (ay (ay h)))
set_option maxHeartbeats 8000000 in
theorem lW{v:Value}{T:String}{Ro:Obj}{fp:Addr->List Addr}{n:Nat}{P:Nat->Value->Prop}{St:Addr->Nat->Heap->Prop}{val:Nat->Str}{Q:Value->Shared->Prop}(hT:Shared.TypeIs { s with heap:=s.heap.push (dJ w) } v T)
  (n1:isSubtype (.type T) (.type "set")=pure false) (n2:isSubtype (.type T) (.type "frozenset")=pure false) (n3:(Value.type T==Value.type "dict")=false)
  (oQ:∀(A:Around) (E:Value->Shared->Prop) (Q:Value->Shared->Prop),Q (.ref (s.heap.objs.size+1)) { s with heap:=(s.heap.push (dJ w)).push Ro }->wpAny (model prog w) A (pyIter v) Q E { s with heap:=s.heap.push (dJ w) })
  (W:∀(A:Around) (it:Addr),A.handled=none->it=s.heap.objs.size+1->Walks prog w A it (fp it) [it] n P (St it)) (QT:s.heap.objs.size∉fp (s.heap.objs.size+1)) (st:St (s.heap.objs.size+1) 0 ((s.heap.push (dJ w)).push Ro)) (AQ:∀i v,P i v->∃t,v=.str (val i) t)
  (hh:A.handled=none) (hb:n+1<scanBound)
  (AJ:∀(A:Around),A.handled=none->∀i (s':Shared) (Q:Option Value->Shared->Prop) (E:Value->Shared->Prop),s.toks<=s'.toks->i<n->St (s.heap.objs.size+1) i s'.heap ->
   (∀v h' tk,s'.toks<=tk->iB tk [v]->P i v->St (s.heap.objs.size+1) (i+1) h'->(∀b o,b∉[s.heap.objs.size+1]->s'.heap.get? b=some o->h'.get? b=some o)->Q (some v) { s' with heap:=h',toks:=tk })->wpAny (model prog w) A (pyNext (.ref (s.heap.objs.size+1))) Q E s')
  (q:∀g tk,s.toks<=tk->J3 prog w tk val g s.heap.objs.size n->(∀b o,s.heap.get? b=some o->g.get? b=some o)->Q (.ref s.heap.objs.size) { s with heap:=g,toks:=tk }) :
  wpAny (model prog w) A (call (.type "set") [v]) Q E s:=by
 obtain⟨c,tl,hmro⟩:=PySem.F.called_set.mro
 have hmade:=PySem.F.called_set.made
 have hsub:=PySem.F.called_set.sub
 refine qx (codeAny_of_tree ?_)
 show wpAny _ _ (callAny (.type "set") _) _ _ _
 refine ay ⟨Code.quiet_builtin _ (by decide +kernel),dB PySem.F.entry_type_call ?_⟩
 rw[Around.under_plain (weight_type_call_type "set" [v] []) rfl]
 have h1:=PySem.F.called_set.notType
 have h2:=PySem.F.called_set.canCreate
 have hct:=PySem.F.typeCall_set_1 v
 repeat(any_goals (first|assumption|wp_step))
 refine ig (ze v (E:=E) (Q₁:=fun obj s₁=>obj=.ref s.heap.objs.size/\s₁={ s with heap:=s.heap.push (dJ w) }) ⟨rfl,rfl⟩) fun r s₁ hr=>?_
 cases r with
 |error e=>exact hr
 |ok fl=>
  cases fl with
  |ret obj=>
   obtain⟨rfl,rfl⟩:=hr
   have gS:(s.heap.push (dJ w)).get? s.heap.objs.size=some (dJ w):=aB _ rfl
   have tS:Shared.TypeIs { s with heap:=s.heap.push (dJ w) } (.ref s.heap.objs.size) "set":=⟨_,gS,rfl⟩
   have hli:=PySem.F.called_set.init.lookup
   have hbi:=PySem.F.called_set.init.bind (.ref s.heap.objs.size)
   repeat(any_goals (first|assumption|wp_step))
   refine ig (codeAny_call_builtin (R:=wants (fun r s₂=>r=.none/\∃g tk,s₂={ s with heap:=g,toks:=tk }/\s.toks<=tk/\J3 prog w tk val g s.heap.objs.size n/\(∀b o,s.heap.get? b=some o->g.get? b=some o)) E) PySem.F.called_set.init.plain PySem.F.entry_set_init (check_set_init_1 tS ?_)) fun r₂ s₂ hr₂=>?_
   ·unfold Builtin.«set.__init__» noKeywords Builtin.Frozenset.updateFrom
    generalize hPI:pyIter=PI
    wp_walk
    subst hPI
    refine oQ _ _ _ (aa (oT ?_))
    have g0:((s.heap.push (dJ w)).push Ro).get? s.heap.objs.size=some (dJ w):=aq _ gS
    have m0:J3 prog w s.toks val ((s.heap.push (dJ w)).push Ro) s.heap.objs.size 0:=⟨[],⟨_,#[],0,_,g0,⟨rfl,rfl,rfl⟩,rfl,fun e he=>by simp at he,by simp,by unfold scanBound;decide,rfl,?_⟩,List.nodup_nil,fun x=>by simp,az _⟩
    ·refine E9 (W _ _ (by simpa using hh) rfl) s.heap.objs.size QT val AQ hb (n0:=s.toks) (AJ _ (by simpa using hh)) (n-0) 0 _ rfl (ce _) (az _) st m0 fun g tk kM hM kp=>?_
     refine ay (ay ⟨rfl,g,tk,rfl,kM,hM,fun b o e=>kp b o (a7 (aI e)) (fun hbm=>?_) (aq _ (aq _ e))⟩)
     rw[aY]at hbm
     exact absurd (aI e) (by rw[hbm];exact iT.mpr (bp _))
    ·refine⟨⟨?_,.inl rfl⟩,fun x t hx=>by simp at hx⟩
     show tV w=true\/(!tV w)=true
     cases tV w<;>simp
   ·cases r₂ with
    |error e=>exact hr₂
    |ok fl₂=>
     cases fl₂ with
     |ret r=>
      obtain⟨rfl,g,tk,rfl,kM,hM,kp⟩:=hr₂
      repeat(any_goals (first|assumption|wp_step))
      exact q g tk kM hM kp
     |_=>exact hr₂.elim
  |_=>exact hr.elim
end
theorem p7{α:Type}:∀{l:List α} {i:Nat} (h:i<l.length),(l[i]::l.eraseIdx i).Perm l
 |x::r,0,_=>hU _
 |x::r,i+1,h=>(List.Perm.swap x (r[i]'(by simpa using h)) (r.eraseIdx i)).trans ((p7 (l:=r) (i:=i) (by simpa using h)).cons x)
section
variable{M:Model}{A:Around}{E:Value->Shared->Prop}
theorem vT{s:Shared}{TB:Source}{n:Nat}{Q:Nat->Shared->Prop}(hn:n≠0)(h:∀i,i<n->∀d,Q i { s with drawn:=d }):wpAny M A (choose TB n) Q E s:=fun _ _ _=>⟨hn,h _ (Nat.mod_lt _ (Nat.pos_of_ne_zero hn)) _⟩
theorem zf{α:Type}:∀(n:Nat) (xs:List α) (s:Shared) (Q:List α->Shared->Prop),xs.length=n->(∀ys,ys.Perm xs->∀d,Q ys { s with drawn:=d })->wpAny M A (drawOrder n xs) Q E s
 |0,xs,s,Q,hl,h=>by
  have e:xs=[]:=gl hl
  subst e
  unfold drawOrder
  exact ay (h [] (hU _) s.drawn)
 |n+1,[],s,Q,hl,h=>by simp at hl
 |n+1,x::r,s,Q,hl,h=>by
  unfold drawOrder
  refine aa (vT (by simp) fun i hi d=>?_)
  have e:(x::r)[i]?=some (x::r)[i]:=aj hi
  rw[e]
  dsimp only
  refine aa (zf n ((x::r).eraseIdx i) _ _ (by rw[List.length_eraseIdx,aJ hi];simp at hl ⊢;omega) fun ys hp d'=>ay (h _ ?_ d'))
  exact(List.Perm.cons _ hp).trans (p7 hi)
theorem CN{α:Type}(next:Nat->Nat):∀(JS k:Nat) (AI:List α) (out:Array α),AI.length=JS->(pickOrder.go next JS k AI out).toList.Perm (out.toList++AI)
 |0,k,AI,out,h=>by
  have e:AI=[]:=gl h
  subst e
  unfold pickOrder.go
  simp
 |JS+1,k,AI,out,h=>by
  have hlt:next k%AI.length<AI.length:=Nat.mod_lt _ (by omega)
  unfold pickOrder.go
  rw[aj hlt]
  dsimp only
  refine(CN next JS (k+1) _ _ (by rw[List.length_eraseIdx,aJ hlt];omega)).trans ?_
  rw[lS,ak]
  exact nX _ (p7 hlt)
theorem DM{α:Type}(next:Nat->Nat)(xs:Array α):(pickOrder next xs).toList.Perm xs.toList:=by
 unfold pickOrder
 have:=CN next xs.size 0 xs.toList #[] (by simp)
 simpa using this
end
abbrev pH(f:Value)(i:Int)(S:Addr)(n ep:Nat):Obj:={ cls:=.type "set_iterator",dict:=none,data:=.fields #[f,rawInt i,.ref S,rawInt n,rawInt ep],slots:=#[] }
section
variable{prog:Program}{w:World}{A:Around}{E:Value->Shared->Prop}{s:Shared}
theorem uP{Q:Fin->Shared->Prop}(hh:A.handled=none)(q:∀g e,(∀b o,s.heap.get? b=some o->g.get? b=some o)->(∃o,g.get? e=some o/\o.cls=.type "StopIteration")->E (.ref e) { s with heap:=g }) :
  wpAny (model prog w) A (do let x <- newExc (.type "StopIteration") [];raiseNew x) Q E s:=by
 refine aa ?_
 simp only[newExc,newTuple]
 refine aa (cr (aa (m:=firstArgMember _ _) (wpAny_of_eq (a:=Value.none) (by first|rfl|(simp only[firstArgMember];rfl)) (cr ?_ (by size_fits)))) (by size_fits))
 simp only[raiseNew]
 refine aa (wpAny_handled ?_)
 rw[hh]
 exact aa (ay (wpAny_throw (q _ _ (fun b o e=>aq _ (aq _ e)) ⟨_,aB _ rfl,rfl⟩)))
structure jr(w:World)(h:Heap)(S:Addr)(es:Array (Int×Value))(ep:Nat)(t:SetTable):Prop where
 ex:∃o,h.get? S=some o/\o.ExactSet/\o.data=.set es ep t
 fits:t.fits es.size=true
theorem jr.keep{h h':Heap}{S:Addr}{es:Array (Int×Value)}{ep:Nat}{t:SetTable}(z:jr w h S es ep t)(k:∀o,h.get? S=some o->h'.get? S=some o):jr w h' S es ep t:=⟨let ⟨o,ho,r⟩:=z.ex;⟨o,k o ho,r⟩,z.fits⟩
theorem DN{it S p:Addr}{i n ep k:Nat}{es:Array (Int×Value)}{t:SetTable}{pv:Array Value}{pn:Nat}{x:Int×Value}{Q:Option Value->Shared->Prop}(oQ:s.heap.get? it=some (pH (.ref p) i S n ep))(hS:jr w s.heap S es ep t)(hn:es.size=n)
  (hp:∃o,s.heap.get? p=some o/\o.cls=.type "tuple"/\o.data=.seq pv pn) (hk:pv[i]?=some (rawInt k)) (hx:es[k]?=some x)
  (q:∀g,g.get? it=some (pH (.ref p) ((i:Int)+1) S n ep)->Heap.SameBut it s.heap g->Q (some x.2) { s with heap:=g }):wpAny (model prog w) A (pyNext (.ref it)) Q E s:=by
 obtain⟨o,ho,yW,hd⟩:=hS.ex
 obtain⟨op,hop,hcp,hdp⟩:=hp
 have T:Shared.TypeIs s (.ref it) "set_iterator":=⟨_,oQ,rfl⟩
 unfold pyNext
 refine aa (gM (bI (name:=Str.ofString "__next__") T eF (b6 eF T lv ?_ (ly _))))
 show wpAny _ _ (fieldsOf (.ref it) >>= _) _ _ s
 refine aa (k9 oQ rfl ?_)
 dsimp only
 refine aa (fY ho hd hS.fits ?_)
 rw[aV (by rw[hn];simp)]
 refine aa (dU hop hdp ?_)
 simp only[cq,hk]
 unfold setNextDrawn
 refine aa (aa (fM ho hd hS.fits ?_))
 dsimp only
 rw[aV (by simp),cq,hx]
 refine ay (aa (cv oQ (by simp) fun g e1 e2=>ay ⟨_,rfl,ay (q g (by simpa using e1) e2)⟩))
theorem vU{it S p:Addr}{i n ep:Nat}{es:Array (Int×Value)}{t:SetTable}{pv:Array Value}{pn:Nat}{Q:Option Value->Shared->Prop}(hh:A.handled=none)(oQ:s.heap.get? it=some (pH (.ref p) i S n ep))(hS:jr w s.heap S es ep t)(hn:es.size=n)
  (hp:∃o,s.heap.get? p=some o/\o.cls=.type "tuple"/\o.data=.seq pv pn) (hk:pv[i]?=none)
  (q:∀g,(∀b o,b≠it->s.heap.get? b=some o->g.get? b=some o)->Q none { s with heap:=g }):wpAny (model prog w) A (pyNext (.ref it)) Q E s:=by
 obtain⟨o,ho,yW,hd⟩:=hS.ex
 obtain⟨op,hop,hcp,hdp⟩:=hp
 have T:Shared.TypeIs s (.ref it) "set_iterator":=⟨_,oQ,rfl⟩
 unfold pyNext
 refine aa (gM (bI (name:=Str.ofString "__next__") T eF (b6 eF T lv ?_ (ly _))))
 show wpAny _ _ (fieldsOf (.ref it) >>= _) _ _ s
 refine aa (k9 oQ rfl ?_)
 dsimp only
 refine aa (fY ho hd hS.fits ?_)
 rw[aV (by rw[hn];simp)]
 refine aa (dU hop hdp ?_)
 simp only[cq,hk]
 refine aa (cv oQ (by simp) fun g e1 e2=>aa (cv e1 (by simp) fun g2 e3 e4=>uP (s:={ s with heap:=g2 }) (show A.in1.handled=none from hh) fun g3 e kp hx=>?_))
 obtain⟨ox,hox,hcx⟩:=hx
 refine aa (ga (T:="StopIteration") (b:=true) ⟨ox,hox,hcx⟩ k8 (ay (q g3 fun b o hb e=>kp b o ?_)))
 exact e4.extBut b o hb (e2.extBut b o hb e)
theorem E_{it S:Addr}{i n ep sl sl':Nat}{es:Array (Int×Value)}{t:SetTable}{x:Value}{Q:Option Value->Shared->Prop}(oQ:s.heap.get? it=some (pH (rawInt sl) i S n ep))(hS:jr w s.heap S es ep t)(hn:es.size=n)
  (hx:∀(Q':Option (Value×Nat)->Shared->Prop) (E':Value->Shared->Prop),Q' (some (x,sl')) s->wpAny (model prog w) A.in1 (setNext S sl i ep) Q' E' s)
  (q:∀g,g.get? it=some (pH (rawInt sl') ((i:Int)+1) S n ep)->Heap.SameBut it s.heap g->Q (some x) { s with heap:=g }):wpAny (model prog w) A (pyNext (.ref it)) Q E s:=by
 obtain⟨o,ho,yW,hd⟩:=hS.ex
 have T:Shared.TypeIs s (.ref it) "set_iterator":=⟨_,oQ,rfl⟩
 unfold pyNext
 refine aa (gM (bI (name:=Str.ofString "__next__") T eF (b6 eF T lv ?_ (ly _))))
 show wpAny _ _ (fieldsOf (.ref it) >>= _) _ _ s
 refine aa (k9 oQ rfl ?_)
 dsimp only
 refine aa (fY ho hd hS.fits ?_)
 rw[aV (by rw[hn];simp)]
 show wpAny _ _ (setNext S (sl:Int).toNat (i:Int).toNat (ep:Int).toNat >>= _) _ _ s
 simp only[cq]
 refine aa (hx _ _ ?_)
 dsimp only
 refine aa (cv oQ (by simp) fun g e1 e2=>aa (cv e1 (by simp) fun g2 e3 e4=>ay ⟨_,rfl,ay (q g2 (by simpa using e3) (e2.trans e4))⟩))
theorem xG{it S:Addr}{i n ep sl:Nat}{es:Array (Int×Value)}{t:SetTable}{Q:Option Value->Shared->Prop}(hh:A.handled=none)(oQ:s.heap.get? it=some (pH (rawInt sl) i S n ep))(hS:jr w s.heap S es ep t)(hn:es.size=n)
  (hx:∀(Q':Option (Value×Nat)->Shared->Prop) (E':Value->Shared->Prop),Q' none s->wpAny (model prog w) A.in1 (setNext S sl i ep) Q' E' s)
  (q:∀g,(∀b o,b≠it->s.heap.get? b=some o->g.get? b=some o)->Q none { s with heap:=g }):wpAny (model prog w) A (pyNext (.ref it)) Q E s:=by
 obtain⟨o,ho,yW,hd⟩:=hS.ex
 have T:Shared.TypeIs s (.ref it) "set_iterator":=⟨_,oQ,rfl⟩
 unfold pyNext
 refine aa (gM (bI (name:=Str.ofString "__next__") T eF (b6 eF T lv ?_ (ly _))))
 show wpAny _ _ (fieldsOf (.ref it) >>= _) _ _ s
 refine aa (k9 oQ rfl ?_)
 dsimp only
 refine aa (fY ho hd hS.fits ?_)
 rw[aV (by rw[hn];simp)]
 show wpAny _ _ (setNext S (sl:Int).toNat (i:Int).toNat (ep:Int).toNat >>= _) _ _ s
 simp only[cq]
 refine aa (hx _ _ ?_)
 dsimp only
 refine aa (cv oQ (by simp) fun g e1 e2=>uP (s:={ s with heap:=g }) (show A.in1.handled=none from hh) fun g3 e kp hx=>?_)
 obtain⟨ox,hox,hcx⟩:=hx
 exact aa (ga (T:="StopIteration") (b:=true) ⟨ox,hox,hcx⟩ k8 (ay (q g3 fun b o hb e=>kp b o (e2.extBut b o hb e))))
end
theorem tz:Slot "set_iterator" "__iter__" "set_iterator.__iter__":=.of (owner:="set_iterator") (n:="__iter__") (by rw[typeLookup_type,nV];kernel_rfl) (by decide +kernel) (by decide +kernel) (by decide +kernel) (by first|exact .inl (by decide +kernel)|exact .inr (by decide +kernel)) (by rw[dX];kernel_rfl)
theorem zg(a:Value):argsOk "set_iterator.__iter__" ⟨[a],[]⟩:=by unfold argsOk;kernel_rfl
theorem zh:entryFor table "set_iterator.__iter__"=some Builtin.«dict_keyiterator.__iter__»:=entryFor_alias (id':="dict_keyiterator.__iter__") (by kernel_rfl) (by first|rfl|decide +kernel|(unfold String.splitOn;simp +decide [String.splitOnAux])) (by decide +kernel) (by kernel_rfl)
section
variable{prog:Program}{w:World}{A:Around}{E:Value->Shared->Prop}{s:Shared}
theorem zi{it S:Addr}{f:Value}{i:Int}{n ep:Nat}{Q:Value->Shared->Prop}(oQ:s.heap.get? it=some (pH f i S n ep))(q:Q (.ref it) s):wpAny (model prog w) A (pyIter (.ref it)) Q E s:=by
 have T:Shared.TypeIs s (.ref it) "set_iterator":=⟨_,oQ,rfl⟩
 exact wpAny_pyIter_slot T tz (b6 tz T zh (ay ⟨_,rfl,"set_iterator",_,T,eF.lookup,q⟩) (zg _))
theorem Bm(hh:A.handled=none){it S p:Addr}{n ep:Nat}{es:Array (Int×Value)}{t:SetTable}{pl:List Nat}(pE:pl.Perm (List.range n))(hn:es.size=n)(h1:it≠S)(h2:it≠p) :
  Walks prog w A it [it,p,S] [it] n (fun i v=>∃k x,pl[i]?=some k/\es[k]?=some x/\v=x.2) (fun i h=>i<=n/\h.get? it=some (pH (.ref p) i S n ep)/\(∃o,h.get? p=some o/\o.cls=.type "tuple"/\∃e,o.data=.seq (pl.map fun k:Nat=>rawInt k).toArray e)/\jr w h S es ep t) where
 sub:=fun b hb=>by simp at hb;simp[hb]
 frame:=fun i h h' st k=>⟨st.1,k it (by simp) _ st.2.1,(let ⟨o,ho,r⟩:=st.2.2.1;⟨o,k p (by simp) o ho,r⟩),st.2.2.2.keep fun o ho=>k S (by simp) o ho⟩
 item:=fun i s Q E hi st q=>by
  obtain⟨_,oQ,⟨op,hop,hcp,e,hdp⟩,hS⟩:=st
  have hl:pl.length=n:=by have:=pE.length_eq;simpa using this
  have hk:pl[i]?=some pl[i]:=aj (by omega)
  have hkn:pl[i]<es.size:=by rw[hn];exact kU.mp (pE.mem_iff.mp (dD (by omega)))
  refine DN oQ hS hn ⟨op,hop,hcp,hdp⟩ (k:=pl[i]) (x:=es[pl[i]]) (by simp[hk]) (by simp[hkn]) fun g a b=>q _ g s.toks ⟨pl[i],es[pl[i]],hk,by simp[hkn],rfl⟩ ⟨hi,?_,⟨op,b.extBut p op (Ne.symm h2) hop,hcp,e,hdp⟩,hS.keep fun o ho=>b.extBut S o (Ne.symm h1) ho⟩ fun c o hc ho=>b.extBut c o (fun z=>hc (by simp[z])) ho
  rw[a];rfl
 done:=fun s Q E st q=>by
  obtain⟨_,oQ,⟨op,hop,hcp,e,hdp⟩,hS⟩:=st
  have hl:pl.length=n:=by have:=pE.length_eq;simpa using this
  exact vU hh oQ hS hn ⟨op,hop,hcp,hdp⟩ (by simp[hl]) fun g kp=>q g s.toks fun c o hc ho=>kp c o (fun z=>hc (by simp[z])) ho
 self:=fun i s Q E st q=>zi st.2.1 q
theorem DO(hh:A.handled=none){it S:Addr}{n ep:Nat}{es:Array (Int×Value)}{t:SetTable}{vs:List Value}{sl:Nat->Nat}(hv:vs.length=n)(hn:es.size=n)(h1:it≠S)
  (hx:∀(s:Shared) (i:Nat),jr w s.heap S es ep t->i<=n->∀(A:Around) (Q':Option (Value×Nat)->Shared->Prop) (E':Value->Shared->Prop),Q' ((vs[i]?).map fun v=>(v,sl (i+1))) s->wpAny (model prog w) A (setNext S (sl i) i ep) Q' E' s) :
  Walks prog w A it [it,S] [it] n (fun i v=>vs[i]?=some v) (fun i h=>i<=n/\h.get? it=some (pH (rawInt (sl i)) i S n ep)/\jr w h S es ep t) where
 sub:=fun b hb=>by simp at hb;simp[hb]
 frame:=fun i h h' st k=>⟨st.1,k it (by simp) _ st.2.1,st.2.2.keep fun o ho=>k S (by simp) o ho⟩
 item:=fun i s Q E hi st q=>by
  obtain⟨_,oQ,hS⟩:=st
  have hk:vs[i]?=some vs[i]:=aj (by omega)
  refine E_ (x:=vs[i]) (sl':=sl (i+1)) oQ hS hn (fun Q' E' y=>hx s i hS (fL hi) _ Q' E' (by rw[hk];exact y)) fun g a b=>q _ g s.toks hk ⟨hi,?_,hS.keep fun o ho=>b.extBut S o (Ne.symm h1) ho⟩ fun c o hc ho=>b.extBut c o (fun z=>hc (by simp[z])) ho
  rw[a];rfl
 done:=fun s Q E st q=>by
  obtain⟨_,oQ,hS⟩:=st
  have hk:vs[n]?=none:=b9 (by omega)
  exact xG hh oQ hS hn (fun Q' E' y=>hx s n hS (az _) _ Q' E' (by rw[hk];exact y)) fun g kp=>q g s.toks fun c o hc ho=>kp c o (fun z=>hc (by simp[z])) ho
 self:=fun i s Q E st q=>zi st.2.1 q
end
section
variable{prog:Program}{w:World}{A:Around}{E:Value->Shared->Prop}{s:Shared}
theorem o_{Q:Bool->Shared->Prop}(q:Q (tV w) s):wpAny (model prog w) A setsByText Q E s:=by
 unfold setsByText
 exact aa (mJ (ay q))
theorem DP{S:Addr}{es:Array (Int×Value)}{ep:Nat}{t:SetTable}{i:Nat}{Q:Option (Value×Nat)->Shared->Prop}(hb:tV w=true)(hS:jr w s.heap S es ep t)
  (q:Q ((((pickOrder (w.params.setOrder S ep) es).toList.map (·.2))[i]?).map fun v=>(v,0)) s):wpAny (model prog w) A (setNext S 0 i ep) Q E s:=by
 obtain⟨o,ho,yW,hd⟩:=hS.ex
 unfold setNext
 refine aa (fM ho hd hS.fits ?_)
 dsimp only
 refine aa (o_ ?_)
 rw[hb,aJ rfl,aV (by simp)]
 unfold setWalk
 refine aa (aa (fM ho hd hS.fits ?_))
 dsimp only
 refine aa (o_ ?_)
 rw[hb,aJ rfl]
 refine aa (mJ (ay (ay ?_)))
 have e:((pickOrder (w.params.setOrder S ep) es)[i]?).map (fun e=>(e.2,0))=(((pickOrder (w.params.setOrder S ep) es).toList.map (·.2))[i]?).map fun v=>(v,0):=by
  rw[aG,fB,Option.map_map];rfl
 show Q (((pickOrder (w.params.setOrder S ep) es)[i]?).map fun e=>(e.2,0)) s
 rw[e];exact q
theorem wI(p:Nat):SetTable.below #[p] 0=0/\SetTable.below #[p] (p+1)=1:=by
 unfold SetTable.below
 constructor
 ·simp[SetTable.below.go]
 ·simp[SetTable.below.go]
theorem Fa{S:Addr}{es:Array (Int×Value)}{ep:Nat}{t:SetTable}{i:Nat}{Q:Option (Value×Nat)->Shared->Prop}(hb:tV w=false)(hS:jr w s.heap S es ep t)(N2:t.led=true)(h1:es.size<=1)(hi:i<=es.size)
  (q:Q (((es.toList.map (·.2))[i]?).map fun v=>(v,if i+1=0 then 0 else t.place.getD 0 0+1)) s):wpAny (model prog w) A (setNext S (if i=0 then 0 else t.place.getD 0 0+1) i ep) Q E s:=by
 obtain⟨o,ho,yW,hd⟩:=hS.ex
 have hf:=hS.fits
 have hps:t.place.size=es.size:=by
  unfold SetTable.fits at hf
  simp only[dr,dv]at hf
  exact hf.1
 unfold setNext
 refine aa (fM ho hd hS.fits ?_)
 dsimp only
 refine aa (o_ ?_)
 rw[hb,aV eD]
 show wpAny _ _ (if (!t.plain&&decide (es.size>1))=true then _ else _) _ _ _
 rw[aV (by simp;omega)]
 show wpAny _ _ ((if (!t.led&&!es.isEmpty)=true then _ else pure ()) >>= _) _ _ _
 rw[aV (by simp[N2])]
 refine aa (ay (ay ?_))
 by_cases hz:es.size=0
 ·have e1:es=#[]:=f_ hz
  subst e1
  simpa using q
 ·have hs1:es.size=1:=by omega
  obtain⟨x,rfl⟩:∃x,es=#[x]:=by
   obtain⟨l⟩:=es
   obtain⟨x,e⟩:=gy.mp hs1
   exact⟨x,hJ Array.mk e⟩
  obtain⟨p,hp⟩:∃p,t.place=#[p]:=by
   generalize t.place=pl at hps
   obtain⟨l⟩:=pl
   obtain⟨x,e⟩:=gy.mp hps
   exact⟨x,hJ Array.mk e⟩
  rw[hp]at q ⊢
  rcases(show i=0\/i=1 by simp at hi;omega)with rfl|rfl
  ·simp[wI]at q ⊢;exact q
  ·simp[wI]at q ⊢;exact q
end
theorem xH{α β:Type}[Inhabited β](f:Nat->β)(xs:List α)(g:α->β)(n:Nat)(hn:xs.length=n)(hf:∀i x,xs[i]?=some x->f i=g x):(List.range n).map f=xs.map g:=by
 apply jn
 intro i
 rw[aG,aG]
 by_cases h:i<n
 ·rw[iu h,aj (by omega)]
  exact hJ some (hf i _ (aj (by omega)))
 ·rw[b9 (by simp;omega),b9 (by omega)];rfl
section
variable{prog:Program}{w:World}{A:Around}{E:Value->Shared->Prop}{s:Shared}
theorem Fb{S:Addr}{es:Array (Int×Value)}{ep:Nat}{t:SetTable}{Q:Value->Shared->Prop}(hS:jr w s.heap S es ep t)(H_:CM w es.size t)(yV:es.size<=sizeLine)
  (q:∀(g:Heap) (d:Drawn) (it:Addr) (fp:List Addr) (P:Nat->Value->Prop) (St:Nat->Heap->Prop),(∀A:Around,A.handled=none->Walks prog w A it fp [it] es.size P St)->St 0 g->s.heap.objs.size<=it->(∀b∈fp,b=S\/s.heap.objs.size<=b)->(∀b∈fp,b<g.objs.size)->(∀b o,s.heap.get? b=some o->g.get? b=some o) ->
   (∀iI,ItemsOf P iI es.size->iI.toList.Perm (es.toList.map (·.2)))->Q (.ref it) { s with heap:=g,drawn:=d }):wpAny (model prog w) A (pyIter (.ref S)) Q E s:=by
 obtain⟨o,ho,yW,hd⟩:=hS.ex
 have T:Shared.TypeIs s (.ref S) "set":=⟨o,ho,yW.1⟩
 have hSlt:=aI ho
 refine wpAny_pyIter_slot T PySem.F.slot_set_iter (b6 PySem.F.slot_set_iter T zb ?_ (PySem.F.args_set_iter_1 _))
 show wpAny _ _ (Builtin.Frozenset.sizeOf S >>= _) _ _ s
 unfold Builtin.Frozenset.sizeOf
 refine aa (aa (fY ho hd hS.fits (ay ?_)))
 unfold setDrawn
 refine aa (aa (fM ho hd hS.fits ?_))
 dsimp only
 refine aa (o_ (ay ?_))
 by_cases hdr:(!tV w&&(!t.plain&&decide (es.size>1)))=true
 ·show wpAny _ _ (if (!tV w&&(!t.plain&&decide (es.size>1)))=true then _ else _) _ _ _
  rw[aJ hdr]
  refine aa (zf es.size (List.range es.size) _ _ (by simp) fun pl hp d=>?_)
  have hl:pl.length=es.size:=by have:=hp.length_eq;simpa using this
  refine aa (wpAny_newTuple ?_ (by rw[aE,hl];exact yV))
  have hS1:jr w (s.heap.push { cls:=.type "tuple",data:=.seq (pl.map fun i:Nat=>rawInt i).toArray }) S es ep t:=hS.keep fun o e=>aq _ e
  obtain⟨o1,ho1,_,hd1⟩:=hS1.ex
  refine aa (wpAny_setEpoch_of (s:={ s with heap:=s.heap.push { cls:=.type "tuple",data:=.seq (pl.map fun i:Nat=>rawInt i).toArray },drawn:=d }) ho1 hd1 hS.fits ?_)
  refine aa (cr (ay ⟨_,rfl,"set_iterator",_,⟨_,aB _ rfl,rfl⟩,eF.lookup,?_⟩))
  have z:(s.heap.push { cls:=.type "tuple",data:=.seq (pl.map fun i:Nat=>rawInt i).toArray }).objs.size=s.heap.objs.size+1:=bt ..
  refine q _ d _ [_,s.heap.objs.size,S] _ _ (fun A hA=>Bm (p:=s.heap.objs.size) (t:=t) (ep:=ep) hA hp rfl ?_ ?_) ⟨ce _,aB _ rfl,⟨_,aq _ (aB _ rfl),rfl,0,rfl⟩,hS1.keep fun o e=>aq _ e⟩ ?_ (fun b hb=>?_) (fun b hb=>?_) (fun b o e=>aq _ (aq _ e)) fun iI hacc=>?_
  ·rw[z];exact dS (cJ hSlt)
  ·rw[z];exact Nat.succ_ne_self _
  ·rw[z];exact bp _
  ·simp only[aS,gb,oU]at hb
   rcases hb with rfl|rfl|rfl
   ·rw[z];exact .inr (bp _)
   ·exact .inr (az _)
   ·exact .inl rfl
  ·simp only[aS,gb,oU]at hb
   have z2:∀o2,((s.heap.push { cls:=.type "tuple",data:=.seq (pl.map fun i:Nat=>rawInt i).toArray }).push o2).objs.size=s.heap.objs.size+2:=fun o2=>by rw[bt,z]
   rw[z2]
   rcases hb with rfl|rfl|rfl
   ·rw[z];exact bZ _
   ·exact cJ (bZ _)
   ·exact cJ (cJ hSlt)
  ·have e:iI.toList=pl.map fun k=>(es.getD k (0,.none)).2:=by
    apply jn
    intro i
    rw[aG]
    by_cases hi:i<es.size
    ·have hia:i<iI.size:=by rw[hacc.1];exact hi
     have ha:iI[i]?=some (iI[i]'hia):=eh hia
     obtain⟨k,x,h1,h2,h3⟩:=hacc.2 i _ ha
     rw[fB,ha,h1]
     have:es.getD k (0,.none)=x:=by rw[kK,h2];rfl
     rw[h3]
     show some x.2=some (es.getD k (0,.none)).2
     rw[this]
    ·rw[b9 (by rw[dY,hacc.1];omega),b9 (by omega)];rfl
   rw[e]
   refine(hp.map _).trans (List.Perm.of_eq ?_)
   exact xH _ es.toList (·.2) es.size (by simp) fun i x hx=>by
    have hx':es[i]?=some x:=by rw[<- fB];exact hx
    rw[kK,hx'];rfl
 ·show wpAny _ _ (if (!tV w&&(!t.plain&&decide (es.size>1)))=true then _ else _) _ _ _
  rw[aV hdr]
  refine aa (ay (aa (wpAny_setEpoch_of ho hd hS.fits ?_)))
  refine aa (cr (ay ⟨_,rfl,"set_iterator",_,⟨_,aB _ rfl,rfl⟩,eF.lookup,?_⟩))
  have kA:∀(vs:List Value) (sl:Nat->Nat),sl 0=0->vs.Perm (es.toList.map (·.2))->(∀(s:Shared) (i:Nat),jr w s.heap S es ep t->i<=es.size->∀(A:Around) (Q':Option (Value×Nat)->Shared->Prop) (E':Value->Shared->Prop),Q' ((vs[i]?).map fun v=>(v,sl (i+1))) s->wpAny (model prog w) A (setNext S (sl i) i ep) Q' E' s) ->
    Q (.ref s.heap.objs.size) { s with heap:=s.heap.push (pH (rawInt 0) 0 S es.size ep) }:=fun vs sl h0 hp hx=>by
   have hl:vs.length=es.size:=by have:=hp.length_eq;simpa using this
   refine q _ s.drawn s.heap.objs.size [s.heap.objs.size,S] _ _ (fun A hA=>DO (t:=t) (ep:=ep) (vs:=vs) (sl:=sl) hA hl rfl (dS hSlt) hx) ⟨ce _,?_,hS.keep fun o e=>aq _ e⟩ (az _) (fun b hb=>?_) (fun b hb=>?_) (fun b o e=>aq _ e) fun iI hacc=>?_
   ·rw[h0];exact aB _ rfl
   ·simp only[aS,gb,oU]at hb
    rcases hb with rfl|rfl
    ·exact .inr (az _)
    ·exact .inl rfl
   ·simp only[aS,gb,oU]at hb
    rw[bt]
    rcases hb with rfl|rfl
    ·exact bZ _
    ·exact cJ hSlt
   ·have e:iI.toList=vs:=by
     apply jn
     intro i
     by_cases hi:i<es.size
     ·have hia:i<iI.size:=by rw[hacc.1];exact hi
      have ha:iI[i]?=some (iI[i]'hia):=eh hia
      rw[fB,ha,hacc.2 i _ ha]
     ·rw[b9 (by rw[dY,hacc.1];omega),b9 (by omega)]
    rw[e];exact hp
  cases hb:tV w with
  |true=>exact kA ((pickOrder (w.params.setOrder S ep) es).toList.map (·.2)) (fun _=>0) rfl ((DM _ _).map _) fun s i hS' hi A Q' E' y=>DP hb hS' y
  |false=>
   have h1:es.size<=1:=by
    rcases H_.2 with z|z
    ·omega
    ·rw[hb,z]at hdr;simp at hdr;omega
   have N2:t.led=true:=H_.1.resolve_left (by rw[hb];exact eD)
   exact kA (es.toList.map (·.2)) (fun i=>if i=0 then 0 else t.place.getD 0 0+1) rfl (hU _) fun s i hS' hi A Q' E' y=>Fa hb hS' N2 h1 hi y
end
section
variable{prog:Program}{w:World}{A:Around}{E:Value->Shared->Prop}{s:Shared}
theorem Fc{S:Addr}{Q:Bool->Shared->Prop}(T:s.TypeIs (.ref S) "set")(q:Q false s):wpAny (model prog w) A (Builtin.List.listLengthHint (.ref S)) Q E s:=by
 unfold Builtin.List.listLengthHint
 refine aa (wpAny_specialOf T PySem.F.slot_set_len.lookup ?_)
 generalize hid:("set.__len__":String)=id0
 wp_delta
 rw[show splitId id0=some ("set","__len__")from by subst hid;decide +kernel]
 subst hid
 refine aa (ga (T:="set") (b:=true) T (by rw[dX];kernel_rfl) ?_)
 refine nL (fun y=>absurd y (by decide)) (fun _=>nL (fun _=>?_) (fun y=>absurd (by decide +kernel) y))
 exact aa (ii T (ay q))
theorem zj{S:Addr}{es:Array (Int×Value)}{ep:Nat}{t:SetTable}{Q:List Value->Shared->Prop}(hS:jr w s.heap S es ep t)(H_:CM w es.size t)(yV:es.size<=sizeLine)(hh:A.handled=none)
  (q:∀(g:Heap) (d:Drawn) (tk:Nat) (vs:List Value),(∀b o,s.heap.get? b=some o->g.get? b=some o)->vs.Perm (es.toList.map (·.2))->Q vs { s with heap:=g,drawn:=d,toks:=tk }):wpAny (model prog w) A (collect (.ref S)) Q E s:=by
 obtain⟨o,ho,yW,hd⟩:=hS.ex
 have hSlt:=aI ho
 unfold collect
 refine aa (oT (dB entry_proto_collect' ?_))
 rw[cO PySem.F.plain_proto_collect _]
 show wpAny _ A.in1 (newList [] >>= fun l=>again (.builtin "list.__iadd__" ⟨[l,.ref S],[]⟩)) _ _ s
 refine aa (cr (ay ⟨eX PySem.F.plain_list_iadd _,dB entry_list_iadd' ?_⟩))
 rw[cO PySem.F.plain_list_iadd _]
 generalize hL:s.heap.objs.size=L
 have gL:(s.heap.push { cls:=.type "list",data:=.seq ([]:List Value).toArray }).get? L=some { cls:=.type "list",data:=.seq #[] }:=by rw[<- hL];exact aB _ rfl
 have hS1:jr w (s.heap.push { cls:=.type "list",data:=.seq ([]:List Value).toArray }) S es ep t:=hS.keep fun o e=>aq _ e
 have z1:(s.heap.push { cls:=.type "list",data:=.seq ([]:List Value).toArray }).objs.size=L+1:=by rw[bt,hL]
 have kp1:∀b o,s.heap.get? b=some o->(s.heap.push { cls:=.type "list",data:=.seq ([]:List Value).toArray }).get? b=some o:=fun b o e=>aq _ e
 have bL:∀b o,s.heap.get? b=some o->b≠L:=fun b o e=>by rw[<- hL];exact a7 (aI e)
 generalize s.heap.push { cls:=.type "list",data:=.seq ([]:List Value).toArray }=h1 at gL hS1 z1 kp1 ⊢
 have Dj:L≠S:=by rw[<- hL];exact dS hSlt
 obtain⟨o1,ho1,hex1,hd1⟩:=hS1.ex
 have T:Shared.TypeIs { s with heap:=h1 } (.ref S) "set":=⟨o1,ho1,hex1.1⟩
 show wpAny _ A.in1 (Builtin.List.listExtendWith (.ref L) (.ref S) (.ref L)) _ _ _
 unfold Builtin.List.listExtendWith
 refine aa (ii (T:="set") T ?_)
 have e1:Builtin.List.listSameRef (.ref L) (.ref S)=false:=by simp[Builtin.List.listSameRef,Dj]
 have e2:(Value.type "set" == Value.type "list")=false:=by decide
 have e3:(Value.type "set" == Value.type "tuple")=false:=by decide
 simp only[e1,e2,e3,me,fy,jU]
 refine aa (Fb (s:={ s with heap:=h1 }) hS1 H_ yV fun g d it fp P St W st oQ QT hfl kp2 hperm=>?_)
 have gL2:=kp2 _ _ gL
 have hLf:L∉fp:=fun hm=>by
  rcases QT L hm with y|y
  ·exact Dj y
  ·rw[show Shared.heap { s with heap:=h1 }=h1 from rfl,z1]at y;exact absurd y (Nat.not_le.mpr (bZ _))
 obtain⟨o2,ho2,hex2,hd2⟩:=(hS1.keep fun o e=>kp2 S o e).ex
 refine aa (c8 (Fc (s:={ s with heap:=g,drawn:=d }) ⟨o2,ho2,hex2.1⟩ ?_))
 have itL:it≠L:=fun y=>by
  have:=oQ
  rw[show Shared.heap { s with heap:=h1 }=h1 from rfl,z1,y]at this
  exact absurd this (Nat.not_le.mpr (bZ _))
 have old:∀b o,s.heap.get? b=some o->b≠it:=fun b o e y=>by
  have h2:=aI (kp1 b o e)
  have h3:=oQ
  rw[show Shared.heap { s with heap:=h1 }=h1 from rfl]at h3
  rw[y]at h2
  exact absurd h2 (iT.mpr h3)
 have key:∀(g':Heap) (c tk:Nat),St 0 g'->(∀b o,b≠L->g.get? b=some o->g'.get? b=some o)->g'.get? L=some { cls:=.type "list",data:=.seq #[] c } ->
   codeAny (model prog w) A (.builtin "list.extend.loop" ⟨[.ref L,.ref it,.ref L],[]⟩) (wants (fun r s'=>wpAny (model prog w) A (match r with|.ref a=>(do match (<- load a).data with|.seq xs _=>pure xs.toList|_=>unsupported "internal:collect")|_=>unsupported "internal:collect") Q E s') E) { s with heap:=g',drawn:=d,toks:=tk }:=by
  intro g' c tk bh kp3 gL3
  refine codeAny_extend_loopS (W A.in1 (by simpa using hh)).toS yV L hLf (.ref L) es.size 0 _ #[] c rfl (ce _) bh gL3 (ItemsOf.nil _) fun s' iI c' hm gL4 hacc=>?_
  have ee:s'={ s with heap:=s'.heap,drawn:=d,toks:=s'.toks }:=by
   have h1:=hm.gens
   have h2:=hm.drawn
   have h3:=hm.os
   cases s'
   simp only at h1 h2 h3
   subst h1;subst h2;subst h3;rfl
  refine aa (wpAny_load gL4 (ay ?_))
  rw[ee]
  refine q s'.heap d s'.toks iI.toList (fun b o e=>hm.heap b o (fun y=>?_) (kp3 b o (bL b o e) (kp2 b o (kp1 b o e)))) (hperm iI hacc)
  rcases aS.mp y with y|y
  ·exact bL b o e y
  ·exact old b o e (aY.mp y)
 refine nL (fun _=>?_) (fun _=>ay ⟨eX PySem.F.plain_extend_loop _,key g 0 _ st (fun _ _ _ e=>e) gL2⟩)
 refine aa (jJ (aa ?_))
 show wpAny _ _ (updateSeq L (·.push .none) >>= fun _=>updateSeq L (·.pop)) _ _ _
 refine aa (nM gL2 rfl ?_)
 have g5:=dy (Obj.mapSeq (·.push Value.none)) gL2 rfl
 refine nM (hz:=by seq_fits) g5 rfl ?_
 have g6:=dy (Obj.mapSeq (·.pop)) g5 rfl
 refine ay ⟨eX PySem.F.plain_extend_loop _,key _ _ _ ((W A hh).frame 0 _ _ st fun b hb o e=>?_) (fun b o hb e=>?_) g6⟩
 ·have hbL:b≠L:=fun y=>hLf (y▸hb)
  exact(cC _ _ (Ne.symm hbL)).trans ((cC _ _ (Ne.symm hbL)).trans e)
 ·exact(cC _ _ (Ne.symm hb)).trans ((cC _ _ (Ne.symm hb)).trans e)
end
end L2
namespace L2
variable{nk:Nat}
open PySem PySem.Spec PyProof.Rows
section
variable{prog:Program}{w:World}{A:Around}{E:Value->Shared->Prop}{s:Shared}
theorem Bn{n:Nat}{S:Addr}{ks:List Str}{Q:Value->Shared->Prop}(z:uO prog w n s.heap S ks)(K_:ks.length<64)(hh:A.handled=none)
  (q:∀(g0 g1:Heap) (d:Drawn) (tk:Nat) (out:Array Value) (ss:List Str) (e:Nat),(∀b o,s.heap.get? b=some o->g0.get? b=some o)->(∀b o,g0.get? b=some o->g1.get? b=some o)->g1.get? g0.objs.size=some (seqObj "list" out e) ->
   iB n out.toList->StrsAre out.toList ss->ss.Perm ks->sortedS ss=true->Q (.ref g0.objs.size) { s with heap:=g1,drawn:=d,toks:=tk }):wpAny (model prog w) A (call (.builtin "sorted") [.ref S]) Q E s:=by
 obtain⟨o,es,ep,t,ho,yW,hd,hel,hp,hb,hf,H_,hta⟩:=z
 have hS:jr w s.heap S es ep t:=⟨⟨o,ho,yW,hd⟩,hf⟩
 have fT:es.size=ks.length:=by have:=hp.length_eq;simpa using this
 apply lj kind_sorted plain_sorted entry_sorted (args_sorted1 _)
 show wpAny _ _ (checkCount "sorted" 1 1 _ >>= _) _ _ _
 refine aa (ay (aa (zj hS H_ (by rw[jT];omega) (by simpa using hh) fun g d tk vs kp pv=>?_)))
 have hv:∀v∈vs,∃x t,v=Value.str x t:=fun v hv=>by
  obtain⟨e,he,rfl⟩:=cS.mp (pv.mem_iff.mp hv)
  obtain⟨t,ht⟩:=zd hel e he
  exact⟨_,t,ht⟩
 have rJ:=strsAre_map vs hv
 have hks:(vs.map strOf).Perm ks:=by
  refine(pv.map strOf).trans ?_
  rw[b7];exact hp
 have hvl:vs.length<64:=by have:=hks.length_eq;rw[aE]at this;omega
 refine aa (wpAny_newList ?_ (by rw[jT];omega))
 have oL:(g.push (seqObj "list" vs.toArray 0)).get? g.objs.size=some (seqObj "list" vs.toArray 0):=aB _ rfl
 refine aa (c8 (b6 slot_list_sort ⟨_,oL,rfl⟩ entry_list_sort (list_sort_treeK pY oL rJ.keysOf (fun a b r e=>rN (by rw[<- e];exact rJ)) hvl fun st a1 a2=>⟨_,rfl,?_⟩) (args_list_sort _)))
 obtain⟨ss,h1,h2,h3⟩:=oS rJ a1 a2
 obtain⟨e,he⟩:=sortedHeap_at (out:=(arrOf st).map (·.2)) oL
 refine ay ⟨_,rfl,q g _ d tk _ ss e kp (fun b o hb=>?_) he (fun x t hx=>hta x t (pv.mem_iff.mp (uN a1 _ hx))) h1 (h2.trans hks) h3⟩
 rw[sortedHeap_old (a7 (aI hb)) (by rw[bt];exact cJ (aI hb))]
 exact aq _ hb
abbrev OY(ty:String)(x:Str)(t:Tok):Obj:={ cls:=.type ty,data:=.fields #[.str x t,.int 0 0] }
theorem Fd{l:List Nat}{t:Tok}{Q:Value->Shared->Prop}(Et:0<s.toks)(hh:A.handled=none)(hb:l.length+1<scanBound)
  (q:∀g tk,s.toks<=tk->J3 prog w tk (fun j=>tx [l.getD j 0]) g s.heap.objs.size l.length->(∀b o,s.heap.get? b=some o->g.get? b=some o)->Q (.ref s.heap.objs.size) { s with heap:=g,toks:=tk }):wpAny (model prog w) A (call (.type "set") [.str (tx l) t]) Q E s:=by
 have z:(s.heap.push (dJ w)).objs.size=s.heap.objs.size+1:=bt ..
 have hn:(tx l).cps.size=l.length:=by simp[tx]
 have AQ:∀i v,SignAt (tx l) i v->∃t,v=Value.str (tx [l.getD i 0]) t:=by
  rintro i v ⟨c,u,hc,rfl⟩
  have:l[i]?=some c:=by simpa[tx]using hc
  exact⟨u,by rw[aF,this];rfl⟩
 have hT:Shared.TypeIs { s with heap:=s.heap.push (dJ w) } (.str (tx l) t) "str":=k6 _ _ _
 rw[<- hn]at hb q
 cases ha:(tx l).cps.all (· < 128)
 ·refine lW (T:="str") (fp:=fun it=>[it]) (P:=SignAt (tx l)) (St:=fun it i h=>h.IsStrIter it "str_iterator" (tx l) t i) hT (by rw[dX];kernel_rfl) (by rw[dX];kernel_rfl) (by decide)
   (fun A E Q y=>lN ha (by show Q (.ref (s.heap.push (dJ w)).objs.size) _;rw[z];exact y)) (fun A it hA _=>Walks.strWide hA it (tx l) t) (by simp) ⟨OY "str_iterator" (tx l) t,?_,rfl,rfl⟩ AQ hh hb (fun A hA i s' Q E hn hi st q=>by
    obtain⟨c,hx⟩:∃c,(tx l).cps[i]?=some c:=⟨_,eh hi⟩
    refine jl st hx fun h' bh hs=>q _ h' (s'.toks+1) (bp _) (fun x u hx' _=>?_) ⟨c,_,hx,rfl⟩ bh fun b o hb e=>hs.extBut b o (fun z=>hb (by simp[z])) e
    rw[aY]at hx'
    cases hx'
    exact⟨aQ Et hn,bZ _⟩) q
  rw[<- z];exact aB _ rfl
 ·refine lW (T:="str") (fp:=fun it=>[it]) (P:=SignAt (tx l)) (St:=fun it i h=>h.IsStrIter it "str_ascii_iterator" (tx l) t i) hT (by rw[dX];kernel_rfl) (by rw[dX];kernel_rfl) (by decide)
   (fun A E Q y=>k7 ha (by show Q (.ref (s.heap.push (dJ w)).objs.size) _;rw[z];exact y)) (fun A it hA _=>Walks.strAscii hA it (tx l) t) (by simp) ⟨OY "str_ascii_iterator" (tx l) t,?_,rfl,rfl⟩ AQ hh hb (fun A hA i s' Q E hn hi st q=>by
    obtain⟨c,hx⟩:∃c,(tx l).cps[i]?=some c:=⟨_,eh hi⟩
    refine i7 st hx fun h' bh hs=>q _ h' (s'.toks+1) (bp _) (fun x u hx' _=>?_) ⟨c,_,hx,rfl⟩ bh fun b o hb e=>hs.extBut b o (fun z=>hb (by simp[z])) e
    rw[aY]at hx'
    cases hx'
    exact⟨aQ Et hn,bZ _⟩) q
  rw[<- z];exact aB _ rfl
theorem IV{l:List Nat}{a:Addr}{bF:List Value}{Q:Value->Shared->Prop}(hh:A.handled=none)(hb:l.length+1<scanBound)(ht:s.heap.IsTuple a bF.toArray)(hv:cG s.toks (ja l) bF)
  (q:∀g tk,s.toks<=tk->J3 prog w tk (fun j=>tx [l.getD j 0]) g s.heap.objs.size l.length->(∀b o,s.heap.get? b=some o->g.get? b=some o)->Q (.ref s.heap.objs.size) { s with heap:=g,toks:=tk }):wpAny (model prog w) A (call (.type "set") [.ref a]) Q E s:=by
 have z:(s.heap.push (dJ w)).objs.size=s.heap.objs.size+1:=bt ..
 have hn:bF.toArray.size=l.length:=by have:=hv.length;unfold ja at this;simpa using this.symm
 have ha:a<s.heap.objs.size:=by obtain⟨o,ho,_⟩:=ht;exact aI ho
 have N':(s.heap.push (dJ w)).IsTuple a bF.toArray:=ht.at fun o e=>aq _ e
 have AQ:∀i v,bF.toArray[i]?=some v->∃t,v=Value.str (tx [l.getD i 0]) t:=by
  intro i v hi
  have hi':bF[i]?=some v:=by simpa using hi
  have hlt:i<l.length:=by
   have:=(ar.mp hi').1
   rw[<- hn];simpa using this
  have hx:(ja l)[i]?=some (.str (tx [l.getD i 0])):=by
   unfold ja
   rw[aG,aj hlt,aF,aj hlt];rfl
  obtain⟨u,hu,t,e⟩:=hv.get hx
  rw[hi']at hu
  exact⟨t.1,(bx hu).trans e⟩
 rw[<- hn]at hb q
 refine lW (T:="tuple") (fp:=fun it=>[it,a]) (P:=fun i v=>bF.toArray[i]?=some v) (St:=fun it i h=>h.IsTupleIter it a i/\h.IsTuple a bF.toArray) N'.typeIs (by rw[dX];kernel_rfl) (by rw[dX];kernel_rfl) (by decide)
  (fun A E Q y=>fw N' (by show Q (.ref (s.heap.push (dJ w)).objs.size) _;rw[z];exact y)) (fun A it hA e=>Walks.tuple hA it a (by rw[e];exact a7 (cJ ha)) bF.toArray) (by simp;exact fun e=>absurd ha (by rw[<- e];exact dz _)) ⟨⟨{ cls:=.type "tuple_iterator",data:=.fields #[.ref a,.int 0 0] },?_,rfl,rfl⟩,?_⟩ AQ hh hb (fun A hA i s' Q E hn hi st q=>by
   refine up ((Walks.tuple hA (s.heap.objs.size+1) a (a7 (cJ ha)) bF.toArray).item i s' _ _ hi st fun v h' tk hp bh kp kM=>q v h' tk kM (fun x u hx=>?_) hp bh kp)
   rw[aY]at hx
   subst hx
   exact((qD hv).up (aM hn kM)) x u (by have hp:bF.toArray[i]?=some _:=hp;exact cf (by simpa using hp))) q
 ·rw[<- z];exact aB _ rfl
 ·exact N'.at fun o e=>aq _ e
end
theorem IW{l:List Nat}{ss ks:List Str}(hp:ss.Perm ks)(Sw:ks.Nodup)(hm:∀x,x∈ks↔∃j,j<l.length/\tx [l.getD j 0]=x)(hs:sortedS ss=true) :
  ∃m:List Nat,ss=m.map (fun c=>tx [c])/\m.Nodup/\m.Pairwise (· <= ·)/\∀c,c∈m↔c∈l:=by
 have all:∀z∈ss,tx [z.cps.toList.headD 0]=z:=fun z hz=>by
  obtain⟨j,_,e⟩:=(hm z).mp (hp.mem_iff.mp hz)
  subst e;rfl
 have em:ss=(ss.map fun z=>z.cps.toList.headD 0).map fun c=>tx [c]:=by
  rw[b7]
  conv=>lhs;rw[<- i8 ss]
  exact eO fun z hz=>(all z hz).symm
 refine⟨ss.map fun z=>z.cps.toList.headD 0,em,?_,?_,fun c=>?_⟩
 ·have nd:ss.Nodup:=hp.nodup_iff.mpr Sw
  rw[em]at nd
  exact List.Pairwise.of_map (fun c=>tx [c]) (fun a b h e=>h (by rw[e])) nd
 ·refine za _ ?_
  rw[b7]
  rw[em]at hs
  exact hs
 ·constructor
  ·intro hc
   obtain⟨z,hz,rfl⟩:=cS.mp hc
   obtain⟨j,hj,e⟩:=(hm z).mp (hp.mem_iff.mp hz)
   subst e
   show l.getD j 0∈l
   rw[aF,aj hj]
   exact dD hj
  ·intro hc
   obtain⟨j,hj,e⟩:=List.getElem_of_mem hc
   refine cS.mpr ⟨tx [c],hp.mem_iff.mpr ((hm _).mpr ⟨j,hj,?_⟩),rfl⟩
   rw[aF,aj hj,e];rfl
def IX(K:Frag)(H:Hp)(v:V)(l:List Nat):Prop:=v=.str (tx l)\/∃a,v=.ref a/\gg K H a (ja l)
def Fe(K:Frag)(te:TE):TE:=fun σ H Q=>te σ H fun v H1=>∃l,IX K H1 v l/\l.length<4000/\(∀m:List Nat,m.Nodup->(∀c∈m,c∈l)->m.length<64) /\
 ∀m:List Nat,m.Nodup->m.Pairwise (· <= ·)->(∀c,c∈m↔c∈l)->∀a H2,H1 a=none->H2=gf H1 a (.lst (m.map fun c=>V.str (tx [c])))->Q (.ref a) H2
theorem bU.kept2{X:Cx}{al:List (Addr×Obj)}{σ:St}{H:Hp}{s:Shared}{h':Heap}{t':Nat}{d':Drawn}(I:bU X al σ H s)(k:∀b o,s.heap.get? b=some o->h'.get? b=some o)(hk:s.toks<=t':=by first|exact az _|exact bp _|assumption|omega):bU X al σ H { s with heap:=h',drawn:=d',toks:=t' }:=
 I.step (g':=s.gens) (ch:=[]) (fun _ z=>nomatch z) (fun b o _ _ _ e _=>k b o e) (fun b o _ _ _ e _=>⟨o.slots,k b o e⟩) (fun _ _ _ _ n=>n) (fun b o _ e=>⟨o,k b o e⟩) (fun _ _ e=>e) (fun _ _ _ e=>e) (fun b ps e=>⟨#[],by rw[e];simp⟩)
  (fun m hm=>let ⟨o,es,ep,ho,r⟩:=hm;⟨o,es,ep,k _ o ho,r⟩) ((I.hok.kept k).up hk) I.bare hk
theorem DQ{X:Cx}{p1 p2 NO JQ:Pos}{e:Expr}{te:TE}(h1:X.mg "sorted"=none)(h3:X.mg "set"=none)(he:QE X e te)(hc:X.calm=true:=by rfl)
  (Sv:Gl X "sorted":=by rfl) (Sq:Gl X "set":=by rfl) (Rt:starEach [e] X.env=(false,eval e X.env)::starEach [] X.env:=by rfl):QE X (.Call (.Name "sorted" p1) [.Call (.Name "set" p2) [e] [] JQ] [] NO) (Fe X.K te):=⟨by
 intro al s σ H Q I h
 refine fz (n6 I Sv h1 PyProof.Rows.boot_sorted (jH ?_) (by decide) (by decide))
 show wpAny _ _ (spliced ((false,eval (.Call (.Name "set" p2) [e] [] JQ) X.env)::[])) _ _ s
 refine fx (fz (n6 I Sq h3 PyProof.Rows.boot_set (dF ?_ Rt rfl) (by decide) (by decide)))
 rw[Rt]
 show wpAny _ _ (spliced ((false,eval e X.env)::[])) _ _ s
 refine fx (jq (he.h al s σ H _ I h) fun u s1 kt1 ⟨v,H1,I1,r1,l,hl,hb,K_,q⟩=>gW ?_)
 have hh:X.A.handled=none:=I1.ok.hd hc
 have hb':l.length+1<scanBound:=by unfold scanBound;omega
 have kA:∀g tk,s1.toks<=tk->J3 X.prog X.w tk (fun j=>tx [l.getD j 0]) g s1.heap.objs.size l.length->(∀b o,s1.heap.get? b=some o->g.get? b=some o) ->
   wpAny (model X.prog X.w) X.A (spliced []) (fun vs s₂=>wpAny (model X.prog X.w) X.A (call (.builtin "sorted") (.ref s1.heap.objs.size::vs)) (EP X al σ Q) X.xe s₂) X.xe { s1 with heap:=g,toks:=tk }:=fun g tk kM hM kp=>by
  refine gW ?_
  obtain⟨ks,z,nd,mem,len⟩:=hM
  have qv:ks.length<64:=by
   obtain⟨m,em,mn,_,mm⟩:∃m:List Nat,ks=m.map (fun c=>tx [c])/\m.Nodup/\True/\∀c∈m,c∈l:=by
    have all:∀z∈ks,tx [z.cps.toList.headD 0]=z:=fun z hz=>by
     obtain⟨j,_,e⟩:=(mem z).mp hz
     subst e;rfl
    have em:ks=(ks.map fun z=>z.cps.toList.headD 0).map fun c=>tx [c]:=by
     rw[b7]
     conv=>lhs;rw[<- i8 ks]
     exact eO fun z hz=>(all z hz).symm
    refine⟨_,em,?_,trivial,fun c hc=>?_⟩
    ·have nd':=nd
     rw[em]at nd'
     exact List.Pairwise.of_map (fun c=>tx [c]) (fun a b h e=>h (by rw[e])) nd'
    ·obtain⟨z,hz,rfl⟩:=cS.mp hc
     obtain⟨j,hj,e⟩:=(mem z).mp hz
     subst e
     show l.getD j 0∈l
     rw[aF,aj hj]
     exact dD hj
   rw[em,aE]
   exact K_ m mn mm
  refine up (Bn z qv hh fun g0 g1 d N4 out ss ep k0 k1 gL hta rJ hperm hsrt hle2=>?_)
  have hle2:tk<=N4:=hle2
  have hle3:s1.toks<=N4:=aM kM hle2
  obtain⟨m,em,mn,mp,mm⟩:=IW hperm nd mem hsrt
  have I2:bU X al σ H1 { s1 with heap:=g0,drawn:=d,toks:=N4 }:=I1.kept2 fun b o e=>k0 b o (kp b o e)
  have Cu:H1 g0.objs.size=none:=I2.hok.fresh (az _)
  have hvals:cG N4 (m.map fun c=>V.str (tx [c])) out.toList:=by
   have e:=mO rJ (hta.up hle2)
   rw[em,b7]at e
   exact e
  refine⟨.ref g0.objs.size,_,I2.laid (o:=.lst (m.map fun c=>V.str (tx [c]))) (t':=N4) k1 (az _) ?_,rfl,q m mn mp mm _ _ Cu rfl⟩
  refine⟨?_,out.toList,ep,hvals,gL⟩
  rw[aE]
  exact aM (fL (K_ m mn fun c hc=>(mm c).mp hc)) (by decide)
 rcases hl with rfl|⟨a,rfl,hT⟩
 ·obtain⟨t,rfl⟩:=r1
  exact Fd I1.pos hh hb' kA
 ·cases r1
  obtain⟨bF,rv,ht,_⟩:=I1.tuple hT
  exact IV hh hb' ht rv kA⟩
end L2
namespace L2
open PySem PySem.Spec PyProof.Rows
section
variable{prog:Program}{w:World}{A:Around}{E:Value->Shared->Prop}{s:Shared}
end
section
variable{X:Cx}{qr tg dQ:Expr}{mM:List Expr}{scope:Scope}{pos:Pos}{nm:List Str}{cl:List (Str×Addr)}{cap:List (Option Nat)}{wi:TI}{g:TG}{tc:TT}{te:TE}
theorem Bo{x0:Str}{p0 p1:Pos}{gx:TG}(K':PG X (.Name x0 p0) gx)(QW:swapsWith (.ListComp qr [⟨tg,dQ,mM,0⟩] scope pos) (some (.Name x0 p0)) p1.line X.env=pure true)(js:X.calm=true)(vJ:closureFor scope X.env=pure cl)(AN:∀x c,cl.lookup x=some c->X.env.cells.lookup x=some c)
  (jt:scope.kind=.function) (qu:∀x∈scope.names,x.2=.local->scope.names.lookup x.1=some .local) (gR:∀y∈scope.names,y.2≠.cell)
  (Cm:∀x,((relabel scope X.env).names.lookup x=some .cell\/(relabel scope X.env).names.lookup x=some .free)->∃c,cl.lookup x=some c)
  (t9:∀(i j:Nat),cap[i]?=some (some j)->∃x,nm[i]?=some x/\X.N[j]?=some x/\uG X scope cl x) (fT:cap.length=nm.length)
  (hi:PI X tg dQ wi) (hg:∀C s0 H0 fp,PG (dI X nm scope cl C s0 H0 fp) tg g) (ht:∀C s0 H0 fp,EZ (dI X nm scope cl C s0 H0 fp) mM tc)
  (he:∀C s0 H0 fp,PE (dI X nm scope cl C s0 H0 fp) qr te) (hs:∀x,foldedSetIterable dQ X.env x=pure x:=by intro _;rfl) :
  PS X (.Assign [.Name x0 p0] (.ListComp qr [⟨tg,dQ,mM,0⟩] scope pos) p1) (EJ (uF cap wi g tc te) gx):=by
 intro al s σ H D I h
 rw[exec_Assign_Name_used _ _ _ _ QW]
 suffices main:wpAny (model X.prog X.w) X.A (comprehension (.ListComp qr [⟨tg,dQ,mM,0⟩] scope pos) scope X.env (firstIterPos [⟨tg,dQ,mM,0⟩] pos) (newList []) (firstAsync [⟨tg,dQ,mM,0⟩]) (firstIter [⟨tg,dQ,mM,0⟩] X.env) (some (assign (.Name x0 p0) X.env))) (fun _ s'=>SP X al D .next s') X.xe s from
  aa (pW (aa (aa (kW main (fun _ s' h=>ay (ay h)) fun _ _ z=>z))))
 refine wE js vJ AN jt qu gR Cm t9 fT hi hg ht he hs I h fun s4 C D m4 Hn I4 B q=>?_
 obtain⟨oC,es,ep,hoC,hdC,hrC⟩:=B.ns
 refine kW (K' _ s4 σ _ (.ref D) (.ref D) _ (I4.pins_of (pins':=al++[(C,oC)]) fun p hp=>?_) rfl q) (fun _ s5 h5=>?_) fun _ _ z=>z
 ·rcases aU.mp hp with z|z
  ·exact I4.pin p (aO _ z)
  ·have e:p=(C,oC):=by simpa using z
   subst e
   exact⟨hoC,B.fr,B.nl,B.nf,fun v z=>by rw[hdC]at z;cases z⟩
 obtain⟨σ',H',I6,nx⟩:=h5
 have pC:=I6.pin (C,oC) (aO _ (aO _ (aY.mpr rfl)))
 have I7:bU X al σ' H' s5:=I6.pins_of fun p hp=>I6.pin p (aO _ (bX _ hp))
 have B7:y7 X al H' s5 C m4:=⟨⟨oC,es,ep,pC.1,hdC,hrC⟩,pC.2.1,B.nl,B.nf,B.hi,B.nc,B.np⟩
 exact⟨m4,B7.ns,fun h' hs'=>⟨σ',H',B7.off I7 hs',nx⟩⟩
end
theorem Bp{X:Cx}{x0:Str}{p0 p1:Pos}{gx:TG}{qr tg dQ:Expr}{mM:List Expr}{scope:Scope}{pos:Pos}{nm:List Str}{cap:List (Option Nat)}{wi:TI}{g:TG}{tc:TT}{te:TE}{m:Nat}(K':QG X (.Name x0 p0) gx)(js:X.calm=true)
  (qw:X.env.cells=cellsFrom m X.env.scope.names []) (jt:scope.kind=.function) (hB:DI X.env.scope.names scope.names nm cap X.N=true)
  (hi:QI X tg dQ wi) (hg:∀cl C s0 H0 fp,QG (dI X nm scope cl C s0 H0 fp) tg g) (ht:∀cl C s0 H0 fp,R3 (dI X nm scope cl C s0 H0 fp) mM tc)
  (he:∀cl C s0 H0 fp,QE (dI X nm scope cl C s0 H0 fp) qr te) (hs:∀x,foldedSetIterable dQ X.env x=pure x:=by intro _;rfl) (QW:swapsWith (.ListComp qr [⟨tg,dQ,mM,0⟩] scope pos) (some (.Name x0 p0)) p1.line X.env=pure true:=by first|rfl|kernel_rfl) :
  QS X (.Assign [.Name x0 p0] (.ListComp qr [⟨tg,dQ,mM,0⟩] scope pos) p1) (EJ (uF cap wi g tc te) gx):=by
 have F:=OX (nm:=nm) (cap:=cap) (fun x z=>by rw[qw];exact ml z) hB
 exact⟨Bo K'.h QW js F.clos F.cl jt F.nms F.cell F.has F.cp F.len hi.h (fun C s0 H0 fp=>(hg _ C s0 H0 fp).h) (fun C s0 H0 fp=>(ht _ C s0 H0 fp).h) (fun C s0 H0 fp=>(he _ C s0 H0 fp).h) hs⟩
def OZ:List V->Hp->VK->Prop:=fun xs H Q=>∃c:Nat,xs=[.str (tx [48+c])]/\c<=3/\Q (.int c) H
theorem Me{X:Cx}:J2 X (.type "int") OZ:=⟨by
 intro al s σ H xs us Q I r h
 obtain⟨i,rfl,hi,q⟩:=h
 obtain⟨u,rfl,t,rfl⟩:=n_ r
 have e:PySem.intText? (tx [48+i])=some (i:Int):=by
  rcases(show i=0\/i=1\/i=2\/i=3 by omega)with rfl|rfl|rfl|rfl<;>decide +kernel
 exact PySem.W.KIN.call_text e (by show 1<=640;decide) ⟨.int i,H,I.tok _,⟨_,rfl⟩,q⟩⟩
open AutoSeq1 (wpAny_loadPart')
theorem Ff(l b:Addr)(i1 i2:Array Value)(n1 n2:Nat)(d1 d2:Option Addr)(s1 s2:Array (Option Value))(h0:i1.isEmpty=true) :
  Meets (Builtin.«tuple.__add__» ⟨[.ref l,.ref b],[]⟩) (fun _ R s=>s.heap.get? l=some { cls:=.type "tuple",dict:=d1,data:=.seq i1 n1,slots:=s1 }/\s.heap.get? b=some { cls:=.type "tuple",dict:=d2,data:=.seq i2 n2,slots:=s2 }/\R (.ok (.ret (.ref b))) s):=
 .of_wp fun prog w A R s h=>by
  obtain⟨hp,g,d,tk,os⟩:=s
  obtain⟨e1,e2,h⟩:=h
  have a2:=PyProof.Rows.sub_tuple_tuple
  wp_walk using c9 e1,c9 e2
  exact⟨_,rfl,h⟩
def O0(K:Frag):R2:=fun x y H Q=>∃a b xs ys,x=.ref a/\y=.ref b/\gg K H a xs/\gg K H b ys/\xs.length+ys.length<=sizeLine/\∀p H2,uE H H2->gg K H2 p (xs++ys)->Q (.ref p) H2
theorem Mf{X:Cx}:SR X (binaryOp .Add) (O0 X.K):=⟨by
 intro al s σ H x y v u Q I rx ry h
 obtain⟨a,b,xs,ys,rfl,rfl,ha,hb,hz,q⟩:=h
 by_cases hx:xs=[]
 ·subst hx
  cases rx
  cases ry
  obtain⟨bF,r1,p1,_⟩:=I.tuple ha
  obtain⟨its2,r2,p2,_⟩:=I.tuple hb
  have e1:bF=[]:=r1.nil_iff.mpr rfl
  obtain⟨⟨c1,d1,g1,l1⟩,f1,hc1,n1,hd1⟩:=id p1
  obtain⟨⟨c2,d2,g2,l2⟩,f2,hc2,n2,hd2⟩:=id p2
  simp only at hc1 hd1 hc2 hd2
  subst hc1 hd1 hc2 hd2
  refine rK ⟨_,f1,rfl⟩ ⟨_,f2,rfl⟩ mH pX PySem.F.slot_tuple_add PySem.F.entry_tuple_add (PySem.F.args_tuple_add_2 _ _) (Ff a b bF.toArray its2.toArray n1 n2 d1 d2 l1 l2 (by rw[e1];rfl)) ⟨f1,f2,?_⟩
  exact⟨.ref b,H,I,rfl,q b H (uE.refl H) hb⟩
 ·exact IE al s σ H _ _ v u Q I rx ry ⟨a,b,xs,ys,rfl,rfl,ha,hb,hx,hz,fun e=>q a H (uE.refl H) (by rw[e,bf];exact ha),fun _ p hp=>q p _ (du hp _) (gg.of iA)⟩⟩
end L2
namespace L2
variable{nk:Nat}
open PySem PySem.Spec PyProof.Rows
inductive W where
 |non|bl (b:Bool)|int (i:Int)|str (l:List Nat)|tup (ws:List W)|loc (n:Nat)
inductive DK where
 |i (z:Int)|s (l:List Nat)
deriving DecidableEq
def DK.key:DK->uy
 |.i z=>.inl z
 |.s l=>.inr (tx l)
inductive KX where
 |bo (b:Bool)|fl (ks:List Int)|pr (i:Int) (ks:List Int)
deriving DecidableEq
def KX.w:KX->W
 |.bo b=>.bl b
 |.fl ks=>.tup (ks.map W.int)
 |.pr i ks=>.tup [.int i,.tup (ks.map W.int)]
def Fg(ks:List Int):Int:=reduceHash (Builtin.Tuple.tupleHashOf (ks.map hashInt))
def KX.hash:KX->Int
 |.bo b=>hashInt (if b then 1 else 0)
 |.fl ks=>Fg ks
 |.pr i ks=>reduceHash (Builtin.Tuple.tupleHashOf [hashInt i,Fg ks])
inductive ao where
 |lst (ws:List W)
 |ro (ws:List W)
 |exc (c:Str)
 |dct (gk:List (DK×W))
 |tab (P:Addr) (pos:Pos) (q:Str)
 |rod (gk:List (DK×W))
 |dcx (gk:List (KX×W))
 |rox (gk:List (KX×W))
 |obj (c:Str) (fs:List (Str×W))
 |pin (k:Bool) (c:Addr) (o:Obj) (w:W)
 |gone
abbrev mL:Nat:=1000000
theorem og{n:Nat}(h:n<=mL):n<=sizeLine:=aM h (by decide)
theorem Mg{n:Nat}(h:n<=mL):n<sizeLine:=iR h (by decide)
inductive R(α:Type) where
 |ok (a:α) (st:List ao)
 |ex (c:Str) (st:List ao)
 |bad
def R.bind{α β:Type}:R α->(α->List ao->R β)->R β
 |.ok a st,k=>k a st
 |.ex c st,_=>.ex c st
 |.bad,_=>.bad
@[simp] theorem R.bind_ok{α β:Type}(a:α)(st:List ao)(k:α->List ao->R β):(R.ok a st).bind k=k a st:=rfl
@[simp] theorem R.bind_ex{α β:Type}(c:Str)(st:List ao)(k:α->List ao->R β):(R.ex c st:R α).bind k=.ex c st:=rfl
@[simp] theorem R.bind_bad{α β:Type}(k:α->List ao->R β):(R.bad:R α).bind k=.bad:=rfl
abbrev cI:=List (Option W)
inductive RS where
 |nx (ρ:cI) (st:List ao)|rt (w:W) (st:List ao)|bk (ρ:cI) (st:List ao)|ct (ρ:cI) (st:List ao)
 |ex (c:Str) (ρ:cI) (st:List ao)|bad
abbrev FE:=cI->List ao->R W
abbrev FT:=cI->List ao->R Bool
abbrev FA:=cI->List ao->R (List W)
abbrev FS:=cI->List ao->RS
section
variable(K:Frag)
mutual
def bH(μ:List Addr)(H:Hp):W->V->Prop
 |.non,v=>v=.non
 |.bl b,v=>v=.bl b
 |.int i,v=>v=.int i
 |.str l,v=>v=.str (tx l)
 |.tup ws,v=>∃p vs,v=.ref p/\gg K H p vs/\RelWs μ H ws vs
 |.loc n,v=>∃a,μ[n]?=some a/\v=.ref a
def RelWs(μ:List Addr)(H:Hp):List W->List V->Prop
 |[],vs=>vs=[]
 |w::ws,vs=>∃x xs,vs=x::xs/\bH μ H w x/\RelWs μ H ws xs
end
end
theorem pre_get{μ μ':List Addr}(h:μ <+: μ'){n:Nat}{a:Addr}(e:μ[n]?=some a):μ'[n]?=some a:=by
 obtain⟨t,rfl⟩:=h
 rw[aK (ar.mp e).1];exact e
section
variable{K:Frag}{μ μ':List Addr}{H H':Hp}
mutual
theorem bH.mono(h:μ <+: μ')(e:fj K H H'):∀{w:W} {v:V},bH K μ H w v->bH K μ' H' w v
 |.non,_,r=>by unfold bH at r ⊢;exact r
 |.bl _,_,r=>by unfold bH at r ⊢;exact r
 |.int _,_,r=>by unfold bH at r ⊢;exact r
 |.str _,_,r=>by unfold bH at r ⊢;exact r
 |.tup _,_,r=>by unfold bH at r ⊢;obtain⟨p,vs,a,b,c⟩:=r;exact⟨p,vs,a,e _ _ b,RelWs.mono h e c⟩
 |.loc _,_,r=>by unfold bH at r ⊢;obtain⟨a,b,c⟩:=r;exact⟨a,pre_get h b,c⟩
theorem RelWs.mono(h:μ <+: μ')(e:fj K H H'):∀{ws:List W} {vs:List V},RelWs K μ H ws vs->RelWs K μ' H' ws vs
 |[],_,r=>by unfold RelWs at r ⊢;exact r
 |_::_,_,r=>by unfold RelWs at r ⊢;obtain⟨x,xs,a,b,c⟩:=r;exact⟨x,xs,a,bH.mono h e b,RelWs.mono h e c⟩
end
theorem RelWs.nilI:RelWs K μ H [] []:=by unfold RelWs;rfl
theorem RelWs.consI{w:W}{ws:List W}{x:V}{xs:List V}(a:bH K μ H w x)(b:RelWs K μ H ws xs):RelWs K μ H (w::ws) (x::xs):=by unfold RelWs;exact⟨x,xs,rfl,a,b⟩
theorem RelWs.nilE{vs:List V}(h:RelWs K μ H [] vs):vs=[]:=by unfold RelWs at h;exact h
theorem RelWs.consE{w:W}{ws:List W}{vs:List V}(h:RelWs K μ H (w::ws) vs):∃x xs,vs=x::xs/\bH K μ H w x/\RelWs K μ H ws xs:=by unfold RelWs at h;exact h
theorem RelWs.pr:∀{ws:List W} {vs:List V},RelWs K μ H ws vs↔Paired (fun w v=>bH K μ H w v) ws vs
 |[],vs=>⟨fun h=>by rw[h.nilE];exact .nil,fun h=>by cases h;exact .nilI⟩
 |w::ws,vs=>⟨fun h=>by obtain⟨x,xs,rfl,a,b⟩:=h.consE;exact .cons a (RelWs.pr.mp b),fun h=>by cases h with|cons a b=>exact .consI a (RelWs.pr.mpr b)⟩
theorem RelWs.len{ws:List W}{vs:List V}(h:RelWs K μ H ws vs):ws.length=vs.length:=Paired.length (RelWs.pr.mp h)
theorem RelWs.app:∀{as:List W} {xs:List V} {bs:List W} {ys:List V},RelWs K μ H as xs->RelWs K μ H bs ys->RelWs K μ H (as++bs) (xs++ys)
 |[],xs,bs,ys,a,b=>by rw[a.nilE];exact b
 |w::as,xs,bs,ys,a,b=>by obtain⟨x,xs,rfl,c,d⟩:=a.consE;exact .consI c (RelWs.app d b)
theorem RelWs.get:∀{ws:List W} {vs:List V} {i:Nat} {w:W},RelWs K μ H ws vs->ws[i]?=some w->∃v,vs[i]?=some v/\bH K μ H w v
 |[],_,_,_,_,e=>by simp at e
 |x::ws,vs,0,w,h,e=>by obtain⟨y,ys,rfl,a,b⟩:=h.consE;simp at e;subst e;exact⟨y,rfl,a⟩
 |x::ws,vs,i+1,w,h,e=>by obtain⟨y,ys,rfl,a,b⟩:=h.consE;simpa using RelWs.get (i:=i) b (by simpa using e)
theorem RelWs.take:∀{ws:List W} {vs:List V} (n:Nat),RelWs K μ H ws vs->RelWs K μ H (ws.take n) (vs.take n)
 |_,_,0,_=>by simp only[List.take_zero];exact .nilI
 |[],vs,n+1,h=>by rw[h.nilE];exact .nilI
 |x::ws,vs,n+1,h=>by obtain⟨y,ys,rfl,a,b⟩:=h.consE;exact .consI a (RelWs.take n b)
theorem RelWs.drop:∀{ws:List W} {vs:List V} (n:Nat),RelWs K μ H ws vs->RelWs K μ H (ws.drop n) (vs.drop n)
 |_,_,0,h=>h
 |[],vs,n+1,h=>by rw[h.nilE];exact .nilI
 |x::ws,vs,n+1,h=>by obtain⟨y,ys,rfl,a,b⟩:=h.consE;exact RelWs.drop n b
theorem RelWs.setI:∀{ws:List W} {vs:List V} (i:Nat) {w:W} {v:V},bH K μ H w v->RelWs K μ H ws vs->RelWs K μ H (ws.set i w) (vs.set i v)
 |[],vs,_,_,_,_,h=>by rw[h.nilE];exact .nilI
 |x::ws,vs,0,w,v,r,h=>by obtain⟨y,ys,rfl,a,b⟩:=h.consE;exact .consI r b
 |x::ws,vs,i+1,w,v,r,h=>by obtain⟨y,ys,rfl,a,b⟩:=h.consE;exact .consI a (RelWs.setI i r b)
theorem bH.intE{i:Int}{v:V}(h:bH K μ H (.int i) v):v=.int i:=by unfold bH at h;exact h
theorem bH.blE{b:Bool}{v:V}(h:bH K μ H (.bl b) v):v=.bl b:=by unfold bH at h;exact h
theorem bH.nonE{v:V}(h:bH K μ H .non v):v=.non:=by unfold bH at h;exact h
theorem bH.strE{l:List Nat}{v:V}(h:bH K μ H (.str l) v):v=.str (tx l):=by unfold bH at h;exact h
theorem bH.tupE{ws:List W}{v:V}(h:bH K μ H (.tup ws) v):∃p vs,v=.ref p/\gg K H p vs/\RelWs K μ H ws vs:=by unfold bH at h;exact h
theorem bH.locE{n:Nat}{v:V}(h:bH K μ H (.loc n) v):∃a,μ[n]?=some a/\v=.ref a:=by unfold bH at h;exact h
theorem bH.int{i:Int}:bH K μ H (.int i) (.int i):=by unfold bH;rfl
theorem bH.bl{i:Bool}:bH K μ H (.bl i) (.bl i):=by unfold bH;rfl
theorem bH.non:bH K μ H .non .non:=by unfold bH;rfl
theorem bH.str{l:List Nat}:bH K μ H (.str l) (.str (tx l)):=by unfold bH;rfl
theorem bH.tupI{ws:List W}{p:Addr}{vs:List V}(a:gg K H p vs)(b:RelWs K μ H ws vs):bH K μ H (.tup ws) (.ref p):=by unfold bH;exact⟨p,vs,rfl,a,b⟩
theorem bH.locI{n:Nat}{a:Addr}(e:μ[n]?=some a):bH K μ H (.loc n) (.ref a):=by unfold bH;exact⟨a,e,rfl⟩
end
def O1(a:Addr)(C:Value):HO:=.ext fun h=>∃o vs,h.get? a=some o/\o.cls=C/\o.data=.fields vs
def zk(b:Addr)(q:Str):HO:=.ext fun h=>∃o vs t,h.get? b=some o/\o.data=.fields vs/\vs[1]?=some (.str q t)
def Q8(K:Frag)(H:Hp)(a:Addr)(xs:List V):Prop:=
 (∃o,H a=some (.frz o (.lst xs)))\/∃(o:Obj) (bF:Array Value) (n:Nat),K.lookup a=some o/\o.cls=.type "list"/\o.dict=none/\o.data=.seq bF n/\bF.size<=sizeLine/\cG 0 xs bF.toList
theorem Q8.sq{K:Frag}{H:Hp}{a:Addr}{xs:List V}(h:Q8 K H a xs):rW K H a xs:=by
 rcases h with⟨o,h⟩|h
 ·exact .inl (.inr ⟨o,h⟩)
 ·exact .inr h
def ao.isRo:ao->Bool
 |.ro _=>true
 |.gone=>true
 |_=>false
def DX(a:Addr)(es:List DictEntry):Heap->Prop:=fun h=>∃o ep,h.get? a=some o/\o.ExactDict/\o.data=.dict es.toArray ep
abbrev SV(a:Addr)(es:List DictEntry):HO:=.ext (DX a es)
def zm(K:Frag)(μ:List Addr)(H:Hp)(p:KX×W)(e:DictEntry):Prop:=e.hash=p.1.hash/\(∃v,bH K μ H p.1.w v/\c_ 0 v e.key)/\∃v,bH K μ H p.2 v/\c_ 0 v e.val
def R6(a:Addr)(o:Obj):HO:=.ext fun h=>h.get? a=some o
def lD(K:Frag)(mg:Str->Option Value)(μ:List Addr)(H:Hp):ao->Addr->Prop
 |.lst ws,a=>∃vs,H a=some (.lst vs)/\RelWs K μ H ws vs
 |.ro ws,a=>∃vs,Q8 K H a vs/\RelWs K μ H ws vs
 |.exc c,a=>∃C,mg c=some C/\H a=some (O1 a C)
 |.dct gk,a=>∃vs,H a=some (.dK ((gk.map fun p=>p.1.key).zip vs))/\RelWs K μ H (gk.map fun p=>p.2) vs
 |.rod gk,a=>∃vs o,H a=some (.frz o (.dK ((gk.map fun p=>p.1.key).zip vs)))/\RelWs K μ H (gk.map fun p=>p.2) vs
 |.dcx gk,a=>∃es,H a=some (SV a es)/\(a==sysModules)=false/\Paired (zm K μ H) gk es/\(gk.map fun p=>p.1).Nodup
 |.rox gk,a=>∃es o,H a=some (.frz o (SV a es))/\(a==sysModules)=false/\Paired (zm K μ H) gk es/\(gk.map fun p=>p.1).Nodup
 |.obj c fs,a=>∃C dx vs,mg c=some (.ref C)/\H a=some (.ins C dx ((fs.map fun p=>p.1).zip vs))/\RelWs K μ H (fs.map fun p=>p.2) vs
 |.tab P pos q,a=>a=P/\∃ps,H a=some (.tbl ps)/\TriplesOk ps.toList/\(codeAmong pos ps.toList=none\/∃c,codeAmong pos ps.toList=some (.ref c)/\H c=some (zk c q))
 |.pin k c o w,a=>a=c/\H a=some (R6 a o)/\(k=false->∃fd cd,o.data=.func fd/\fd.code=.ref cd/\H cd=some (zk cd fd.qualname))/\∃v,bH K μ H w v/\(k=true->∃u,o.data=.cell (some u)/\c_ 0 v u)
 |.gone,_=>True
structure jw(K:Frag)(mg:Str->Option Value)(μ:List Addr)(st:List ao)(H:Hp):Prop where
 nd:∀(i j:Nat) (a:Addr) (ci cj:ao),st[i]?=some ci->st[j]?=some cj->ci.isRo=false->cj.isRo=false->μ[i]?=some a->μ[j]?=some a->i=j
 len:st.length=μ.length
 at':∀(i:Nat) (c:ao) (a:Addr),st[i]?=some c->μ[i]?=some a->lD K mg μ H c a
section
variable{K:Frag}{mg:Str->Option Value}{μ μ':List Addr}{H H':Hp}{st:List ao}
theorem zm.mono(h:μ <+: μ')(x:fj K H H'){p:KX×W}{e:DictEntry}(r:zm K μ H p e):zm K μ' H' p e:=by
 obtain⟨a,⟨v,b,c⟩,u,d,g⟩:=r
 exact⟨a,⟨v,b.mono h x,c⟩,u,d.mono h x,g⟩
theorem lD.keep(h:μ <+: μ')(x:fj K H H'){c:ao}{a:Addr}(e:∀o,H a=some o->H' a=some o)(e2:∀b q,H b=some (zk b q)->H' b=some (zk b q))(r:lD K mg μ H c a):lD K mg μ' H' c a:=by
 cases c with
 |lst ws=>obtain⟨vs,p,y⟩:=r;exact⟨vs,e _ p,y.mono h x⟩
 |ro ws=>
  obtain⟨vs,p,y⟩:=r
  refine⟨vs,?_,y.mono h x⟩
  rcases p with⟨o,p⟩|p
  ·exact .inl ⟨o,e _ p⟩
  ·exact .inr p
 |exc c=>obtain⟨C,p,y⟩:=r;exact⟨C,p,e _ y⟩
 |dct gk=>obtain⟨vs,p,y⟩:=r;exact⟨vs,e _ p,y.mono h x⟩
 |rod gk=>obtain⟨vs,o,p,y⟩:=r;exact⟨vs,o,e _ p,y.mono h x⟩
 |dcx gk=>obtain⟨es,p,d,y,z⟩:=r;exact⟨es,e _ p,d,Paired.imp' (fun _ _ q=>q.mono h x) y,z⟩
 |rox gk=>obtain⟨es,o,p,d,y,z⟩:=r;exact⟨es,o,e _ p,d,Paired.imp' (fun _ _ q=>q.mono h x) y,z⟩
 |obj c fs=>obtain⟨C,dx,vs,m,p,y⟩:=r;exact⟨C,dx,vs,m,e _ p,y.mono h x⟩
 |tab P pos q=>
  obtain⟨ea,ps,p,t,y⟩:=r
  refine⟨ea,ps,e _ p,t,?_⟩
  rcases y with y|⟨c,y,z⟩
  ·exact .inl y
  ·exact .inr ⟨c,y,e2 _ _ z⟩
 |pin k c o w=>obtain⟨ea,p,g,v,y,z⟩:=r;exact⟨ea,e _ p,fun q=>let ⟨fd,cd,q1,q2,q3⟩:=g q;⟨fd,cd,q1,q2,e2 _ _ q3⟩,v,y.mono h x,z⟩
 |gone=>trivial
theorem lD.ro_ne{c:ao}{a:Addr}(r:lD K mg μ H c a)(h:c.isRo=false):∃o,H a=some o:=by
 cases c with
 |lst ws=>obtain⟨vs,p,y⟩:=r;exact⟨_,p⟩
 |ro ws=>cases h
 |exc c=>obtain⟨C,p,y⟩:=r;exact⟨_,y⟩
 |dct gk=>obtain⟨vs,p,y⟩:=r;exact⟨_,p⟩
 |rod gk=>obtain⟨vs,o,p,y⟩:=r;exact⟨_,p⟩
 |dcx gk=>obtain⟨es,p,_⟩:=r;exact⟨_,p⟩
 |rox gk=>obtain⟨es,o,p,_⟩:=r;exact⟨_,p⟩
 |obj c fs=>obtain⟨C,dx,vs,m,p,y⟩:=r;exact⟨_,p⟩
 |tab P pos q=>obtain⟨_,ps,p,_⟩:=r;exact⟨_,p⟩
 |pin k c o w=>obtain⟨_,p,_⟩:=r;exact⟨_,p⟩
 |gone=>cases h
theorem jw.same(S:jw K mg μ st H)(e:uE H H'):jw K mg μ st H':=⟨S.nd,S.len,fun i c a h1 h2=>(S.at' i c a h1 h2).keep (am _) (gg.same e) (e a) fun b q h=>e b _ h⟩
theorem jw.get(S:jw K mg μ st H){n:Nat}{c:ao}(h:st[n]?=some c):∃a,μ[n]?=some a/\lD K mg μ H c a:=by
 have hn:n<μ.length:=by rw[<- S.len];exact(ar.mp h).1
 exact⟨μ[n],aj hn,S.at' n c _ h (aj hn)⟩
theorem jw.push(S:jw K mg μ st H){p:Addr}{o:HO}{c:ao}(hp:H p=none)(hc:lD K mg (μ++[p]) (gf H p o) c p):jw K mg (μ++[p]) (st++[c]) (gf H p o):=by
 have hs:uE H (gf H p o):=du hp o
 have AM:μ <+: μ++[p]:=a9 _ _
 have old:∀{i:Nat} {d:ao} {a:Addr},i<st.length->(st++[c])[i]?=some d->(μ++[p])[i]?=some a->st[i]?=some d/\μ[i]?=some a:=fun{i d a} hi h1 h2=>by
  rw[aK hi]at h1
  rw[aK (by rw[<- S.len];exact hi)]at h2
  exact⟨h1,h2⟩
 have new:∀{i:Nat} {d:ao} {a:Addr},¬ i<st.length->(st++[c])[i]?=some d->(μ++[p])[i]?=some a->i=st.length/\d=c/\a=p:=fun{i d a} hi h1 h2=>by
  have hi':i=st.length:=by
   have:=(ar.mp h1).1
   simp at this;omega
  subst hi'
  simp at h1
  rw[S.len,aW (az _)]at h2
  simp at h2
  exact⟨rfl,h1.symm,h2.symm⟩
 refine⟨fun i j a ci cj h1 h2 r1 r2 m1 m2=>?_,by simp[S.len],fun i d a h1 h2=>?_⟩
 ·by_cases hi:i<st.length
  ·obtain⟨x1,x2⟩:=old hi h1 m1
   by_cases hj:j<st.length
   ·obtain⟨y1,y2⟩:=old hj h2 m2
    exact S.nd i j a ci cj x1 y1 r1 r2 x2 y2
   ·obtain⟨_,_,rfl⟩:=new hj h2 m2
    obtain⟨o',z⟩:=(S.at' i ci a x1 x2).ro_ne r1
    rw[hp]at z;cases z
  ·obtain⟨e1,_,rfl⟩:=new hi h1 m1
   by_cases hj:j<st.length
   ·obtain⟨y1,y2⟩:=old hj h2 m2
    obtain⟨o',z⟩:=(S.at' j cj a y1 y2).ro_ne r2
    rw[hp]at z;cases z
   ·obtain⟨e2,_,_⟩:=new hj h2 m2
    omega
 ·by_cases hi:i<st.length
  ·obtain⟨x1,x2⟩:=old hi h1 h2
   exact(S.at' i d a x1 x2).keep AM (gg.same hs) (hs a) fun b q h=>hs b _ h
  ·obtain⟨_,rfl,rfl⟩:=new hi h1 h2
   exact hc
theorem jw.setG(S:jw K mg μ st H){n:Nat}{a:Addr}{c c':ao}{o o':HO}(hn:st[n]?=some c)(AS:c.isRo=false)(hm:μ[n]?=some a)(ha:H a=some o)(hf:∀q u,o≠.frz q u)(hg:∀q,o≠zk a q)(hx:fj K H (gf H a o'))(TF:c'.isRo=false)(hr:lD K mg μ (gf H a o') c' a):jw K mg μ (st.set n c') (gf H a o'):=by
 have hl:n<st.length:=(ar.mp hn).1
 have back:∀{i:Nat} {d:ao},(st.set n c')[i]?=some d->∃d',st[i]?=some d'/\(d'=d\/(i=n/\d=c')):=fun{i d} h=>by
  by_cases e:i=n
  ·subst e
   rw[cb hl]at h
   exact⟨_,hn,.inr ⟨rfl,(bx h).symm⟩⟩
  ·rw[cN (Ne.symm e)]at h
   exact⟨d,h,.inl rfl⟩
 refine⟨fun i j b ci cj h1 h2 r1 r2 m1 m2=>?_,by simp[S.len],fun i d b h1 h2=>?_⟩
 ·obtain⟨di,x1,y1⟩:=back h1
  obtain⟨dj,x2,y2⟩:=back h2
  refine S.nd i j b di dj x1 x2 ?_ ?_ m1 m2
  ·rcases y1 with rfl|⟨rfl,rfl⟩
   ·exact r1
   ·rw[hn]at x1;cases x1;exact AS
  ·rcases y2 with rfl|⟨rfl,rfl⟩
   ·exact r2
   ·rw[hn]at x2;cases x2;exact AS
 ·by_cases e:i=n
  ·subst e
   rw[cb hl]at h1
   cases h1
   rw[hm]at h2;cases h2
   exact hr
  ·rw[cN (Ne.symm e)]at h1
   have r:=S.at' i d b h1 h2
   by_cases hrd:d.isRo=true
   ·cases d with
    |ro zs=>
     obtain⟨us,p,q⟩:=r
     refine⟨us,?_,q.mono (am _) hx⟩
     rcases p with⟨o2,p⟩|p
     ·exact .inl ⟨o2,by rw[cZ (by rintro rfl;rw[ha]at p;cases p;exact hf _ _ rfl)];exact p⟩
     ·exact .inr p
    |lst _=>cases hrd
    |exc _=>cases hrd
    |dct _=>cases hrd
    |rod _=>cases hrd
    |dcx _=>cases hrd
    |rox _=>cases hrd
    |obj _ _=>cases hrd
    |tab _ _ _=>cases hrd
    |pin _ _ _ _=>cases hrd
    |gone=>trivial
   ·refine r.keep (am _) hx (fun o ho=>?_) fun b' q h=>by rw[cZ (by rintro rfl;rw[ha]at h;cases h;exact hg _ rfl)];exact h
    have hb:b≠a:=by
     rintro rfl
     exact e (S.nd i n b d _ h1 hn (by simpa using hrd) AS h2 hm)
    rw[cZ hb];exact ho
theorem jw.set(S:jw K mg μ st H){n:Nat}{a:Addr}{ws QQ:List W}{vs Cw:List V}(hn:st[n]?=some (.lst ws))(hm:μ[n]?=some a)(ha:H a=some (.lst vs))(hr:RelWs K μ H QQ Cw):jw K mg μ (st.set n (.lst QQ)) (gf H a (.lst Cw)):=by
 have hx:fj K H (gf H a (.lst Cw)):=gg.but lq ha
 have hl:n<st.length:=(ar.mp hn).1
 have back:∀{i:Nat} {d:ao},(st.set n (.lst QQ))[i]?=some d->∃d',st[i]?=some d'/\(d'=d\/(i=n/\d=.lst QQ)):=fun{i d} h=>by
  by_cases e:i=n
  ·subst e
   rw[cb hl]at h
   exact⟨_,hn,.inr ⟨rfl,(bx h).symm⟩⟩
  ·rw[cN (Ne.symm e)]at h
   exact⟨d,h,.inl rfl⟩
 refine⟨fun i j b ci cj h1 h2 r1 r2 m1 m2=>?_,by simp[S.len],fun i d b h1 h2=>?_⟩
 ·obtain⟨di,x1,y1⟩:=back h1
  obtain⟨dj,x2,y2⟩:=back h2
  refine S.nd i j b di dj x1 x2 ?_ ?_ m1 m2
  ·rcases y1 with rfl|⟨rfl,rfl⟩
   ·exact r1
   ·rw[hn]at x1;cases x1;rfl
  ·rcases y2 with rfl|⟨rfl,rfl⟩
   ·exact r2
   ·rw[hn]at x2;cases x2;rfl
 ·by_cases e:i=n
  ·subst e
   rw[cb hl]at h1
   cases h1
   rw[hm]at h2;cases h2
   exact⟨Cw,iA,hr.mono (am _) hx⟩
  ·rw[cN (Ne.symm e)]at h1
   have r:=S.at' i d b h1 h2
   by_cases AS:d.isRo=true
   ·cases d with
    |ro zs=>
     obtain⟨us,p,q⟩:=r
     refine⟨us,?_,q.mono (am _) hx⟩
     rcases p with⟨o',p⟩|p
     ·exact .inl ⟨o',by rw[cZ (by rintro rfl;rw[ha]at p;cases p)];exact p⟩
     ·exact .inr p
    |lst _=>cases AS
    |exc _=>cases AS
    |dct _=>cases AS
    |rod _=>cases AS
    |dcx _=>cases AS
    |rox _=>cases AS
    |obj _ _=>cases AS
    |tab _ _ _=>cases AS
    |pin _ _ _ _=>cases AS
    |gone=>trivial
   ·refine r.keep (am _) hx (fun o ho=>?_) fun b' q h=>by rw[cZ (by rintro rfl;rw[ha]at h;cases h)];exact h
    have hb:b≠a:=by
     rintro rfl
     exact e (S.nd i n b d _ h1 hn (by simpa using AS) rfl h2 hm)
    rw[cZ hb];exact ho
end
end L2
namespace L2
variable{nk:Nat}
open PySem PySem.Spec PyProof.Rows
structure Rl(X:Cx)(μ:List Addr)(ρ:cI)(st:List ao)(σ:St)(H:Hp):Prop where
 env:Paired (fun(o:Option W) (s:Option V)=>∀w,o=some w->∃v,s=some v/\bH X.K μ H w v) ρ σ
 sto:jw X.K X.mg μ st H
theorem wJ{K:Frag}{μ μ':List Addr}{H H':Hp}(h:μ <+: μ')(x:fj K H H'):∀{ρ:cI} {σ:St},Paired (fun(o:Option W) (s:Option V)=>∀w,o=some w->∃v,s=some v/\bH K μ H w v) ρ σ ->
  Paired (fun(o:Option W) (s:Option V)=>∀w,o=some w->∃v,s=some v/\bH K μ' H' w v) ρ σ
 |_,_,.nil=>.nil
 |_,_,.cons a t=>.cons (fun w e=>let ⟨v,p,q⟩:=a w e;⟨v,p,q.mono h x⟩) (wJ h x t)
theorem Rl.to{X:Cx}{μ μ':List Addr}{ρ:cI}{st bh:List ao}{σ:St}{H H':Hp}(r:Rl X μ ρ st σ H)(h:μ <+: μ')(x:fj X.K H H')(s:jw X.K X.mg μ' bh H'):Rl X μ' ρ bh σ H':=⟨wJ h x r.env,s⟩
theorem uQ{K:Frag}{μ:List Addr}{H:Hp}:∀{ρ:cI} {σ:St} {i:Nat} {w:W},Paired (fun(o:Option W) (s:Option V)=>∀w,o=some w->∃v,s=some v/\bH K μ H w v) ρ σ->ρ[i]?=some (some w)->∃v,σ[i]?=some (some v)/\bH K μ H w v
 |_,_,_,_,.nil,e=>by simp at e
 |_,_,0,w,.cons a t,e=>by simp at e;obtain⟨v,p,q⟩:=a w e;exact⟨v,by simp[p],q⟩
 |_,_,i+1,w,.cons a t,e=>by simpa using uQ (i:=i) t (by simpa using e)
theorem uR{K:Frag}{μ:List Addr}{H:Hp}{w:W}{v:V}(r:bH K μ H w v):∀{ρ:cI} {σ:St} (i:Nat),Paired (fun(o:Option W) (s:Option V)=>∀w,o=some w->∃v,s=some v/\bH K μ H w v) ρ σ ->
  Paired (fun(o:Option W) (s:Option V)=>∀w,o=some w->∃v,s=some v/\bH K μ H w v) (ρ.set i (some w)) (σ.set i (some v))
 |_,_,_,.nil=>.nil
 |_,_,0,.cons a t=>.cons (fun w' e=>⟨v,rfl,by cases e;exact r⟩) t
 |_,_,i+1,.cons a t=>.cons a (uR r i t)
structure wK(X:Cx)(al:List (Addr×Obj))(σ:St)(c:Str)(H:Hp)(e:Value)(s:Shared):Prop where
 inv:bU X al σ H s
 ex:∃x C t B,e=.ref x/\X.mg c=some C/\H x=none/\B.StaysIn s.heap/\B.get? x=none/\s.heap.FunFrames B X.stack /\
  (s.heap.TracedW B x C (.ref t)\/(∃oe vs,s.heap.get? x=some oe/\oe.cls=C/\oe.dict=none/\oe.data=.fields vs/\vs[1]?=some .none/\vs[0]?=some (.ref t))\/∃L,X.env.frame=some L/\s.heap.TracedAtW B x C (.ref t) (rawInt L)) /\
  ∀b o,s.heap.get? b=some o->(H b≠none\/((∃o0,X.s₀.heap.get? b=some o0)/\b∉X.fs/\b∉X.ex)\/((∃y,X.env.cells.lookup y=some b)/\b∉uf X.stack)\/∃p∈X.pn++al,p.1=b)->B.get? b=some o
def XS(X:Cx)(c:Str)(μ:List Addr)(ρ:cI)(st:List ao)(H:Hp):Prop:=
 ∀al μ' σ' H' e s',μ <+: μ'->fj X.K H H'->Rl X μ' ρ st σ' H'->wK X al σ' c H' e s'->X.xe e s'
def XE(X:Cx)(c:Str)(μ:List Addr)(st:List ao)(σ:St)(H:Hp):Prop:=
 ∀al μ' H' e s',μ <+: μ'->fj X.K H H'->jw X.K X.mg μ' st H'->wK X al σ c H' e s'->X.xe e s'
theorem XE.mono{X:Cx}{c:Str}{μ μ1:List Addr}{st:List ao}{σ:St}{H H1:Hp}(h:XE X c μ st σ H)(p:μ <+: μ1)(x:fj X.K H H1):XE X c μ1 st σ H1:=fun al μ' H' e s' a b=>h al μ' H' e s' (p.trans a) (x.trans b)
theorem XS.mono{X:Cx}{c:Str}{μ μ1:List Addr}{ρ:cI}{st:List ao}{H H1:Hp}(h:XS X c μ ρ st H)(p:μ <+: μ1)(x:fj X.K H H1):XS X c μ1 ρ st H1:=fun al μ' σ' H' e s' a b=>h al μ' σ' H' e s' (p.trans a) (x.trans b)
theorem XS.toE{X:Cx}{c:Str}{μ:List Addr}{ρ:cI}{Rs st:List ao}{σ:St}{H:Hp}(h:XS X c μ ρ st H)(r:Rl X μ ρ Rs σ H):XE X c μ st σ H:=fun al μ' H' e s' a b s f=>h al μ' σ H' e s' a b (r.to a b s) f
def RK{α β:Type}(X:Cx)(rel:List Addr->Hp->α->β->Prop)(μ:List Addr)(σ:St)(H:Hp)(Q:β->Hp->Prop):R α->Prop
 |.ok a bh=>∀μ' b H',μ <+: μ'->fj X.K H H'->jw X.K X.mg μ' bh H'->rel μ' H' a b->Q b H'
 |.ex c bh=>XE X c μ bh σ H
 |.bad=>False
theorem RK.mono{α β:Type}{X:Cx}{rel:List Addr->Hp->α->β->Prop}{μ μ1:List Addr}{σ:St}{H H1:Hp}{Q:β->Hp->Prop}{r:R α}(h:RK X rel μ σ H Q r)(p:μ <+: μ1)(x:fj X.K H H1):RK X rel μ1 σ H1 Q r:=by
 cases r with
 |ok a st=>exact fun μ' b H' a1 b1=>h μ' b H' (p.trans a1) (x.trans b1)
 |ex c st=>exact XE.mono h p x
 |bad=>exact h
def tG{α β:Type}(X:Cx)(rel:List Addr->Hp->α->β->Prop)(f:cI->List ao->R α)(σ:St)(H:Hp)(Q:β->Hp->Prop):Prop:=
 ∃μ ρ st,Rl X μ ρ st σ H/\RK X rel μ σ H Q (f ρ st)
abbrev r_(X:Cx):List Addr->Hp->W->V->Prop:=fun μ H w v=>bH X.K μ H w v
abbrev R7(X:Cx):List Addr->Hp->List W->List V->Prop:=fun μ H w v=>RelWs X.K μ H w v
abbrev Mh:List Addr->Hp->Bool->Bool->Prop:=fun _ _ a b=>a=b
abbrev tE(X:Cx)(f:FE):TE:=tG X (r_ X) f
abbrev tT(X:Cx)(f:FT):TT:=tG X Mh f
abbrev O6(X:Cx)(f:FA):TA:=tG X (R7 X) f
theorem RK.bind{α β α' β':Type}{X:Cx}{rel:List Addr->Hp->α->β->Prop}{QJ:List Addr->Hp->α'->β'->Prop}{μ:List Addr}{ρ:cI}{st:List ao}{σ:St}{H:Hp}{r:R α}{k:α->List ao->R α'}{Q:β'->Hp->Prop}{T:β->Hp->Prop}
  (h:RK X QJ μ σ H Q (r.bind k)) (l:Rl X μ ρ st σ H)
  (hk:∀μ' bh x v H',μ <+: μ'->fj X.K H H'->Rl X μ' ρ bh σ H'->rel μ' H' x v->RK X QJ μ' σ H' Q (k x bh)->T v H'):RK X rel μ σ H T r:=by
 cases r with
 |ok a bh=>exact fun μ' b H' p x s q=>hk μ' bh a b H' p x (l.to p x s) q (RK.mono h p x)
 |ex c bh=>exact h
 |bad=>exact h
def SK(X:Cx)(μ:List Addr)(H:Hp)(D:xr):RS->Prop
 |.nx ρ st=>∀μ' σ' H',μ <+: μ'->fj X.K H H'->Rl X μ' ρ st σ' H'->D.nx σ' H'
 |.bk ρ st=>∀μ' σ' H',μ <+: μ'->fj X.K H H'->Rl X μ' ρ st σ' H'->D.bk σ' H'
 |.ct ρ st=>∀μ' σ' H',μ <+: μ'->fj X.K H H'->Rl X μ' ρ st σ' H'->D.ct σ' H'
 |.rt w st=>∀μ' v H',μ <+: μ'->fj X.K H H'->jw X.K X.mg μ' st H'->bH X.K μ' H' w v->D.rt v H'
 |.ex c ρ st=>XS X c μ ρ st H
 |.bad=>False
theorem SK.mono{X:Cx}{μ μ1:List Addr}{H H1:Hp}{D:xr}{r:RS}(h:SK X μ H D r)(p:μ <+: μ1)(x:fj X.K H H1):SK X μ1 H1 D r:=by
 cases r with
 |nx ρ st=>exact fun μ' b H' a1 b1=>h μ' b H' (p.trans a1) (x.trans b1)
 |bk ρ st=>exact fun μ' b H' a1 b1=>h μ' b H' (p.trans a1) (x.trans b1)
 |ct ρ st=>exact fun μ' b H' a1 b1=>h μ' b H' (p.trans a1) (x.trans b1)
 |rt w st=>exact fun μ' b H' a1 b1=>h μ' b H' (p.trans a1) (x.trans b1)
 |ex c ρ st=>exact XS.mono h p x
 |bad=>exact h
def Q9(X:Cx)(g:FS):TS:=fun D σ H=>∃μ ρ st,Rl X μ ρ st σ H/\SK X μ H D (g ρ st)
structure SE(X:Cx)(e:Expr)(f:FE):Prop where
 h:PE X e (tE X f)
structure ST(X:Cx)(e:Expr)(f:FT):Prop where
 h:PT X e (tT X f)
structure SW(X:Cx)(e:Expr)(f:FT):Prop where
 h:PW X e (tT X f)
structure SA(X:Cx)(es:List Expr)(f:FA):Prop where
 h:PA X es (O6 X f)
structure SS(X:Cx)(s:Stmt)(g:FS):Prop where
 h:PS X s (Q9 X g)
structure SB(X:Cx)(s:List Stmt)(g:FS):Prop where
 h:Dq X s (Q9 X g)
theorem PE.imp{X:Cx}{e:Expr}{t t':TE}(h:PE X e t)(i:∀σ H Q,t' σ H Q->t σ H Q):PE X e t':=fun al s σ H Q I q=>h al s σ H Q I (i _ _ _ q)
theorem PT.imp{X:Cx}{e:Expr}{t t':TT}(h:PT X e t)(i:∀σ H Q,t' σ H Q->t σ H Q):PT X e t':=fun al s σ H Q I q=>h al s σ H Q I (i _ _ _ q)
theorem PW.imp{X:Cx}{e:Expr}{t t':TT}(h:PW X e t)(i:∀σ H Q,t' σ H Q->t σ H Q):PW X e t':=fun wh al s σ H Q I q=>h wh al s σ H Q I (i _ _ _ q)
theorem PA.imp{X:Cx}{e:List Expr}{t t':TA}(h:PA X e t)(i:∀σ H Q,t' σ H Q->t σ H Q):PA X e t':=fun pos al s σ H Q I q=>h pos al s σ H Q I (i _ _ _ q)
theorem PS.imp{X:Cx}{e:Stmt}{t t':TS}(h:PS X e t)(i:∀D σ H,t' D σ H->t D σ H):PS X e t':=fun al s σ H D I q=>h al s σ H D I (i _ _ _ q)
theorem Dq.imp{X:Cx}{e:List Stmt}{t t':TS}(h:Dq X e t)(i:∀D σ H,t' D σ H->t D σ H):Dq X e t':=fun al s σ H D I q=>h al s σ H D I (i _ _ _ q)
section
variable{X:Cx}{a b c e o:Expr}{es:List Expr}{pos p p2 f9 d_:Pos}{x name:Str}{j:Nat}{gn:List Expr}{fa fb fc fe:FE}{ft fu:FT}{fs:FA}
def ag(i:Nat):FE:=fun ρ st=>match ρ[i]? with
 |some (some w)=>.ok w st
 |_=>.bad
theorem ae(i:Nat){x:Str}{pos:Pos}(hN:X.N[i]?=some x:=by rfl)(hv:Od X.env.scope x:=by first|exact Or.inl rfl|exact Or.inr (Or.inl rfl)|exact Or.inr (Or.inr rfl))(hd:(x==("__debug__":Str))=false:=by decide)
  (Eu:(x==("__classdict__":Str))=false:=by decide):SE X (.Name x pos) (ag i):=⟨(pv i hN hv hd Eu).imp fun σ H Q h=>by
 obtain⟨μ,ρ,st,r,h⟩:=h
 unfold ag at h
 cases e:ρ[i]? with
 |none=>rw[e]at h;exact h.elim
 |some ow=>
  cases ow with
  |none=>rw[e]at h;exact h.elim
  |some w=>
   rw[e]at h
   obtain⟨v,e1,e2⟩:=uQ r.env e
   exact⟨v,e1,h μ v H (am _) fj.refl r.sto e2⟩⟩
def eC(w:W):FE:=fun _ st=>.ok w st
abbrev eI(n:Int):FE:=eC (.int n)
theorem O7{w:W}{v:V}(hc:PE X e (tC v))(hr:∀μ H,bH X.K μ H w v):SE X e (eC w):=⟨hc.imp fun σ H Q h=>by
 obtain⟨μ,ρ,st,r,h⟩:=h
 exact h μ v H (am _) fj.refl r.sto (hr _ _)⟩
theorem aA{i:Int}:SE X (.Constant (.int i) j pos) (eC (.int i)):=O7 Ll fun _ _=>.int
theorem vV{k:Bool}:SE X (.Constant (.bool k) j pos) (eC (.bl k)):=O7 Of fun _ _=>.bl
theorem pI:SE X (.Constant .none j pos) (eC .non):=O7 Lm fun _ _=>.non
theorem fQ{l:List Nat}(h:x=tx l:=by decide +kernel):SE X (.Constant (.str x) j pos) (eC (.str l)):=O7 Ln fun _ _=>by rw[h];exact .str
theorem R8{w:W}(h:∃u v,X.mg x=some u/\c_ 0 v u/\∀μ H,bH X.K μ H w v)(hg:Gl X x:=by rfl)(hd:(x==("__debug__":Str))=false:=by decide):SE X (.Name x pos) (eC w):=by
 obtain⟨u,v,a,b,c⟩:=h
 exact O7 (OP ⟨u,a,b⟩ hg hd) c
def e2(f:W->W->List ao->R W)(fa fb:FE):FE:=fun ρ st=>(fa ρ st).bind fun x st=>(fb ρ st).bind fun y st=>f x y st
def Ev(X:Cx)(μ:List Addr)(H:Hp)(Q:VK):R W->Prop
 |.ok w bh=>∀μ' v H',μ <+: μ'->fj X.K H H'->jw X.K X.mg μ' bh H'->bH X.K μ' H' w v->Q v H'
 |_=>False
def tW{α:Type}:R α->Prop
 |.ex _ _=>False
 |_=>True
def R9(X:Cx)(f:W->W->List ao->R W):R2:=fun x y H Q=>∃μ st wx wy,jw X.K X.mg μ st H/\bH X.K μ H wx x/\bH X.K μ H wy y/\Ev X μ H Q (f wx wy st)
structure vW(X:Cx)(g:Value->Value->Sem Value)(f:W->W->List ao->R W):Prop where
 h:n9 X g (R9 X f)
 n:∀x y st,tW (f x y st)
theorem se{μ:List Addr}{σ:St}{H:Hp}{Q:VK}{r:R W}(h:RK X (r_ X) μ σ H Q r)(n:tW r):Ev X μ H Q r:=by
 cases r with
 |ok a st=>exact h
 |ex c st=>exact n.elim
 |bad=>exact h
theorem CO{f:W->W->List ao->R W}{σ:St}{H:Hp}{Q:VK}(n:∀x y st,tW (f x y st))(h:tE X (e2 f fa fb) σ H Q):Ot (R9 X f) (tE X fa) (tE X fb) σ H Q:=by
 obtain⟨μ,ρ,st,l,h⟩:=h
 refine⟨μ,ρ,st,l,RK.bind h l fun μ1 st1 x v H1 p1 x1 l1 q1 h1=>⟨μ1,ρ,st1,l1,RK.bind h1 l1 fun μ2 cX y u H2 p2 x2 l2 q2 h2=>?_⟩⟩
 exact⟨μ2,cX,x,y,l2.sto,q1.mono p2 x2,q2,se h2 (n _ _ _)⟩
theorem bD{op:Operator}{f:W->W->List ao->R W}(ho:vW X (binaryOp op) f)(ha:SE X a fa)(hb:SE X b fb):SE X (.BinOp a op b pos) (e2 f fa fb):=⟨(Ou ho.h ha.h hb.h).imp fun _ _ _ h=>CO ho.n h⟩
theorem qE{op:CmpOp}{f:W->W->List ao->R W}(ho:vW X (compareOp op) f)(ha:SE X a fa)(hb:SE X b fb)(hm:behindInMarks op b=false:=by first|exact EQ _|rfl):SE X (.Compare a [op] [b] pos) (e2 f fa fb):=⟨(Iv ho.h ha.h hb.h hm).imp fun _ _ _ h=>CO ho.n h⟩
def ef(fa:FE):FT:=fun ρ st=>(fa ρ st).bind fun x st=>match x with
 |.bl k=>.ok k st
 |_=>.bad
theorem qF{σ:St}{H:Hp}{Q:Bool->Hp->Prop}(h:tT X (ef fa) σ H Q):tE X fa σ H fun x H1=>∃k,x=.bl k/\Q k H1:=by
 obtain⟨μ,ρ,st,l,h⟩:=h
 refine⟨μ,ρ,st,l,RK.bind h l fun μ1 st1 x v H1 p1 x1 l1 q1 h1=>?_⟩
 cases x with
 |bl k=>exact⟨k,q1.blE,h1 μ1 k H1 (am _) fj.refl l1.sto rfl⟩
 |_=>exact h1.elim
theorem ca{op:CmpOp}{f:W->W->List ao->R W}(ho:vW X (compareOp op) f)(ha:SE X a fa)(hb:SE X b fb)(hm:behindInMarks op b=false:=by first|exact EQ _|rfl):ST X (.Compare a [op] [b] pos) (ef (e2 f fa fb)):=⟨(Iw ho.h ha.h hb.h hm).imp fun σ H Q h=>by
 have h':tE X (e2 f fa fb) σ H fun x H1=>∃k,x=.bl k/\Q k H1:=qF h
 exact CO ho.n h'⟩
theorem jx(h:SE X e fe)(he:∀whole,isTrue e X.env whole=(do let v <- whole;standAt e.pos;holding [v] (truthy v)):=by intro _;rfl):ST X e (ef fe):=⟨(Lp h.h he).imp fun σ H Q h=>qF h⟩
def HW(t u:FT):FT:=fun ρ st=>(t ρ st).bind fun k st=>if k then u ρ st else .ok false st
def Ew(t u:FT):FT:=fun ρ st=>(t ρ st).bind fun k st=>if k then .ok true st else u ρ st
def DR(t:FT):FT:=fun ρ st=>(t ρ st).bind fun k st=>.ok (!k) st
theorem xI(ha:ST X a ft):SW X (.BoolOp .And [a] pos) ft:=⟨Ii ha.h⟩
theorem xJ(ha:ST X a ft):SW X (.BoolOp .Or [a] pos) ft:=⟨Lq ha.h⟩
theorem Bq(ha:ST X a ft)(hb:SW X (.BoolOp .And (b::gn) pos) fu):SW X (.BoolOp .And (a::b::gn) pos) (HW ft fu):=⟨(Lr ha.h hb.h).imp fun σ H Q h=>by
 obtain⟨μ,ρ,st,l,h⟩:=h
 refine⟨μ,ρ,st,l,RK.bind h l fun μ1 st1 x v H1 p1 x1 l1 q1 h1=>?_⟩
 cases q1
 cases x with
 |true=>exact⟨μ1,ρ,st1,l1,h1⟩
 |false=>exact h1 μ1 false H1 (am _) fj.refl l1.sto rfl⟩
theorem CP(ha:ST X a ft)(hb:SW X (.BoolOp .Or (b::gn) pos) fu):SW X (.BoolOp .Or (a::b::gn) pos) (Ew ft fu):=⟨(Oh ha.h hb.h).imp fun σ H Q h=>by
 obtain⟨μ,ρ,st,l,h⟩:=h
 refine⟨μ,ρ,st,l,RK.bind h l fun μ1 st1 x v H1 p1 x1 l1 q1 h1=>?_⟩
 cases q1
 cases x with
 |false=>exact⟨μ1,ρ,st1,l1,h1⟩
 |true=>exact h1 μ1 true H1 (am _) fj.refl l1.sto rfl⟩
theorem Br(h:SW X e ft):ST X e ft:=⟨h.h.pt⟩
theorem p_(ha:ST X a ft):ST X (.UnaryOp .Not a pos) (DR ft):=⟨(Ls ha.h).imp fun σ H Q h=>by
 obtain⟨μ,ρ,st,l,h⟩:=h
 refine⟨μ,ρ,st,l,RK.bind h l fun μ1 st1 x v H1 p1 x1 l1 q1 h1=>?_⟩
 cases q1
 exact h1 μ1 _ H1 (am _) fj.refl l1.sto rfl⟩
def Bs(fa fb:FE):FE:=fun ρ st=>(fa ρ st).bind fun x st=>match x with
 |.bl true=>fb ρ st
 |.bl false=>.ok (.bl false) st
 |_=>.bad
def IY(fa:FE):FE:=fun ρ st=>(fa ρ st).bind fun x st=>match x with
 |.bl k=>.ok (.bl (!k)) st
 |_=>.bad
theorem Fh{op:BoolOp}(h:SE X a fa):SE X (.BoolOp op [a] pos) fa:=⟨Lu h.h⟩
theorem CQ(ha:SE X a fa)(hb:SE X (.BoolOp .And (b::gn) pos) fb):SE X (.BoolOp .And (a::b::gn) pos) (Bs fa fb):=⟨(Lw ha.h hb.h).imp fun σ H Q h=>by
 obtain⟨μ,ρ,st,l,h⟩:=h
 refine⟨μ,ρ,st,l,RK.bind h l fun μ1 st1 x v H1 p1 x1 l1 q1 h1=>?_⟩
 cases x with
 |bl k=>
  refine⟨k,q1.blE,?_⟩
  cases k with
  |true=>exact⟨μ1,ρ,st1,l1,h1⟩
  |false=>exact h1 μ1 _ H1 (am _) fj.refl l1.sto .bl
 |_=>exact h1.elim⟩
theorem O8(ha:SE X a fa):SE X (.UnaryOp .Not a pos) (IY fa):=⟨(Lx ha.h).imp fun σ H Q h=>by
 obtain⟨μ,ρ,st,l,h⟩:=h
 refine⟨μ,ρ,st,l,RK.bind h l fun μ1 st1 x v H1 p1 x1 l1 q1 h1=>?_⟩
 cases x with
 |bl k=>exact⟨k,q1.blE,h1 μ1 _ H1 (am _) fj.refl l1.sto .bl⟩
 |_=>exact h1.elim⟩
def Ex(t:FT)(fa fb:FE):FE:=fun ρ st=>(t ρ st).bind fun k st=>if k then fa ρ st else fb ρ st
theorem Bt(hc:ST X c ft)(ha:SE X a fa)(hb:SE X b fb):SE X (.IfExp c a b pos) (Ex ft fa fb):=⟨(EE hc.h ha.h hb.h).imp fun σ H Q h=>by
 obtain⟨μ,ρ,st,l,h⟩:=h
 refine⟨μ,ρ,st,l,RK.bind h l fun μ1 st1 x v H1 p1 x1 l1 q1 h1=>?_⟩
 cases q1
 cases x with
 |false=>exact⟨μ1,ρ,st1,l1,h1⟩
 |true=>exact⟨μ1,ρ,st1,l1,h1⟩⟩
def W.isNon:W->Bool
 |.non=>true
 |_=>false
def xK(fa:FE):FE:=fun ρ st=>(fa ρ st).bind fun x st=>.ok (.bl x.isNon) st
def gA(fa:FE):FE:=fun ρ st=>(fa ρ st).bind fun x st=>.ok (.bl (!x.isNon)) st
theorem J4{μ:List Addr}{H:Hp}{w:W}{v:V}(r:bH X.K μ H w v):decide (v=.non)=w.isNon:=by
 cases w with
 |non=>rw[r.nonE];rfl
 |bl b=>rw[r.blE];rfl
 |int b=>rw[r.intE];rfl
 |str b=>rw[r.strE];rfl
 |tup b=>obtain⟨p,vs,rfl,_⟩:=r.tupE;rfl
 |loc b=>obtain⟨p,_,rfl⟩:=r.locE;rfl
theorem J5{σ:St}{H:Hp}{Q:VK}(h:tE X (xK fa) σ H Q):Og (tE X fa) σ H Q:=by
 obtain⟨μ,ρ,st,l,h⟩:=h
 refine⟨μ,ρ,st,l,RK.bind h l fun μ1 st1 x v H1 p1 x1 l1 q1 h1=>?_⟩
 show Q (.bl (decide (v=.non))) H1
 rw[J4 q1]
 exact h1 μ1 _ H1 (am _) fj.refl l1.sto .bl
theorem Mi{σ:St}{H:Hp}{Q:VK}(h:tE X (gA fa) σ H Q):JX (tE X fa) σ H Q:=by
 obtain⟨μ,ρ,st,l,h⟩:=h
 refine⟨μ,ρ,st,l,RK.bind h l fun μ1 st1 x v H1 p1 x1 l1 q1 h1=>?_⟩
 show Q (.bl (!decide (v=.non))) H1
 rw[J4 q1]
 exact h1 μ1 _ H1 (am _) fj.refl l1.sto .bl
theorem O9{ie:Pos}(ha:SE X a fa):SE X (.Compare a [.Is] [.Constant .none j ie] pos) (xK fa):=⟨(Lo (EC ha.h)).imp fun _ _ _ h=>J5 h⟩
theorem Bu{ie:Pos}(ha:SE X a fa):ST X (.Compare a [.Is] [.Constant .none j ie] pos) (ef (xK fa)):=⟨(ED (EC ha.h)).imp fun _ _ _ h=>J5 (qF h)⟩
theorem iG{ie:Pos}(ha:SE X a fa):ST X (.Compare a [.IsNot] [.Constant .none j ie] pos) (ef (gA fa)):=⟨(ED (Ih ha.h)).imp fun _ _ _ h=>Mi (qF h)⟩
def aD:FA:=fun _ st=>.ok [] st
def ai(fa:FE)(fs:FA):FA:=fun ρ st=>(fa ρ st).bind fun x st=>(fs ρ st).bind fun xs st=>.ok (x::xs) st
theorem ax:SA X [] aD:=⟨ET.imp fun σ H Q h=>by
 obtain⟨μ,ρ,st,l,h⟩:=h
 exact h μ [] H (am _) fj.refl l.sto .nilI⟩
theorem af(ha:SE X e fe)(hr:SA X es fs)(hs:starEach (e::es) X.env=(false,eval e X.env)::starEach es X.env:=by rfl):SA X (e::es) (ai fe fs):=⟨(xw ha.h hr.h hs).imp fun σ H Q h=>by
 obtain⟨μ,ρ,st,l,h⟩:=h
 refine⟨μ,ρ,st,l,RK.bind h l fun μ1 st1 x v H1 p1 x1 l1 q1 h1=>⟨μ1,ρ,st1,l1,RK.bind h1 l1 fun μ2 cX xs vs H2 p2 x2 l2 q2 h2=>?_⟩⟩
 exact h2 μ2 _ H2 (am _) fj.refl l2.sto (.consI (q1.mono p2 x2) q2)⟩
def O_(zs:List (List Nat)):FA:=fun _ st=>.ok (zs.map W.str) st
def pJ(ws:List W)(st:List ao):R W:=if ws.length<=mL then .ok (.tup ws) st else .bad
def pK(ws:List W)(st:List ao):R W:=if ws.length<=mL then .ok (.loc st.length) (st++[.lst ws])else .bad
def gB(fs:FA):FE:=fun ρ st=>(fs ρ st).bind fun ws st=>pJ ws st
def jX(fs:FA):FE:=fun ρ st=>(fs ρ st).bind fun ws st=>pK ws st
theorem jw.newLst{K:Frag}{mg:Str->Option Value}{μ:List Addr}{st:List ao}{H:Hp}(S:jw K mg μ st H){p:Addr}{ws:List W}{vs:List V}(hp:H p=none)(r:RelWs K μ H ws vs):jw K mg (μ++[p]) (st++[.lst ws]) (gf H p (.lst vs)):=
 S.push hp ⟨vs,iA,r.mono (a9 _ _) (gg.same (du hp _))⟩
theorem qc{K:Frag}{mg:Str->Option Value}{μ:List Addr}{st:List ao}{H H':Hp}(S:jw K mg μ st H){p:Addr}:bH K (μ++[p]) H' (.loc st.length) (.ref p):=.locI (by rw[S.len];simp)
theorem Fi{μ:List Addr}{st:List ao}{σ:St}{H:Hp}{Q:VK}{ws:List W}{vs:List V}(S:jw X.K X.mg μ st H)(q:RelWs X.K μ H ws vs)(h:RK X (r_ X) μ σ H Q (pJ ws st)):vs.length<=sizeLine/\∀p H2,H p=none->H2=gf H p (.tup vs)->Q (.ref p) H2:=by
 unfold pJ at h
 by_cases hz:ws.length<=mL
 ·rw[aJ hz]at h
  refine⟨by rw[<- q.len];exact og hz,fun p H2 hp e=>?_⟩
  subst e
  have x:=gg.same (K:=X.K) (du hp (.tup vs))
  exact h μ _ _ (am _) x (S.same (du hp _)) (.tupI gg.new (q.mono (am _) x))
 ·rw[aV hz]at h;exact h.elim
theorem uS{μ:List Addr}{st:List ao}{σ:St}{H:Hp}{Q:VK}{ws:List W}{vs:List V}(S:jw X.K X.mg μ st H)(q:RelWs X.K μ H ws vs)(h:RK X (r_ X) μ σ H Q (pK ws st)):vs.length<=sizeLine/\∀p H2,H p=none->H2=gf H p (.lst vs)->Q (.ref p) H2:=by
 unfold pK at h
 by_cases hz:ws.length<=mL
 ·rw[aJ hz]at h
  refine⟨by rw[<- q.len];exact og hz,fun p H2 hp e=>?_⟩
  subst e
  exact h (μ++[p]) _ _ (a9 _ _) (gg.same (du hp _)) (S.newLst hp q) (qc S)
 ·rw[aV hz]at h;exact h.elim
theorem eW{k:Nat}(h:SA X es fs):SE X (.Tuple es k pos) (gB fs):=⟨(IN h.h).imp fun σ H Q h=>by
 obtain⟨μ,ρ,st,l,h⟩:=h
 exact⟨μ,ρ,st,l,RK.bind h l fun μ1 st1 x v H1 p1 x1 l1 q1 h1=>Fi l1.sto q1 h1⟩⟩
theorem iC(h:SA X es fs):SE X (.List es pos) (jX fs):=⟨(IP h.h).imp fun σ H Q h=>by
 obtain⟨μ,ρ,st,l,h⟩:=h
 exact⟨μ,ρ,st,l,RK.bind h l fun μ1 st1 x v H1 p1 x1 l1 q1 h1=>uS l1.sto q1 h1⟩⟩
end
end L2
namespace L2
open PySem PySem.Spec PyProof.Rows
section
variable{X:Cx}
theorem kE{μ:List Addr}{st:List ao}{H:Hp}{Q:VK}{i:Int}(S:jw X.K X.mg μ st H)(h:Ev X μ H Q (.ok (.int i) st)):Q (.int i) H:=h μ _ H (am _) fj.refl S .int
theorem sf{μ:List Addr}{st:List ao}{H:Hp}{Q:VK}{i:Bool}(S:jw X.K X.mg μ st H)(h:Ev X μ H Q (.ok (.bl i) st)):Q (.bl i) H:=h μ _ H (am _) fj.refl S .bl
theorem qG{μ:List Addr}{st:List ao}{H:Hp}{Q:VK}{i:List Nat}(S:jw X.K X.mg μ st H)(h:Ev X μ H Q (.ok (.str i) st)):Q (.str (tx i)) H:=h μ _ H (am _) fj.refl S .str
theorem Mj{μ:List Addr}{σ:St}{H:Hp}{Q:VK}{r:R W}(h:Ev X μ H Q r):RK X (r_ X) μ σ H Q r:=by
 cases r with
 |ok a st=>exact h
 |ex c st=>exact h.elim
 |bad=>exact h
def DS(C:Int->Int->Prop)[∀i j,Decidable (C i j)](f:Int->Int->Int):W->W->List ao->R W
 |.int i,.int j,st=>if C i j then .ok (.int (f i j)) st else .bad
 |_,_,_=>.bad
theorem zn{g:Value->Value->Sem Value}{C C':Int->Int->Prop}[∀i j,Decidable (C' i j)]{f:Int->Int->Int}(h:n9 X g (rI C fun i j=>.int (f i j)))(hC:∀i j,C' i j->C i j):vW X g (DS C' f):=⟨h.imp fun x y H Q ⟨μ,st,wx,wy,S,rx,ry,q⟩=>by
 cases wx with
 |int i=>
  cases wy with
  |int j=>
   simp only[DS]at q
   by_cases c:C' i j
   ·rw[aJ c]at q;exact⟨i,j,rx.intE,ry.intE,hC i j c,kE S q⟩
   ·rw[aV c]at q;exact q.elim
  |_=>exact q.elim
 |_=>cases wy<;>exact q.elim,fun x y st=>by
 unfold DS
 split
 ·split<;>trivial
 ·trivial⟩
def DT(f:Int->Int->Bool):W->W->List ao->R W
 |.int i,.int j,st=>.ok (.bl (f i j)) st
 |_,_,_=>.bad
theorem Fj{g:Value->Value->Sem Value}{f:Int->Int->Bool}(h:n9 X g (HU fun i j=>.bl (f i j))):vW X g (DT f):=⟨h.imp fun x y H Q ⟨μ,st,wx,wy,S,rx,ry,q⟩=>by
 cases wx with
 |int i=>
  cases wy with
  |int j=>exact⟨i,j,rx.intE,ry.intE,sf S q⟩
  |_=>exact q.elim
 |_=>cases wy<;>exact q.elim,fun x y st=>by
 unfold DT
 split<;>trivial⟩
abbrev Ml(i j:Int):Prop:=(-(2^64)<i/\i<2^64)\/(-(2^64)<j/\j<2^64)
abbrev mP:=DS (fun _ _=>True) fun i j=>i-j
abbrev Pa:=DS Ml fun i j=>i*j
abbrev iD:=DS (fun _ j=>0<j) fun i j=>i%j
abbrev tD:=DS (fun _ j=>0<j/\j<1073741824) fun i j=>i/j
abbrev Pc:=DS (fun i j=>0<=j/\j<=1000000/\i.natAbs<2^64) fun i j=>i^j.toNat
abbrev zo:=DS (fun i j=>0<=j/\j<=1000000/\i.natAbs<2^64) fun i j=>i*2^j.toNat
abbrev Mm:=DS (fun _ j=>0<=j) fun i j=>i/2^j.toNat
abbrev Fk:=DS (fun _ _=>True) fun i j=>Builtin.bitAnd i j
theorem Fl{g:Value->Value->Sem Value}{f:Int->Int->V}(h:n9 X g (HU f)):n9 X g (rI (fun _ _=>True) f):=h.imp fun _ _ _ _ ⟨i,j,a,b,_,q⟩=>⟨i,j,a,b,q⟩
theorem lE:vW X (binaryOp .Sub) mP:=zn (Fl LN) fun _ _ _=>trivial
theorem Pd:vW X (binaryOp .Mult) Pa:=zn LO fun _ _ h=>h
theorem gY:vW X (binaryOp .Mod) iD:=zn LP fun _ _ h=>h
theorem sg:vW X (binaryOp .FloorDiv) tD:=zn Iu fun _ _ h=>h
theorem Pe:vW X (binaryOp .Pow) Pc:=zn LQ fun _ _ h=>h
theorem J6:vW X (binaryOp .LShift) zo:=zn EO fun _ _ h=>h
theorem Pf:vW X (binaryOp .RShift) Mm:=zn LR fun _ _ h=>h
theorem Mn:vW X (binaryOp .BitAnd) Fk:=zn (Fl LS) fun _ _ _=>trivial
def cK:W->W->List ao->R W
 |.int i,.int j,st=>.ok (.int (i+j)) st
 |.str a,.str b,st=>if a.length+b.length<=mL then .ok (.str (a++b)) st else .bad
 |.tup a,.tup b,st=>pJ (a++b) st
 |.loc n,.loc m,st=>match st[n]?,st[m]? with
  |some (.lst a),some (.lst b)=>pK (a++b) st
  |_,_=>.bad
 |_,_,_=>.bad
theorem IZ(ws:List W)(st:List ao):tW (pJ ws st):=by unfold pJ;split<;>trivial
theorem I0(ws:List W)(st:List ao):tW (pK ws st):=by unfold pK;split<;>trivial
theorem cD:vW X (binaryOp .Add) cK:=⟨fun al s σ H x y v u Q I rv ru ⟨μ,st,wx,wy,S,rx,ry,q⟩=>by
 cases wx with
 |int i=>
  cases wy with
  |int j=>exact LM al s σ H x y v u Q I rv ru ⟨i,j,rx.intE,ry.intE,kE S q⟩
  |_=>exact q.elim
 |str a=>
  cases wy with
  |str b=>
   simp only[cK]at q
   by_cases c:a.length+b.length<=mL
   ·rw[aJ c]at q
    exact A2 al s σ H x y v u Q I rv ru ⟨_,_,rx.strE,ry.strE,by rw[iN,iN];exact og c,by rw[Bf];exact qG S q⟩
   ·rw[aV c]at q;exact q.elim
  |_=>exact q.elim
 |tup a=>
  cases wy with
  |tup b=>
   obtain⟨p1,vs1,rfl,h1,r1⟩:=rx.tupE
   obtain⟨p2,vs2,rfl,h2,r2⟩:=ry.tupE
   have q':Ev X μ H Q (pJ (a++b) st):=q
   unfold pJ at q'
   by_cases c:(a++b).length<=mL
   ·rw[aJ c]at q'
    refine Mf.h al s σ H _ _ v u Q I rv ru ⟨p1,p2,vs1,vs2,rfl,rfl,h1,h2,by rw[<- r1.len,<- r2.len,<- ah];exact og c,fun p H2 e t=>?_⟩
    exact q' μ _ _ (am _) (gg.same e) (S.same e) (.tupI t ((r1.app r2).mono (am _) (gg.same e)))
   ·rw[aV c]at q';exact q'.elim
  |_=>exact q.elim
 |loc n=>
  cases wy with
  |loc m=>
   simp only[cK]at q
   cases e1:st[n]? with
   |none=>rw[e1]at q;exact q.elim
   |some c1=>
    cases e2:st[m]? with
    |none=>rw[e1,e2]at q;cases c1<;>exact q.elim
    |some c2=>
     cases c1 with
     |lst a=>
      cases c2 with
      |lst b=>
       rw[e1,e2]at q
       obtain⟨a1,g1,vs1,k1,r1⟩:=S.get e1
       obtain⟨a2,g2,vs2,k2,r2⟩:=S.get e2
       obtain⟨b1,f1,rfl⟩:=rx.locE
       obtain⟨b2,f2,rfl⟩:=ry.locE
       rw[g1]at f1;cases f1
       rw[g2]at f2;cases f2
       obtain⟨hz,qq⟩:=uS (σ:=σ) S (r1.app r2) (Mj q)
       exact IS al s σ H _ _ v u Q I rv ru ⟨a1,a2,vs1,vs2,rfl,rfl,k1,k2,by rw[<- ah];exact hz,qq⟩
      |_=>rw[e1,e2]at q;exact q.elim
     |_=>rw[e1,e2]at q;exact q.elim
  |_=>exact q.elim
 |_=>cases wy<;>exact q.elim,fun x y st=>by
 unfold cK
 split
 ·trivial
 ·split<;>trivial
 ·exact IZ _ _
 ·split
  ·exact I0 _ _
  ·trivial
 ·trivial⟩
abbrev Mo:=DT fun i j=>decide (i<j)
abbrev DU:=DT fun i j=>decide (j<i)
abbrev Mp:=DT fun i j=>decide (j<=i)
theorem w_lt:vW X (compareOp .Lt) Mo:=Fj Ox
theorem vX:vW X (compareOp .Gt) DU:=Fj Oy
theorem I_:vW X (compareOp .GtE) Mp:=Fj Oz
end
end L2
namespace L2
variable{nk:Nat}
open PySem PySem.Spec PyProof.Rows
mutual
def kG:W->W->Option Bool
 |.non,.non=>some true
 |.bl a,.bl b=>some (a==b)
 |.bl a,.int b=>some ((if a then 1 else 0)==b)
 |.int a,.bl b=>some (a==(if b then 1 else 0))
 |.int a,.int b=>some (a==b)
 |.str a,.str b=>some (a==b)
 |.tup a,.tup b=>eqWs a b
 |.loc _,_=>none
 |.non,.loc _=>none
 |.bl _,.loc _=>none
 |.int _,.loc _=>none
 |.str _,.loc _=>none
 |.tup _,.loc _=>none
 |.non,.bl _=>some false
 |.non,.int _=>some false
 |.non,.str _=>some false
 |.non,.tup _=>some false
 |.bl _,.non=>some false
 |.bl _,.str _=>some false
 |.bl _,.tup _=>some false
 |.int _,.non=>some false
 |.int _,.str _=>some false
 |.int _,.tup _=>some false
 |.str _,.non=>some false
 |.str _,.bl _=>some false
 |.str _,.int _=>some false
 |.str _,.tup _=>some false
 |.tup _,.non=>some false
 |.tup _,.bl _=>some false
 |.tup _,.int _=>some false
 |.tup _,.str _=>some false
def eqWs:List W->List W->Option Bool
 |[],[]=>some true
 |[],_::_=>some false
 |_::_,[]=>some false
 |x::xs,y::ys=>match kG x y,eqWs xs ys with
  |some a,some b=>some (a&&b)
  |_,_=>none
end
mutual
def W.dep:W->Nat
 |.tup ws=>depWs ws+1
 |_=>0
def depWs:List W->Nat
 |[]=>0
 |w::ws=>max w.dep (depWs ws)
end
theorem qd:∀(xs ys:List W) (b:Bool),eqWs xs ys=some b->∃e:Nat->Bool,(∀j (h1:j<xs.length) (h2:j<ys.length),kG xs[j] ys[j]=some (e j))/\((List.range (min xs.length ys.length)).all e&&xs.length==ys.length)=b
 |[],[],b,h=>by unfold eqWs at h;cases h;exact⟨fun _=>true,fun j h1=>absurd h1 (km _),rfl⟩
 |[],y::ys,b,h=>by unfold eqWs at h;cases h;exact⟨fun _=>true,fun j h1=>absurd h1 (km _),by simp⟩
 |x::xs,[],b,h=>by unfold eqWs at h;cases h;exact⟨fun _=>true,fun j _ h1=>absurd h1 (km _),by simp⟩
 |x::xs,y::ys,b,h=>by
  unfold eqWs at h
  cases e1:kG x y with
  |none=>rw[e1]at h;simp at h
  |some a=>
   cases e2:eqWs xs ys with
   |none=>rw[e1,e2]at h;simp at h
   |some c=>
    rw[e1,e2]at h
    simp at h
    obtain⟨e,he,hb⟩:=qd xs ys c e2
    refine⟨fun j=>match j with|0=>a|j+1=>e j,fun j h1 h2=>?_,?_⟩
    ·cases j with
     |zero=>exact e1
     |succ j=>exact he j (jo h1) (jo h2)
    ·have m:min (x::xs).length (y::ys).length=min xs.length ys.length+1:=by simp only[bd];omega
     rw[m,ng,List.all_cons,List.all_map,<- h,<- hb]
     simp[Function.comp_def,Bool.and_assoc]
theorem CS{X:Cx}{H:Hp}{μ:List Addr}{a b:W}{x:V}{k:Bool}(hn:a.dep<=0)(ra:bH X.K μ H a x)(rb:bH X.K μ H b x)(he:kG a b=some k):k=true:=by
 cases a with
 |tup i=>unfold W.dep at hn;omega
 |non=>cases ra.nonE;cases b<;>first|(unfold kG at he;cases he;rfl)|cases rb.blE|cases rb.intE|cases rb.strE|(obtain⟨_,_,z,_⟩:=rb.tupE;cases z)|(unfold kG at he;cases he)
 |bl i=>cases ra.blE;cases b<;>first|(cases rb.blE;unfold kG at he;simp at he;exact he)|cases rb.nonE|cases rb.intE|cases rb.strE|(obtain⟨_,_,z,_⟩:=rb.tupE;cases z)|(unfold kG at he;cases he)
 |int i=>cases ra.intE;cases b<;>first|(cases rb.intE;unfold kG at he;simp at he;exact he)|cases rb.nonE|cases rb.blE|cases rb.strE|(obtain⟨_,_,z,_⟩:=rb.tupE;cases z)|(unfold kG at he;cases he)
 |str i=>cases ra.strE;cases b<;>first|(have z:=rb.strE;injection z with z;rw[Bg.mp z]at he;unfold kG at he;simp at he;exact he)|cases rb.nonE|cases rb.blE|cases rb.intE|(obtain⟨_,_,z,_⟩:=rb.tupE;cases z)|(unfold kG at he;cases he)
 |loc i=>cases b<;>(unfold kG at he;cases he)
theorem Fp{X:Cx}{al:List (Addr×Obj)}{σ:St}{H:Hp}{s:Shared}{μ:List Addr}(I:bU X al σ H s):∀(n:Nat) (a b:W) (x:V) (k:Bool),a.dep<=n->bH X.K μ H a x->bH X.K μ H b x->kG a b=some k->k=true:=by
 intro n
 induction n with
 |zero=>exact fun a b x k hn ra rb he=>CS hn ra rb he
 |succ n ih=>
  intro a b x k hn ra rb he
  cases a with
  |tup i=>
   obtain⟨p',Cw,rfl,hS',r'⟩:=ra.tupE
   cases b with
   |tup z=>
    obtain⟨p,vs,e,hS,r⟩:=rb.tupE
    cases e
    obtain rfl:=I.tuple_inj hS hS'
    have he':eqWs i z=some k:=by unfold kG at he;exact he
    have dn:depWs i<=n:=by unfold W.dep at hn;omega
    have key:∀(i z:List W) (vs:List V) (k:Bool),depWs i<=n->RelWs X.K μ H i vs->RelWs X.K μ H z vs->eqWs i z=some k->k=true:=by
     intro i
     induction i with
     |nil=>
      intro z vs k _ r' r he
      have e1:=r'.nilE
      subst e1
      cases z with
      |nil=>unfold eqWs at he;cases he;rfl
      |cons _ _=>have e2:=r.len;simp at e2
     |cons w i ih2=>
      intro z vs k dn r' r he
      obtain⟨x,xs,rfl,rx,rxs⟩:=r'.consE
      cases z with
      |nil=>have e2:=r.len;simp at e2
      |cons y z=>
       obtain⟨x2,xs2,e3,ry,rys⟩:=r.consE
       cases e3
       unfold eqWs at he
       cases e1:kG w y with
       |none=>rw[e1]at he;simp at he
       |some k1=>
        cases e2:eqWs i z with
        |none=>rw[e1,e2]at he;simp at he
        |some k2=>
         rw[e1,e2]at he
         simp at he
         unfold depWs at dn
         have q1:=ih w y x k1 (by omega) rx ry e1
         have q2:=ih2 z xs k2 (by omega) rxs rys e2
         rw[<- he,q1,q2];rfl
    exact key i z _ k dn r' r he'
   |non=>cases rb.nonE
   |bl z=>cases rb.blE
   |int z=>cases rb.intE
   |str z=>cases rb.strE
   |loc z=>unfold kG at he;cases he
  |_=>exact CS (az _) ra rb he
theorem si:∀{ws:List W} {j:Nat} (h:j<ws.length),ws[j].dep<=depWs ws
 |w::ws,0,_=>by unfold depWs;exact Nat.le_max_left _ _
 |w::ws,j+1,h=>by unfold depWs;exact aM (si (j:=j) (jo h)) (Nat.le_max_right _ _)
inductive Sh(s:Shared):W->Value->Prop
 |non:Sh s .non .none
 |bl (b:Bool):Sh s (.bl b) (.bool b)
 |int (i:Int) (t:Tok):Sh s (.int i) (.int i t)
 |str (l:List Nat) (t:Tok):Sh s (.str l) (.str (tx l) t)
 |tup (ws:List W) (p:Addr) (bF:List Value) (h:IsTup s.heap p bF.toArray):Sh s (.tup ws) (.ref p)
 |loc (n:Nat) (u:Value):Sh s (.loc n) u
section
variable{X:Cx}{al:List (Addr×Obj)}{σ:St}{H:Hp}{s:Shared}{μ:List Addr}
theorem tF(I:bU X al σ H s){a:W}{x:V}{u:Value}(ra:bH X.K μ H a x)(ru:c_ s.toks x u):Sh s a u:=by
 cases a with
 |non=>cases ra.nonE;cases ru;exact .non
 |bl i=>cases ra.blE;cases ru;exact .bl _
 |int i=>cases ra.intE;obtain⟨t,rfl⟩:=ru;exact .int _ _
 |str i=>cases ra.strE;obtain⟨t,rfl⟩:=ru;exact .str _ _
 |tup i=>obtain⟨p,vs,rfl,hS,_⟩:=ra.tupE;cases ru;obtain⟨bF,_,ht,_⟩:=I.tuple hS;exact .tup _ _ _ ht
 |loc i=>exact .loc _ _
open SeqAt.EqAt in
theorem CT{A:Around}{a b:W}{u v:Value}{k:Bool}(ha:Sh s a u)(hb:Sh s b v)(hu:A.units<cLine)(ht:b.dep=0\/a.dep=0)(he:kG a b=some k):SeqAt.EqAt A s u v k:=by
 cases ha<;>cases hb<;>first
  |(unfold kG at he;cases he;done)
  |(unfold kG at he;cases he;with_reducible first|exact same _|exact bool_none _|exact bool_bool _ _|exact bool_int _ _ _|exact bool_str _ _ _|exact int_none _ _|exact int_bool _ _ _|exact int_int _ _ _ _|exact int_str _ _ _ _|exact str_none _ _|exact str_bool _ _ _|exact str_int _ _ _ _|exact none_bool _|exact none_int _ _|exact none_str _ _)
  |(unfold kG at he;cases he;(with_reducible first|refine' bool_tuple _ ?_ hu|refine' int_tuple _ _ ?_ hu|refine' str_tuple _ _ ?_ hu|refine' tuple_none ?_ hu|refine' tuple_bool _ ?_ hu|refine' tuple_int _ _ ?_ hu|refine' tuple_str _ _ ?_ hu|refine' none_tuple ?_ hu);rotate_left;assumption)
  |(unfold W.dep at ht;omega)
  |skip
 rename_i i t z r
 unfold kG at he;cases he
 have:=str_str (A:=A) (s:=s) (tx i) t (tx z) r
 rw[<- pZ]at this
 exact this
open SeqAt.RcAt in
theorem Ja{A:Around}{a b:W}{u v:Value}{k:Bool}(ha:Sh s a u)(hb:Sh s b v)(hu:A.units<cLine)(ht:b.dep=0\/a.dep=0)(he:kG a b=some k):SeqAt.RcAt A s u v k:=by
 cases ha<;>cases hb<;>first
  |(unfold kG at he;cases he;done)
  |(unfold kG at he;cases he;with_reducible first|exact none_none|exact bool_none _|exact bool_bool _ _|exact bool_int _ _ _|exact bool_str _ _ _|exact int_none _ _|exact int_bool _ _ _|exact int_int _ _ _ _|exact int_str _ _ _ _|exact str_none _ _|exact str_bool _ _ _|exact str_int _ _ _ _|exact none_bool _|exact none_int _ _|exact none_str _ _)
  |(unfold kG at he;cases he;(with_reducible first|refine' bool_tuple _ ?_ hu|refine' int_tuple _ _ ?_ hu|refine' str_tuple _ _ ?_ hu|refine' tuple_none ?_ hu|refine' tuple_bool _ ?_ hu|refine' tuple_int _ _ ?_ hu|refine' tuple_str _ _ ?_ hu|refine' none_tuple ?_ hu);rotate_left;assumption)
  |(unfold W.dep at ht;omega)
  |skip
 rename_i i t z r
 unfold kG at he;cases he
 have:=str_str (A:=A) (s:=s) (tx i) t (tx z) r
 rw[<- pZ]at this
 exact this
open SeqAt.RcNeAt in
theorem DV        {A : Around} {a b : W} {u v : Value} {k : Bool} (ha : Sh s a u) (hb : Sh s b v) (hu : A.units < cLine) (ht : b.dep = 0 \/ a.dep = 0) (he : kG  a b = some k) : SeqAt.RcNeAt A s u v (!k) := by
  cases ha <;> cases hb <;> first
    | (unfold kG  at he; cases he; done)
    | (unfold kG  at he; cases he; try simp only [Bool.not_true, Bool.not_false]
       with_reducible first | exact none_none | exact bool_none _ | exact bool_bool _ _ | exact bool_int _ _ _ | exact bool_str _ _ _ | exact int_none _ _ | exact int_bool _ _ _ | exact int_int _ _ _ _ | exact int_str _ _ _ _ | exact str_none _ _ | exact str_bool _ _ _ | exact str_int _ _ _ _ | exact none_bool _ | exact none_int _ _ | exact none_str _ _)
    | (unfold kG  at he; cases he; try simp only [Bool.not_true, Bool.not_false]
       (with_reducible first | refine' bool_tuple _ ?_ hu | refine' int_tuple _ _ ?_ hu | refine' str_tuple _ _ ?_ hu | refine' tuple_none ?_ hu | refine' tuple_bool _ ?_ hu | refine' tuple_int _ _ ?_ hu | refine' tuple_str _ _ ?_ hu | refine' none_tuple ?_ hu); rotate_left; assumption)
    | (unfold W.dep at ht; omega)
    | skip
  rename_i i t z r
  unfold kG  at he; cases he
  have := str_str (A := A) (s := s) (tx i) t (tx z) r
  rw [<- pZ           ] at this
  exact this
theorem zp{i z:List W}{vs Cw:List V}{bF its':List Value}{e:Nat->Bool}{A:Around}{m:Nat}(ih:∀(a b:W) (A:Around) (x y:V) (u v:Value) (k:Bool),a.dep<=m->bH X.K μ H a x->bH X.K μ H b y->c_ nk x u->c_ nk y v->A.units+m<cLine->kG a b=some k->SeqAt.EqAt A s u v k)
  (r':RelWs X.K μ H i Cw) (r:RelWs X.K μ H z vs) (w':cG nk Cw its') (w:cG nk vs bF) (hd:depWs i<=m) (hu:A.units+1+m<cLine) (h1:∀j (h1:j<i.length) (h2:j<z.length),kG i[j] z[j]=some (e j)):∀j (j1:j<its'.toArray.size) (j2:j<bF.toArray.size),SeqAt.EqAt A.in1 s its'.toArray[j] bF.toArray[j] (e j):=fun j j1 j2=>by
 have j1':j<i.length:=by rw[r'.len,w'.length];simpa using j1
 have j2':j<z.length:=by rw[r.len,w.length];simpa using j2
 obtain⟨x1,g1,q1⟩:=r'.get (aj j1')
 obtain⟨x2,g2,q2⟩:=r.get (aj j2')
 obtain⟨u1,f1,v1⟩:=w'.get g1
 obtain⟨u2,f2,v2⟩:=w.get g2
 have E:=ih i[j] z[j] A.in1 x1 x2 u1 u2 (e j) (aM (si j1') hd) q1 q2 v1 v2 hu (h1 j j1' j2')
 have t1:its'.toArray[j]=u1:=by simpa using (ar.mp f1).2
 have t2:bF.toArray[j]=u2:=by simpa using (ar.mp f2).2
 rw[t1,t2];exact E
theorem Fq(I:bU X al σ H s):∀(n:Nat) (a b:W) (A:Around) (x y:V) (u v:Value) (k:Bool),a.dep<=n->bH X.K μ H a x->bH X.K μ H b y->c_ s.toks x u->c_ s.toks y v->A.units+n<cLine->kG a b=some k->SeqAt.EqAt A s u v k:=by
 intro n
 induction n with
 |zero=>exact fun a b A x y u v k hn ra rb ru rv hu he=>CT (tF I ra ru) (tF I rb rv) hu (.inr (by omega)) he
 |succ m ih=>
  intro a b A x y u v k hn ra rb ru rv hu he
  by_cases hb:b.dep=0\/a.dep=0
  ·exact CT (tF I ra ru) (tF I rb rv) (by omega) hb he
  ·cases b with
   |tup z=>
    cases a with
    |tup i=>
     obtain⟨p',Cw,rfl,hS',r'⟩:=id ra.tupE;cases ru;obtain⟨its',w',ht',_⟩:=I.tuple hS'
     obtain⟨p,vs,rfl,hS,r⟩:=id rb.tupE;cases rv;obtain⟨bF,w,ht,_⟩:=I.tuple hS
     by_cases yU:p'=p
     ·subst yU
      rw[Fp I (m+1) (.tup i) (.tup z) (.ref p') k hn ra rb he]
      exact SeqAt.EqAt.same _
     ·obtain⟨e,h1,h2⟩:=qd i z k (by unfold kG at he;exact he)
      have R:=SeqAt.RcAt.tuples (A:=A) (e:=e) ht' ht (by omega) (zp ih r' r w' w (by unfold W.dep at hn;omega) (by omega) h1)
      rw[show its'.toArray.size=i.length by simp[<- w'.length,<- r'.len],show bF.toArray.size=z.length by simp[<- w.length,<- r.len],h2]at R
      exact SeqAt.EqAt.of_refs yU R
    |_=>exact(hb (.inr rfl)).elim
   |_=>exact(hb (.inl rfl)).elim
theorem Fs(I:bU X al σ H s){n:Nat}{a b:W}{A:Around}{x y:V}{u v:Value}{k:Bool}(hn:b.dep=0\/a.dep<=n)(ra:bH X.K μ H a x)(rb:bH X.K μ H b y)(ru:c_ s.toks x u)(rv:c_ s.toks y v)(hu:A.units+n<cLine)(he:kG a b=some k):SeqAt.RcAt A s u v k/\SeqAt.RcNeAt A s u v (!k):=by
 by_cases hb:b.dep=0\/a.dep=0
 ·exact⟨Ja (tF I ra ru) (tF I rb rv) (by omega) hb he,DV (tF I ra ru) (tF I rb rv) (by omega) hb he⟩
 cases b with
 |tup z=>
  cases a with
  |tup i=>
   obtain⟨p',Cw,rfl,hS',r'⟩:=ra.tupE;cases ru;obtain⟨its',w',ht',_⟩:=I.tuple hS'
   obtain⟨p,vs,rfl,hS,r⟩:=rb.tupE;cases rv;obtain⟨bF,w,ht,_⟩:=I.tuple hS
   obtain⟨e,h1,h2⟩:=qd i z k (by unfold kG at he;exact he)
   have hd:depWs i+1<=n:=hn.elim (fun z=>(hb (.inl z)).elim) id
   obtain⟨m,rfl⟩:∃m,n=m+1:=⟨n-1,by omega⟩
   have T:=zp (A:=A) (Fq I m) r' r w' w (by omega) (by omega) h1
   have R:=SeqAt.RcAt.tuples (A:=A) (e:=e) ht' ht (by omega) T
   have R2:=SeqAt.RcNeAt.tuples (A:=A) (e:=e) ht' ht (by omega) T
   rw[show its'.toArray.size=i.length by simp[<- w'.length,<- r'.len],show bF.toArray.size=z.length by simp[<- w.length,<- r.len],h2]at R R2
   exact⟨R,R2⟩
  |_=>exact(hb (.inr rfl)).elim
 |_=>exact(hb (.inl rfl)).elim
end
def iE:W->W->List ao->R W:=fun x y st=>match kG x y with
 |some k=>if y.dep=0\/x.dep<=64 then .ok (.bl k) st else .bad
 |none=>.bad
theorem gN{X:Cx}{k:Nat}(hr:i' k X.A):vW X (compareOp .Eq) iE:=⟨fun al s σ H x y v u Q I rv ru ⟨μ,st,wx,wy,S,rx,ry,q⟩=>by
 unfold iE at q
 cases e:kG wx wy with
 |none=>rw[e]at q;exact q.elim
 |some b=>
  rw[e]at q
  simp only at q
  by_cases c:wy.dep=0\/wx.dep<=64
  ·rw[aJ c]at q
   have:=hr.units
   exact(Fs I c rx ry rv ru this e).1 X.prog X.w X.xe _ ⟨.bl b,H,I,rfl,sf S q⟩
  ·rw[aV c]at q;exact q.elim,fun x y st=>by
 unfold iE
 split
 ·split<;>trivial
 ·trivial⟩
def J7:W->W->List ao->R W:=fun x y st=>match kG x y with
 |some k=>if y.dep=0\/x.dep<=64 then .ok (.bl (!k)) st else .bad
 |none=>.bad
theorem Pg{X:Cx}{k:Nat}(hr:i' k X.A):vW X (compareOp .NotEq) J7:=⟨fun al s σ H x y v u Q I rv ru ⟨μ,st,wx,wy,S,rx,ry,q⟩=>by
 unfold J7 at q
 cases e:kG wx wy with
 |none=>rw[e]at q;exact q.elim
 |some b=>
  rw[e]at q
  simp only at q
  by_cases c:wy.dep=0\/wx.dep<=64
  ·rw[aJ c]at q
   have:=hr.units
   exact(Fs I c rx ry rv ru this e).2 X.prog X.w X.xe _ ⟨.bl (!b),H,I,rfl,sf S q⟩
  ·rw[aV c]at q;exact q.elim,fun x y st=>by
 unfold J7
 split
 ·split<;>trivial
 ·trivial⟩
def vY(x:W):List W->Option Bool
 |[]=>some false
 |y::ys=>match kG y x,vY x ys with
  |some a,some b=>some (a||b)
  |_,_=>none
def Ey(QK:Bool)(x y:W)(st:List ao):R W:=match y with
 |.str l=>(match x with
  |.str [c]=>.ok (.bl (if QK then !decide (c∈l)else decide (c∈l))) st
  |_=>.bad)
 |.tup ys=>(match vY x ys with
  |some k=>if depWs ys<=63 then .ok (.bl (if QK then !k else k)) st else .bad
  |none=>.bad)
 |.loc n=>(match st[n]? with
  |some (.lst ys)=>(match vY x ys with
   |some k=>if depWs ys<=63 then .ok (.bl (if QK then !k else k)) st else .bad
   |none=>.bad)
  |_=>.bad)
 |_=>.bad
theorem zq{x:W}:∀{ys:List W} {k:Bool},vY x ys=some k->(∀(j:Nat) w,ys[j]?=some w->∃b,kG w x=some b)/\(k=true↔∃(j:Nat) (w:W),ys[j]?=some w/\kG w x=some true)
 |[],k,h=>by
  unfold vY at h;cases h
  exact⟨fun j w e=>by simp at e,fun z=>(by cases z),fun⟨j,w,e,_⟩=>(by simp at e)⟩
 |y::ys,k,h=>by
  unfold vY at h
  cases e1:kG y x with
  |none=>rw[e1]at h;simp at h
  |some a=>
   cases e2:vY x ys with
   |none=>rw[e1,e2]at h;simp at h
   |some b=>
    rw[e1,e2]at h
    simp at h
    obtain⟨q1,q2⟩:=zq e2
    refine⟨fun j w e=>?_,fun z=>?_,fun⟨j,w,e,f⟩=>?_⟩
    ·cases j with
     |zero=>simp at e;subst e;exact⟨a,e1⟩
     |succ j=>exact q1 j w (by simpa using e)
    ·rw[<- h]at z
     cases a with
     |true=>exact⟨0,y,rfl,e1⟩
     |false=>
      obtain⟨j,w,p,q⟩:=q2.mp (by simpa using z)
      exact⟨j+1,w,by simpa using p,q⟩
    ·rw[<- h]
     cases j with
     |zero=>simp at e;subst e;rw[e1]at f;cases f;rfl
     |succ j=>rw[q2.mpr ⟨j,w,by simpa using e,f⟩];simp
theorem uT{X:Cx}{al:List (Addr×Obj)}{σ:St}{H:Hp}{s:Shared}{μ:List Addr}(I:bU X al σ H s){wx:W}{x:V}{v:Value}(rx:bH X.K μ H wx x)(rv:c_ s.toks x v)(n:Nat){A:Around}(hu:A.units+n<cLine)
  {ys:List W} {vs:List V} {us:List Value} {k:Bool} (hd:depWs ys<=n) (rs:RelWs X.K μ H ys vs) (sZ:cG s.toks vs us) (ha:vY wx ys=some k):∃e:Value->Bool,(∀u,u∈us.toArray->SeqAt.EqAt A s u v (e u))/\us.toArray.any e=k:=by
 classical
 obtain⟨q1,q2⟩:=zq ha
 have at':∀(j:Nat) (u:Value),us[j]?=some u->∃w b,ys[j]?=some w/\kG w wx=some b/\SeqAt.EqAt A s u v b:=fun j u e=>by
  have hj:j<ys.length:=by
   have h1:=(ar.mp e).1
   rw[rs.len,sZ.length];exact h1
  obtain⟨b,hb⟩:=q1 j ys[j] (aj hj)
  obtain⟨y,g1,r1⟩:=rs.get (aj hj)
  obtain⟨u',f1,v1⟩:=sZ.get g1
  rw[e]at f1;cases f1
  exact⟨_,b,aj hj,hb,Fq I n ys[j] wx A y x u v b (aM (si hj) hd) r1 rx v1 rv hu hb⟩
 refine⟨fun u=>decide (∃(j:Nat) (w:W),us[j]?=some u/\ys[j]?=some w/\kG w wx=some true),fun u hu=>?_,?_⟩
 ·by_cases c:∃(j:Nat) (w:W),us[j]?=some u/\ys[j]?=some w/\kG w wx=some true
  ·show SeqAt.EqAt A s u v (decide _)
   rw[bY c]
   obtain⟨j,w,e1,e2,e3⟩:=c
   obtain⟨w',b,f1,f2,f3⟩:=at' j u e1
   rw[e2]at f1;cases f1
   rw[e3]at f2;cases f2
   exact f3
  ·show SeqAt.EqAt A s u v (decide _)
   rw[ba c]
   obtain⟨j,hj,e⟩:=List.mem_iff_getElem.mp (show u∈us by simpa using hu)
   have e':us[j]?=some u:=by rw[aj hj,e]
   obtain⟨w',b,f1,f2,f3⟩:=at' j u e'
   cases b with
   |false=>exact f3
   |true=>exact absurd ⟨j,w',e',f1,f2⟩ c
 ·rw[List.any_toArray]
  cases k with
  |true=>
   obtain⟨j,w,e1,e2⟩:=q2.mp rfl
   have hj:j<us.length:=by rw[<- sZ.length,<- rs.len];exact(ar.mp e1).1
   exact List.any_eq_true.mpr ⟨us[j],dD hj,bY ⟨j,w,aj hj,e1,e2⟩⟩
  |false=>
   refine List.any_eq_false.mpr fun u _ c=>?_
   obtain⟨j,w,_,e1,e2⟩:=of_decide_eq_true c
   have:=q2.mpr ⟨j,w,e1,e2⟩
   cases this
theorem Jb{X:Cx}{k:Nat}(hr:i' k X.A):vW X (compareOp .In) (Ey false):=⟨fun al s σ H x y v u Q I rv ru ⟨μ,st,wx,wy,S,rx,ry,q⟩=>by
 have hu:=hr.units
 cases wy with
 |str l=>
  simp only[Ey]at q
  split at q
  ·exact DG al s σ H x y v u Q I rv ru ⟨_,_,rx.strE,ry.strE,sf S q⟩
  ·exact q.elim
 |tup ys=>
  simp only[Ey]at q
  cases hk:vY wx ys with
  |none=>rw[hk]at q;exact q.elim
  |some kk=>
   rw[hk]at q
   simp only at q
   by_cases c:depWs ys<=63
   ·rw[aJ c]at q
    obtain⟨p,vs,rfl,hS,r⟩:=ry.tupE
    cases ru
    obtain⟨bF,w,ht,_⟩:=I.tuple hS
    obtain⟨e,he,ha⟩:=uT (A:=X.A.in1) I rx rv 63 (by show X.A.units+1+63<cLine;omega) c r w hk
    exact SeqAt.in_tupleAt e ht he ⟨.bl _,H,I,rfl,by rw[ha];exact sf S q⟩
   ·rw[aV c]at q;exact q.elim
 |loc n=>
  simp only[Ey]at q
  cases e1:st[n]? with
  |none=>rw[e1]at q;exact q.elim
  |some cc=>
   rw[e1]at q
   cases cc with
   |lst ys=>
    simp only at q
    cases hk:vY wx ys with
    |none=>rw[hk]at q;exact q.elim
    |some kk=>
     rw[hk]at q
     simp only at q
     by_cases c:depWs ys<=63
     ·rw[aJ c]at q
      obtain⟨a1,g1,vs,k1,r⟩:=S.get e1
      obtain⟨b1,f1,rfl⟩:=ry.locE
      rw[g1]at f1;cases f1
      cases ru
      obtain⟨bF,w,ht,_⟩:=I.list (rW.of k1)
      obtain⟨e,he,ha⟩:=uT (A:=X.A.in1) I rx rv 63 (by show X.A.units+1+63<cLine;omega) c r w hk
      exact SeqAt.in_listAt e ht.isList he ⟨.bl _,H,I,rfl,by rw[ha];exact sf S q⟩
     ·rw[aV c]at q;exact q.elim
   |_=>exact q.elim
 |_=>exact q.elim,fun x y st=>by
 unfold Ey
 repeat' split
 all_goals trivial⟩
end L2
namespace L2
open PySem PySem.Spec PyProof.Rows
section
variable{prog:Program}{w:World}{A:Around}{E:Value->Shared->Prop}{s:Shared}
theorem zt{t sl:Addr}{items:Array Value}{vl vu:Value}{lo hi:Option Int}{Q:Value->Shared->Prop}(ht:IsTup s.heap t items)(hs:s.heap.IsSliceOf sl vl vu .none)(pl:IsPart vl lo)(pu:IsPart vu hi)
  (hw:HT.sIx items.size 0 lo=0/\HT.sIx items.size items.size hi=items.size) (h:Q (.ref t) s):wpAny (model prog w) A (getItem (.ref t) (.ref sl)) Q E s:=by
 obtain⟨os,hos,hcs,Lb⟩:=id hs
 have hTs:s.TypeIs (.ref sl) "slice":=⟨os,hos,hcs⟩
 unfold getItem
 try with_reducible refine c8 ?_
 first|refine aa (ay ?_)|skip
 refine aa (wpAny_sequenceKey ht.typeIs (by decide) ?_)
 refine aa (bI (name:=Str.ofString "__getitem__") ht.typeIs ec
  (b6 ec ht.typeIs entry_tuple_getitem ?_ (args_tuple_getitem _ _)))
 show wpAny _ _ (Builtin.Tuple.tupleItemsOf (.ref t) >>= _) _ _ s
 refine aa (tupleItemsOf_ ht ?_)
 refine aa (ii hTs ?_)
 rw[aJ (by decide)]
 refine aa (HT.sliceApplied_gen hs pl pu ?_)
 have hyes:(((HT.sIx items.size 0 lo:Nat):Int)==0&&(1:Int)==1&&(HT.sIx items.size items.size hi-HT.sIx items.size 0 lo)==items.size)=true:=by
  rw[hw.1,hw.2];simp
 show wpAny _ _ (if (((HT.sIx items.size 0 lo:Nat):Int)==0&&(1:Int)==1&&(HT.sIx items.size items.size hi-HT.sIx items.size 0 lo)==items.size)=true then _ else _) _ _ s
 rw[aJ hyes]
 unfold Builtin.Tuple.tupleIsExact
 obtain⟨ot,hot,hct,nt,hdt⟩:=id ht
 refine aa (aa (ii (T:="tuple") ht.typeIs ?_))
 refine ay ?_
 rw[aJ (by decide)]
 exact aa (jJ (ay ⟨_,rfl,ay h⟩))
end
section
variable{X:Cx}{a b c e o:Expr}{es:List Expr}{pos p p2 f9 d_:Pos}{x name:Str}{j:Nat}{fa fb fc fe:FE}{fs:FA}
def lstOf(st:List ao)(n:Nat):Option (List W):=match st[n]? with
 |some (.lst ws)=>some ws
 |some (.ro ws)=>some ws
 |_=>none
theorem jw.lstOf{K:Frag}{mg:Str->Option Value}{μ:List Addr}{st:List ao}{H:Hp}(S:jw K mg μ st H){n:Nat}{ws:List W}(h:lstOf st n=some ws):∃a vs,μ[n]?=some a/\rW K H a vs/\RelWs K μ H ws vs:=by
 unfold L2.lstOf at h
 cases e:st[n]? with
 |none=>rw[e]at h;cases h
 |some cc=>
  rw[e]at h
  cases cc with
  |lst zs=>cases h;obtain⟨a,g,vs,k,r⟩:=S.get e;exact⟨a,vs,g,rW.of k,r⟩
  |ro zs=>cases h;obtain⟨a,g,vs,k,r⟩:=S.get e;exact⟨a,vs,g,k.sq,r⟩
  |exc zs=>cases h
  |dct zs=>cases h
  |rod zs=>cases h
  |dcx zs=>cases h
  |rox zs=>cases h
  |obj _ _=>cases h
  |tab _ _ _=>cases h
  |pin _ _ _ _=>cases h
  |gone=>cases h
def sk{α:Type}(o:Option α)(k:α->R W):R W:=match o with
 |some a=>k a
 |none=>.bad
@[simp] theorem eG{α:Type}(a:α)(k:α->R W):sk (some a) k=k a:=rfl
def bu(x y:W)(st:List ao):R W:=match x,y with
 |.tup ws,.int i=>sk (r6 ws i) fun w=>.ok w st
 |.str l,.int i=>if l.length<=mL then sk (r6 l i) (fun c=>.ok (.str [c]) st)else .bad
 |.loc n,.int i=>sk (lstOf st n) fun ws=>sk (r6 ws i) fun w=>.ok w st
 |_,_=>.bad
theorem CU{K:Frag}{μ:List Addr}{H:Hp}{ws:List W}{vs:List V}{i:Int}{w:W}(r:RelWs K μ H ws vs)(h:r6 ws i=some w):∃v,r6 vs i=some v/\bH K μ H w v:=by
 unfold r6 at h ⊢
 rw[<- r.len]
 cases e:CC ws.length i with
 |none=>rw[e]at h;cases h
 |some k=>rw[e]at h;exact r.get h
theorem R_:HV X (R9 X bu):=fun value slice al s σ H x y v u Q I rv ru ⟨μ,st,wx,wy,S,rx,ry,q⟩ hs=>by
 refine L3 value slice al s σ H x y v u Q I rv ru ?_ hs
 cases wy with
 |int i=>
  cases wx with
  |tup ws=>
   simp only[bu]at q
   cases e1:r6 ws i with
   |none=>rw[e1]at q;exact q.elim
   |some w=>
    rw[e1]at q
    obtain⟨p,vs,rfl,hS,r⟩:=rx.tupE
    obtain⟨z,f,g⟩:=CU r e1
    exact .inr (.inl ⟨p,vs,i,z,rfl,ry.intE,hS,f,q μ z H (am _) fj.refl S g⟩)
  |str l=>
   simp only[bu]at q
   by_cases c:l.length<=mL
   ·rw[aJ c]at q
    cases e1:r6 l i with
    |none=>rw[e1]at q;exact q.elim
    |some w=>
     rw[e1]at q
     exact .inr (.inr ⟨_,i,w,rx.strE,ry.intE,by rw[iN];exact og c,by rw[L6];exact e1,qG S q⟩)
   ·rw[aV c]at q;exact q.elim
  |loc n=>
   simp only[bu]at q
   cases e0:lstOf st n with
   |none=>rw[e0]at q;exact q.elim
   |some ws=>
    rw[e0]at q
    cases e1:r6 ws i with
    |none=>rw[eG,e1]at q;exact q.elim
    |some w=>
     rw[eG,e1]at q
     obtain⟨a,vs,g,hS,r⟩:=S.lstOf e0
     obtain⟨b1,f1,rfl⟩:=rx.locE
     rw[g]at f1;cases f1
     obtain⟨z,f,g⟩:=CU r e1
     exact .inl ⟨_,vs,i,z,rfl,ry.intE,hS,f,q μ z H (am _) fj.refl S g⟩
  |_=>exact q.elim
 |_=>cases wx<;>exact q.elim
theorem tH{α:Type}{o:Option α}{k:α->R W}(h:∀a,tW (k a)):tW (sk o k):=by
 unfold sk
 split
 ·exact h _
 ·trivial
theorem Ph(x y:W)(st:List ao):tW (bu x y st):=by
 unfold bu
 split
 ·exact tH fun _=>trivial
 ·split
  ·exact tH fun _=>trivial
  ·trivial
 ·exact tH fun _=>tH fun _=>trivial
 ·trivial
theorem bb(ha:SE X a fa)(hb:SE X b fb)(hs:CF b:=by intro _ _;rfl):SE X (.Subscript a b pos) (e2 bu fa fb):=⟨(OH R_ ha.h hb.h hs).imp fun _ _ _ h=>CO Ph h⟩
abbrev FO:=cI->List ao->R (Option Int)
abbrev R':List Addr->Hp->Option Int->Option Int->Prop:=fun _ _ a b=>a=b
structure SO(X:Cx)(e:Option Expr)(f:FO):Prop where
 h:PO X e (tG X R' f)
def gC:FO:=fun _ st=>.ok none st
def eJ(fa:FE):FO:=fun ρ st=>(fa ρ st).bind fun x st=>match x with
 |.int i=>.ok (some i) st
 |_=>.bad
theorem PO.imp{X:Cx}{e:Option Expr}{t t':TO}(h:PO X e t)(i:∀σ H Q,t' σ H Q->t σ H Q):PO X e t':=fun al s σ H Q I q=>h al s σ H Q I (i _ _ _ q)
theorem eR:SO X none gC:=⟨IC.imp fun σ H Q h=>by
 obtain⟨μ,ρ,st,l,h⟩:=h
 exact h μ none H (am _) fj.refl l.sto rfl⟩
theorem de(ha:SE X a fa):SO X (some a) (eJ fa):=⟨(ID ha.h).imp fun σ H Q h=>by
 obtain⟨μ,ρ,st,l,h⟩:=h
 refine⟨μ,ρ,st,l,RK.bind h l fun μ1 st1 x v H1 p1 x1 l1 q1 h1=>?_⟩
 cases x with
 |int k=>exact⟨k,q1.intE,h1 μ1 _ H1 (am _) fj.refl l1.sto rfl⟩
 |_=>exact h1.elim⟩
def jc{α:Type}(xs:List α)(lo hi:Option Int):List α:=(xs.drop (HT.sIx xs.length 0 lo)).take (HT.sIx xs.length xs.length hi-HT.sIx xs.length 0 lo)
def vO(x:W)(lo hi:Option Int)(st:List ao):R W:=match x with
 |.tup ws=>.ok (.tup (jc ws lo hi)) st
 |.str l=>if l.length<=mL then .ok (.str (jc l lo hi)) st else .bad
 |.loc n=>sk (lstOf st n) fun ws=>.ok (.loc st.length) (st++[.lst (jc ws lo hi)])
 |_=>.bad
theorem Pi(x:W)(lo hi:Option Int)(st:List ao):tW (vO x lo hi st):=by
 unfold vO sk
 repeat' split
 all_goals trivial
def qA(fa:FE)(fl fh:FO):FE:=fun ρ st=>(fa ρ st).bind fun x st=>(fl ρ st).bind fun l st=>(fh ρ st).bind fun h st=>vO x l h st
theorem Sa:OF X (fun x lo hi H Q=>∃μ st wx,jw X.K X.mg μ st H/\bH X.K μ H wx x/\Ev X μ H Q (vO wx lo hi st)):=by
 intro al s σ H x v vl vu lo hi sl Q I rv hs pl pu ⟨μ,st,wx,S,rx,q⟩
 cases wx with
 |tup ws=>
  obtain⟨p,vs,rfl,hS,r⟩:=rx.tupE
  have hl:=r.len
  by_cases hw:HT.sIx vs.length 0 lo=0/\HT.sIx vs.length vs.length hi=vs.length
  ·cases rv
   obtain⟨bF,w,ht,hz⟩:=I.tuple hS
   have fT:bF.toArray.size=vs.length:=by rw[aT];exact w.length.symm
   refine⟨"tuple",_,ec.lookup,ht.typeIs,zt ht hs pl pu (by rw[fT];exact hw) ⟨.ref p,H,I,rfl,?_⟩⟩
   have e:jc ws lo hi=ws:=by
    unfold jc
    rw[hl,hw.1,hw.2,List.drop_zero,Nat.sub_zero,<- hl,dE]
   have q':Ev X μ H Q (.ok (.tup (jc ws lo hi)) st):=q
   rw[e]at q'
   exact q' μ _ H (am _) fj.refl S rx
  ·refine LZ al s σ H _ v vl vu lo hi sl Q I rv hs pl pu ⟨p,vs,rfl,hS,hw,fun p2 HZ=>?_⟩
   have x:=gg.same (K:=X.K) (du HZ (.tup (uD vs lo hi)))
   have rc:RelWs X.K μ H (jc ws lo hi) (uD vs lo hi):=by
    unfold jc uD
    rw[hl]
    exact(r.drop _).take _
   exact q μ _ _ (am _) x (S.same (du HZ _)) (.tupI gg.new (rc.mono (am _) x))
 |str l=>
  simp only[vO]at q
  by_cases c:l.length<=mL
  ·rw[aJ c]at q
   exact L9 al s σ H _ v vl vu lo hi sl Q I rv hs pl pu ⟨l,rx.strE,og c,qG S q⟩
  ·rw[aV c]at q;exact q.elim
 |loc n=>
  simp only[vO]at q
  cases e0:lstOf st n with
  |none=>rw[e0]at q;exact q.elim
  |some ws=>
   rw[e0]at q
   obtain⟨a,vs,g,hS,r⟩:=S.lstOf e0
   obtain⟨b1,f1,rfl⟩:=rx.locE
   rw[g]at f1;cases f1
   have hl:=r.len
   refine IG al s σ H _ v vl vu lo hi sl Q I rv hs pl pu ⟨_,vs,rfl,hS,fun p2 HZ=>?_⟩
   have rc:RelWs X.K μ H (jc ws lo hi) (uD vs lo hi):=by
    unfold jc uD
    rw[hl]
    exact(r.drop _).take _
   exact q (μ++[p2]) _ _ (a9 _ _) (gg.same (du HZ _)) (S.newLst HZ rc) (qc S)
 |_=>exact q.elim
theorem kO{lo hi:Option Expr}{fl fh:FO}(ha:SE X a fa)(hl:SO X lo fl)(hh:SO X hi fh):SE X (.Subscript a (.Slice lo hi none p2) pos) (qA fa fl fh):=⟨(EW Sa ha.h hl.h hh.h).imp fun σ H Q h=>by
 obtain⟨μ,ρ,st,l,h⟩:=h
 refine⟨μ,ρ,st,l,RK.bind h l fun μ1 st1 x v H1 p1 x1 l1 q1 h1=>⟨μ1,ρ,st1,l1,RK.bind h1 l1 fun μ2 cX y u H2 p2 x2 l2 q2 h2=>⟨μ2,ρ,cX,l2,RK.bind h2 l2 fun μ3 lM z t H3 p3 x3 l3 q3 h3=>?_⟩⟩⟩
 cases q2;cases q3
 exact⟨μ3,lM,x,l3.sto,(q1.mono p2 x2).mono p3 x3,se h3 (Pi _ _ _ _)⟩⟩
def SX(X:Cx)(F:List W->List ao->R W):List V->Hp->VK->Prop:=fun vs H Q=>∃μ st ws,jw X.K X.mg μ st H/\RelWs X.K μ H ws vs/\Ev X μ H Q (F ws st)
structure oh(X:Cx)(f:Value)(F:List W->List ao->R W):Prop where
 h:iU X f (SX X F)
 n:∀ws st,tW (F ws st)
def bE(F:List W->List ao->R W)(fs:FA):FE:=fun ρ st=>(fs ρ st).bind fun ws st=>F ws st
theorem CV{F:List W->List ao->R W}{σ:St}{H:Hp}{Q:VK}(n:∀ws st,tW (F ws st))(h:tE X (bE F fs) σ H Q):RQ (SX X F) (O6 X fs) σ H Q:=by
 obtain⟨μ,ρ,st,l,h⟩:=h
 exact⟨μ,ρ,st,l,RK.bind h l fun μ1 st1 x v H1 p1 x1 l1 q1 h1=>⟨μ1,st1,x,l1.sto,q1,se h1 (n _ _)⟩⟩
theorem bS{id:String}{F:List W->List ao->R W}(hc:oh X (.builtin id) F)(hm:X.mg x=none)(hv:bootBuiltins x=some (.builtin id))(ha:SA X (e::es) fs)(hg:Gl X x:=by rfl)(hn:x ≠ "__name__":=by decide)(HE:(x==("__debug__":Str))=false:=by decide)
  (he:starEach (e::es) X.env=(false,eval e X.env)::starEach es X.env:=by rfl) (pE:(backTo pos (starEach es X.env)).any (·.1)=false:=by rfl):SE X (.Call (.Name x p) (e::es) [] pos) (bE F fs):=⟨(y4 hc.h hg hm hv ha.h hn HE he pE).imp fun _ _ _ h=>CV hc.n h⟩
theorem fJ{T:String}{F:List W->List ao->R W}(hc:oh X (.type T) F)(hm:X.mg x=none)(hv:bootBuiltins x=some (.type T))(ha:SA X (e::es) fs)(hg:Gl X x:=by rfl)(hn:x ≠ "__name__":=by decide)(HE:(x==("__debug__":Str))=false:=by decide)
  (he:starEach (e::es) X.env=(false,eval e X.env)::starEach es X.env:=by rfl) (pE:(backTo pos (starEach es X.env)).any (·.1)=false:=by rfl):SE X (.Call (.Name x p) (e::es) [] pos) (bE F fs):=⟨(DB hc.h hg hm hv ha.h hn HE he pE).imp fun _ _ _ h=>CV hc.n h⟩
theorem RelWs.two{K:Frag}{μ:List Addr}{H:Hp}{a b:W}{vs:List V}(r:RelWs K μ H [a,b] vs):∃x y,vs=[x,y]/\bH K μ H a x/\bH K μ H b y:=by
 obtain⟨x,xs,rfl,rx,rn⟩:=r.consE
 obtain⟨y,ys,rfl,ry,rm⟩:=rn.consE
 rw[rm.nilE];exact⟨x,y,rfl,rx,ry⟩
theorem RelWs.one{K:Frag}{μ:List Addr}{H:Hp}{a:W}{vs:List V}(r:RelWs K μ H [a] vs):∃x,vs=[x]/\bH K μ H a x:=by
 obtain⟨x,xs,rfl,rx,rn⟩:=r.consE
 rw[rn.nilE];exact⟨x,rfl,rx⟩
def dG(ws:List W)(st:List ao):R W:=match ws with
 |[.tup xs]=>.ok (.int xs.length) st
 |[.str l]=>if l.length<=mL then .ok (.int l.length) st else .bad
 |[.loc n]=>sk (lstOf st n) fun xs=>.ok (.int xs.length) st
 |_=>.bad
theorem dZ:oh X (.builtin "len") dG:=⟨fun al s σ H vs us Q I rv ⟨μ,st,ws,S,r,q⟩=>by
 unfold dG at q
 split at q
 ·obtain⟨x,rfl,rx⟩:=r.one
  obtain⟨p,ys,rfl,hS,r'⟩:=rx.tupE
  exact qB al s σ H _ us Q I rv ⟨p,ys,rfl,.inr hS,by rw[<- r'.len];exact kE S q⟩
 ·obtain⟨x,rfl,rx⟩:=r.one
  split at q
  ·rename_i c
   exact xA al s σ H _ us Q I rv ⟨_,by rw[rx.strE],by rw[iN];exact og c,by rw[iN];exact kE S q⟩
  ·exact q.elim
 ·obtain⟨x,rfl,rx⟩:=r.one
  unfold sk at q
  split at q
  ·rename_i ys e0
   obtain⟨a,vs,g,hS,r'⟩:=S.lstOf e0
   obtain⟨b1,f1,rfl⟩:=rx.locE
   rw[g]at f1;cases f1
   exact qB al s σ H _ us Q I rv ⟨_,vs,rfl,.inl hS,by rw[<- r'.len];exact kE S q⟩
  ·exact q.elim
 ·exact q.elim,fun ws st=>by
 unfold dG sk
 repeat' split
 all_goals trivial⟩
def Bv(ws:List W)(st:List ao):R W:=match ws with
 |[.int i,.int j]=>.ok (.int (if j>i then j else i)) st
 |_=>.bad
def DW(ws:List W)(st:List ao):R W:=match ws with
 |[.int i,.int j]=>.ok (.int (if j<i then j else i)) st
 |_=>.bad
theorem Pj(hc:X.calm=true:=by rfl):oh X (.builtin "max") Bv:=⟨fun al s σ H vs us Q I rv ⟨μ,st,ws,S,r,q⟩=>by
 unfold Bv at q
 split at q
 ·obtain⟨x,y,rfl,rx,ry⟩:=r.two
  exact Dv hc al s σ H _ us Q I rv ⟨_,_,by rw[rx.intE,ry.intE],kE S q⟩
 ·exact q.elim,fun ws st=>by unfold Bv;split<;>trivial⟩
theorem Pk(hc:X.calm=true:=by rfl):oh X (.builtin "min") DW:=⟨fun al s σ H vs us Q I rv ⟨μ,st,ws,S,r,q⟩=>by
 unfold DW at q
 split at q
 ·obtain⟨x,y,rfl,rx,ry⟩:=r.two
  exact Dw hc al s σ H _ us Q I rv ⟨_,_,by rw[rx.intE,ry.intE],kE S q⟩
 ·exact q.elim,fun ws st=>by unfold DW;split<;>trivial⟩
def ik(ws:List W)(st:List ao):R W:=match ws with
 |[.tup xs]=>.ok (.tup xs) st
 |[.loc n]=>sk (lstOf st n) fun xs=>.ok (.tup xs) st
 |_=>.bad
theorem jM:oh X (.type "tuple") ik:=⟨fun al s σ H vs us Q I rv ⟨μ,st,ws,S,r,q⟩=>by
 unfold ik at q
 split at q
 ·obtain⟨x,rfl,rx⟩:=r.one
  obtain⟨p,ys,rfl,hS,r'⟩:=id rx.tupE
  exact y6 al s σ H _ us Q I rv ⟨p,ys,rfl,hS,q μ _ H (am _) fj.refl S rx⟩
 ·obtain⟨x,rfl,rx⟩:=r.one
  unfold sk at q
  split at q
  ·rename_i ys e0
   obtain⟨a,vs,g,hS,r'⟩:=S.lstOf e0
   obtain⟨b1,f1,rfl⟩:=rx.locE
   rw[g]at f1;cases f1
   refine y_ al s σ H _ us Q I rv ⟨_,vs,rfl,hS,fun l H2 hl e=>?_⟩
   subst e
   have x:=gg.same (K:=X.K) (du hl (.tup vs))
   exact q μ _ _ (am _) x (S.same (du hl _)) (.tupI gg.new (r'.mono (am _) x))
  ·exact q.elim
 ·exact q.elim,fun ws st=>by
 unfold ik sk
 repeat' split
 all_goals trivial⟩
def wL(ws:List W)(st:List ao):R W:=match ws with
 |[.tup xs]=>.ok (.loc st.length) (st++[.lst xs])
 |[.loc n]=>sk (lstOf st n) fun xs=>.ok (.loc st.length) (st++[.lst xs])
 |_=>.bad
theorem Mq:oh X (.type "list") wL:=⟨fun al s σ H vs us Q I rv ⟨μ,st,ws,S,r,q⟩=>by
 unfold wL at q
 split at q
 ·obtain⟨x,rfl,rx⟩:=r.one
  obtain⟨p,ys,rfl,hS,r'⟩:=id rx.tupE
  refine uJ al s σ H _ us Q I rv ⟨p,ys,rfl,.inr hS,fun l H2 hl e=>?_⟩
  subst e
  exact q (μ++[l]) _ _ (a9 _ _) (gg.same (du hl _)) (S.newLst hl r') (qc S)
 ·obtain⟨x,rfl,rx⟩:=r.one
  unfold sk at q
  split at q
  ·rename_i ys e0
   obtain⟨a,vs,g,hS,r'⟩:=S.lstOf e0
   obtain⟨b1,f1,rfl⟩:=rx.locE
   rw[g]at f1;cases f1
   refine uJ al s σ H _ us Q I rv ⟨_,vs,rfl,.inl hS,fun l H2 hl e=>?_⟩
   subst e
   exact q (μ++[l]) _ _ (a9 _ _) (gg.same (du hl _)) (S.newLst hl r') (qc S)
  ·exact q.elim
 ·exact q.elim,fun ws st=>by
 unfold wL sk
 repeat' split
 all_goals trivial⟩
def DY(ws:List W)(st:List ao):R W:=match ws with
 |[.int i]=>.ok (.int i) st
 |[.bl k]=>.ok (.int (if k then 1 else 0)) st
 |_=>.bad
theorem J8:oh X (.type "int") DY:=⟨fun al s σ H vs us Q I rv ⟨μ,st,ws,S,r,q⟩=>by
 unfold DY at q
 split at q
 ·obtain⟨x,rfl,rx⟩:=r.one
  exact ww al s σ H _ us Q I rv (.inl ⟨_,by rw[rx.intE],kE S q⟩)
 ·obtain⟨x,rfl,rx⟩:=r.one
  exact ww al s σ H _ us Q I rv (.inr ⟨_,by rw[rx.blE],kE S q⟩)
 ·exact q.elim,fun ws st=>by unfold DY;split<;>trivial⟩
end
section
variable{X:Cx}{a b c e o:Expr}{es:List Expr}{pos p p2 f9 d_:Pos}{x name:Str}{j:Nat}{fa fb fc fe:FE}{fs:FA}{ft:FT}{st1:Stmt}{sr sa sb:List Stmt}{g g':FS}
def aN(g g':FS):FS:=fun ρ st=>match g ρ st with
 |.nx ρ' bh=>g' ρ' bh
 |r=>r
def bT:FS:=fun ρ st=>.nx ρ st
theorem bO:SB X [] bT:=⟨Ij.imp fun D σ H h=>by
 obtain⟨μ,ρ,st,l,h⟩:=h
 exact h μ σ H (am _) fj.refl l⟩
theorem aH(h1:SS X st1 g):SB X [st1] g:=⟨Ik h1.h⟩
theorem av(h1:SS X st1 g)(h2:SB X sr g'):SB X (st1::sr) (aN g g'):=⟨(EF h1.h h2.h).imp fun D σ H h=>by
 obtain⟨μ,ρ,st,l,h⟩:=h
 refine⟨μ,ρ,st,l,?_⟩
 unfold aN at h
 cases e:g ρ st with
 |nx ρ' bh=>rw[e]at h;exact fun μ' σ' H' p x l'=>⟨μ',ρ',bh,l',SK.mono h p x⟩
 |rt w bh=>rw[e]at h;exact h
 |bk ρ' bh=>rw[e]at h;exact h
 |ct ρ' bh=>rw[e]at h;exact h
 |ex c ρ' bh=>rw[e]at h;exact h
 |bad=>rw[e]at h;exact h⟩
def Bw:FS:=fun ρ st=>.bk ρ st
def uU:FS:=fun ρ st=>.ct ρ st
theorem Ft:SS X (.Break pos) Bw:=⟨EG.imp fun D σ H h=>by
 obtain⟨μ,ρ,st,l,h⟩:=h
 exact h μ σ H (am _) fj.refl l⟩
theorem ol:SS X (.Continue pos) uU:=⟨y0.imp fun D σ H h=>by
 obtain⟨μ,ρ,st,l,h⟩:=h
 exact h μ σ H (am _) fj.refl l⟩
def R.stmt{α:Type}(r:R α)(ρ:cI)(k:α->List ao->RS):RS:=match r with
 |.ok a st=>k a st
 |.ex c st=>.ex c ρ st
 |.bad=>.bad
@[simp] theorem R.stmt_ok{α:Type}(a:α)(st:List ao)(ρ:cI)(k:α->List ao->RS):(R.ok a st).stmt ρ k=k a st:=rfl
theorem RK.stmt{α β:Type}{rel:List Addr->Hp->α->β->Prop}{μ:List Addr}{ρ:cI}{st:List ao}{σ:St}{H:Hp}{D:xr}{r:R α}{k:α->List ao->RS}{T:β->Hp->Prop}
  (h:SK X μ H D (r.stmt ρ k)) (l:Rl X μ ρ st σ H)
  (hk:∀μ' bh x v H',μ <+: μ'->fj X.K H H'->Rl X μ' ρ bh σ H'->rel μ' H' x v->SK X μ' H' D (k x bh)->T v H'):RK X rel μ σ H T r:=by
 cases r with
 |ok a bh=>exact fun μ' b H' p x s q=>hk μ' bh a b H' p x (l.to p x s) q (SK.mono h p x)
 |ex c bh=>exact XS.toE h l
 |bad=>exact h
def c5(fe:FE):FS:=fun ρ st=>(fe ρ st).stmt ρ fun _ st=>.nx ρ st
theorem cF(he:SE X e fe)(hs:swapsWith e none pos.line X.env=pure false:=by rfl):SS X (.Expr e pos) (c5 fe):=⟨(Il he.h hs).imp fun D σ H h=>by
 obtain⟨μ,ρ,st,l,h⟩:=h
 exact⟨μ,ρ,st,l,RK.stmt h l fun μ1 st1 x v H1 p1 x1 l1 q1 h1=>h1 μ1 σ H1 (am _) fj.refl l1⟩⟩
def cU(fe:FE):FS:=fun ρ st=>(fe ρ st).stmt ρ fun w st=>.rt w st
theorem bq(he:SE X e fe):SS X (.Return (some e) pos) (cU fe):=⟨(Lz he.h).imp fun D σ H h=>by
 obtain⟨μ,ρ,st,l,h⟩:=h
 exact⟨μ,ρ,st,l,RK.stmt h l fun μ1 st1 x v H1 p1 x1 l1 q1 h1=>h1 μ1 v H1 (am _) fj.refl l1.sto q1⟩⟩
def fN(t:FT)(g g':FS):FS:=fun ρ st=>(t ρ st).stmt ρ fun k st=>if k then g ρ st else g' ρ st
theorem cy(hc:ST X c ft)(ha:SB X sa g)(hb:SB X sb g'):SS X (.If c sa sb pos) (fN ft g g'):=⟨(Oo hc.h ha.h hb.h).imp fun D σ H h=>by
 obtain⟨μ,ρ,st,l,h⟩:=h
 refine⟨μ,ρ,st,l,RK.stmt h l fun μ1 st1 x v H1 p1 x1 l1 q1 h1=>?_⟩
 cases q1
 cases x with
 |true=>exact⟨μ1,ρ,st1,l1,h1⟩
 |false=>exact⟨μ1,ρ,st1,l1,h1⟩⟩
abbrev FG:=W->cI->Option cI
abbrev J9:=List W->cI->Option cI
def Pm(X:Cx)(f:FG):TG:=fun v σ H Q=>∃μ ρ st w ρ',Rl X μ ρ st σ H/\bH X.K μ H w v/\f w ρ=some ρ'/\∀σ',Rl X μ ρ' st σ' H->Q σ' H
def Sb(X:Cx)(f:J9):Im:=fun vs σ H Q=>∃μ ρ st ws ρ',Rl X μ ρ st σ H/\RelWs X.K μ H ws vs/\f ws ρ=some ρ'/\∀σ',Rl X μ ρ' st σ' H->Q σ' H
theorem PG.imp{X:Cx}{e:Expr}{t t':TG}(h:PG X e t)(i:∀v σ H Q,t' v σ H Q->t v σ H Q):PG X e t':=fun al s σ H x u Q I r q=>h al s σ H x u Q I r (i _ _ _ _ q)
theorem JY.imp{X:Cx}{e:List Expr}{t t':Im}(h:JY X e t)(i:∀v σ H Q,t' v σ H Q->t v σ H Q):JY X e t':=fun al s σ H x u Q I r q=>h al s σ H x u Q I r (i _ _ _ _ q)
structure SG(X:Cx)(e:Expr)(f:FG):Prop where
 h:PG X e (Pm X f)
structure Q_(X:Cx)(e:List Expr)(f:J9):Prop where
 h:JY X e (Sb X f)
def jy(i:Nat):FG:=fun w ρ=>some (ρ.set i (some w))
theorem CW{i:Nat}(hN:X.N.Nodup)(hi:X.N[i]?=some x)(hx:Ic X.env.scope x)(hf:X.fn x=true\/X.env.scope.names.lookup x=some .local:=by first|exact .inl rfl|exact .inr rfl|assumption):SG X (.Name x pos) (jy i):=⟨(Ip hN hi hx hf).imp fun v σ H Q h=>by
 obtain⟨μ,ρ,st,w,ρ',l,r,e,q⟩:=h
 cases e
 exact q _ ⟨uR r i l.env,l.sto⟩⟩
def pL:J9:=fun ws ρ=>match ws with
 |[]=>some ρ
 |_=>none
def fO(f:FG)(fs:J9):J9:=fun ws ρ=>match ws with
 |w::ws=>(f w ρ).bind fun ρ'=>fs ws ρ'
 |[]=>none
theorem kH:Q_ X [] pL:=⟨Iq.imp fun vs σ H Q h=>by
 obtain⟨μ,ρ,st,ws,ρ',l,r,e,q⟩:=h
 cases ws with
 |nil=>cases e;exact⟨r.nilE,q σ l⟩
 |cons _ _=>cases e⟩
theorem dL{f:FG}{fs:J9}(h1:SG X e f)(h2:Q_ X es fs)(hs:(assignEach (e::es) X.env).map (·.2)=assign e X.env::(assignEach es X.env).map (·.2):=by rfl):Q_ X (e::es) (fO f fs):=⟨(EI h1.h h2.h hs).imp fun vs σ H Q h=>by
 obtain⟨μ,ρ,st,ws,ρ',l,r,e,q⟩:=h
 cases ws with
 |nil=>cases e
 |cons w ws=>
  obtain⟨x,xs,rfl,rx,rs⟩:=r.consE
  simp only[fO]at e
  cases e1:f w ρ with
  |none=>rw[e1]at e;cases e
  |some ρ1=>
   rw[e1]at e
   exact⟨x,xs,rfl,μ,ρ,st,w,ρ1,l,rx,e1,fun σ1 l1=>⟨μ,ρ1,st,ws,ρ',l1,rs,e,q⟩⟩⟩
def Fu(n:Nat)(fs:J9):FG:=fun w ρ=>match w with
 |.tup ws=>if ws.length=n then fs ws ρ else none
 |_=>none
theorem mQ{k n:Nat}{fs:J9}(hc:X.calm=true)(h:Q_ X es fs)(hn:(assignEach es X.env).length=n:=by rfl)(rJ:(assignEach es X.env).findIdx? (·.1)=none:=by rfl):SG X (.Tuple es k pos) (Fu n fs):=⟨(LA hc h.h hn rJ).imp fun v σ H Q h=>by
 obtain⟨μ,ρ,st,w,ρ',l,r,e,q⟩:=h
 cases w with
 |tup ws=>
  obtain⟨p,vs,rfl,hS,rs⟩:=r.tupE
  simp only[Fu]at e
  by_cases c:ws.length=n
  ·rw[aJ c]at e
   exact⟨p,vs,rfl,hS,by rw[<- rs.len];exact c,μ,ρ,st,ws,ρ',l,rs,e,q⟩
  ·rw[aV c]at e;cases e
 |_=>cases e⟩
def uV(fe:FE)(f:FG):FS:=fun ρ st=>(fe ρ st).stmt ρ fun w st=>match f w ρ with
 |some ρ'=>.nx ρ' st
 |none=>.bad
theorem Po{f:FG}{D:xr}{σ:St}{H:Hp}(h:Q9 X (uV fe f) D σ H):EJ (tE X fe) (Pm X f) D σ H:=by
 obtain⟨μ,ρ,st,l,h⟩:=h
 refine⟨μ,ρ,st,l,RK.stmt h l fun μ1 st1 x v H1 p1 x1 l1 q1 h1=>?_⟩
 cases e1:f x ρ with
 |none=>rw[e1]at h1;exact h1.elim
 |some ρ'=>rw[e1]at h1;exact⟨μ1,ρ,st1,x,ρ',l1,q1,e1,fun σ' l'=>h1 μ1 σ' H1 (am _) fj.refl l'⟩
theorem Bx{tg:Expr}{f:FG}(he:SE X e fe)(hg:SG X tg f)(hs:swapsWithSole [tg] e pos.line X.env=pure false:=by rfl)(hw:swappedStores [tg] e X.env=pure none:=by rfl)(h1:(assignEach [tg] X.env).map (·.2)=[assign tg X.env]:=by rfl):SS X (.Assign [tg] e pos) (uV fe f):=⟨(EK he.h hg.h hs hw h1).imp fun D σ H h=>Po h⟩
def be(i:Nat)(fe:FE):FS:=fun ρ st=>(fe ρ st).stmt ρ fun w st=>.nx (ρ.set i (some w)) st
theorem Mr{i:Nat}{ie:Pos}(hN:X.N.Nodup)(hi:X.N[i]?=some x)(hx:Ic X.env.scope x)(he:SE X e fe)(hs:swapsWith e (some (.Name x ie)) pos.line X.env=pure false:=by rfl)(hf:X.fn x=true\/X.env.scope.names.lookup x=some .local:=by first|exact .inl rfl|exact .inr rfl|assumption) :
  SS X (.Assign [.Name x ie] e pos) (be i fe):=⟨(LC hN hi hx he.h hs hf).imp fun D σ H h=>by
 obtain⟨μ,ρ,st,l,h⟩:=h
 exact⟨μ,ρ,st,l,RK.stmt h l fun μ1 st1 x v H1 p1 x1 l1 q1 h1=>h1 μ1 _ H1 (am _) fj.refl ⟨uR q1 i l1.env,l1.sto⟩⟩⟩
def pM(x i v:W)(st:List ao):Option (List ao):=match x,i with
 |.loc n,.int k=>(match st[n]? with
  |some (.lst ws)=>(CC ws.length k).map fun j=>st.set n (.lst (ws.set j v))
  |_=>none)
 |_,_=>none
def zu(fo fi fe:FE)(f:W->W->W->List ao->Option (List ao)):FS:=fun ρ st=>(fe ρ st).stmt ρ fun v st=>(fo ρ st).stmt ρ fun x st=>(fi ρ st).stmt ρ fun i st=>match f x i v st with
 |some bh=>.nx ρ bh
 |none=>.bad
def J_(X:Cx)(f:W->W->W->List ao->Option (List ao)):Io:=fun o i v H Q=>∃μ st wo wi wv bh,jw X.K X.mg μ st H/\bH X.K μ H wo o/\bH X.K μ H wi i/\bH X.K μ H wv v/\f wo wi wv st=some bh/\∀H',fj X.K H H'->jw X.K X.mg μ bh H'->Q H'
theorem By:EH X (J_ X pM):=fun al s σ H o i v ov iv u Q I r1 r2 r3 ⟨μ,st,wo,wi,wv,bh,S,ro,ri,rv,e,q⟩=>by
 cases wo with
 |loc n=>
  cases wi with
  |int k=>
   simp only[pM]at e
   cases e1:st[n]? with
   |none=>rw[e1]at e;cases e
   |some cc=>
    rw[e1]at e
    cases cc with
    |lst ws=>
     simp only at e
     cases e2:CC ws.length k with
     |none=>rw[e2]at e;cases e
     |some jj=>
      rw[e2]at e
      cases e
      obtain⟨a1,g1,vs,k1,r⟩:=S.get e1
      obtain⟨b1,f1,rfl⟩:=ro.locE
      rw[g1]at f1;cases f1
      refine DH al s σ H _ i v ov iv u Q I r1 r2 r3 ⟨a1,vs,k,jj,rfl,ri.intE,k1,by rw[<- r.len];exact e2,fun H2 eH=>?_⟩
      subst eH
      exact q _ (gg.but lq k1) (S.set e1 g1 k1 (r.setI jj rv))
    |_=>cases e
  |_=>cases e
 |_=>cases wi<;>cases e
theorem Bz{f:W->W->W->List ao->Option (List ao)}{i:Expr}{ie:Pos}{fi:FE}{fo:FE}(N1:EH X (J_ X f))(he:SE X e fe)(ho:SE X o fo)(hi:SE X i fi)
  (ha:∀v,assign (.Subscript o i ie) X.env v=(do
   let ov <- holding [v] (eval o X.env)
   let iv <- holding [v,ov] (eval i X.env)
   standAt ie
   holding [v,ov,iv] (setItem ov iv v)
   release [v,ov,iv] []):=by intro _;rfl)
  (hs:swapsWithSole [.Subscript o i ie] e pos.line X.env=pure false:=by rfl) (hw:swappedStores [.Subscript o i ie] e X.env=pure none:=by rfl) (h1:(assignEach [.Subscript o i ie] X.env).map (·.2)=[assign (.Subscript o i ie) X.env]:=by rfl) :
  SS X (.Assign [.Subscript o i ie] e pos) (zu fo fi fe f):=⟨(EK he.h (LB ho.h hi.h N1 ha) hs hw h1).imp fun D σ H h=>by
 obtain⟨μ,ρ,st,l,h⟩:=h
 refine⟨μ,ρ,st,l,RK.stmt h l fun μ1 st1 v vv H1 p1 x1 l1 q1 h1=>⟨μ1,ρ,st1,l1,RK.stmt h1 l1 fun μ2 cX x xv H2 p2 x2 l2 q2 h2=>⟨μ2,ρ,cX,l2,RK.stmt h2 l2 fun μ3 lM i iv H3 p3 x3 l3 q3 h3=>?_⟩⟩⟩
 cases e1:f x i v lM with
 |none=>rw[e1]at h3;exact h3.elim
 |some bh=>
  rw[e1]at h3
  exact⟨μ3,lM,x,i,v,bh,l3.sto,q2.mono p3 x3,q3,(q1.mono p2 x2).mono p3 x3,e1,fun H' xx S'=>h3 μ3 σ H' (am _) xx (l3.to (am _) xx S')⟩⟩
end
def ku(st:List ao):Option (Nat×List W)->Prop
 |none=>True
 |some (n,ws)=>lstOf st n=some ws
abbrev Fv:=List W×Option (Nat×List W)
abbrev FI:=cI->List ao->R Fv
def BA(X:Cx)(J:It)(k:Fv)(μ:List Addr)(H:Hp):Prop:=
 ∀(i:Nat) μ' bh H',μ <+: μ'->fj X.K H H'->jw X.K X.mg μ' bh H'->ku bh k.2 ->
  (∀w,k.1[i]?=some w->J.go i H'/\∀x H'',J.yld i H' x H''->fj X.K H' H''/\jw X.K X.mg μ' bh H''/\bH X.K μ' H'' w x)/\(k.1.length<=i->J.stop i H')
abbrev Pp(X:Cx):List Addr->Hp->Fv->It->Prop:=fun μ H k J=>BA X J k μ H
structure SI(X:Cx)(tg it:Expr)(f:FI):Prop where
 h:PI X tg it (fun σ H R=>tG X (Pp X) f σ H R)
theorem PI.imp{X:Cx}{tg it:Expr}{t t':TI}(h:PI X tg it t)(i:∀σ H Q,t' σ H Q->t σ H Q):PI X tg it t':=fun al s σ H Q I q=>h al s σ H Q I (i _ _ _ q)
open Classical in
def qH(f:FG)(body:FS)(ck:Option (Nat×List W)):List W->FS
 |[],ρ,st=>if ku st ck then .nx ρ st else .bad
 |w::ws,ρ,st=>if ku st ck then(match f w ρ with
  |none=>.bad
  |some ρ'=>(match body ρ' st with
   |.nx ρ2 cX=>qH f body ck ws ρ2 cX
   |.ct ρ2 cX=>qH f body ck ws ρ2 cX
   |.bk ρ2 cX=>.nx ρ2 cX
   |.rt w cX=>.rt w cX
   |.ex c ρ2 cX=>.ex c ρ2 cX
   |.bad=>.bad))else .bad
def lh(fi:FI)(f:FG)(body:FS):FS:=fun ρ st=>(fi ρ st).stmt ρ fun k st=>qH f body k.2 k.1 ρ st
section
variable{X:Cx}{a b c e o tg dQ:Expr}{es:List Expr}{pos p p2:Pos}{fa fb fe:FE}{fs:FA}{ft:FT}{body:List Stmt}{g:FS}{f:FG}{fi:FI}
theorem gZ(hi:SI X tg dQ fi)(hg:SG X tg f)(hb:SB X body g)(hc:X.calm=true:=by rfl)(hp:PassesOwn (model X.prog X.w) X.A X.env X.xe:=by passes_own)(hs:∀x,foldedSetIterable dQ X.env x=pure x:=by intro _;rfl):SS X (.For tg dQ body [] pos) (lh fi f g):=⟨(LF hp hc hi.h hg.h hb.h hs).imp fun D σ H h=>by
 obtain⟨μ,ρ,st,l,h⟩:=h
 refine⟨μ,ρ,st,l,RK.stmt h l fun μ1 st1 k J H1 p1 x1 l1 wk h1=>?_⟩
 refine⟨fun i m σ' H'=>i<=k.1.length/\m=k.1.length-i/\∃μ' ρ' bh,μ1 <+: μ'/\fj X.K H1 H'/\Rl X μ' ρ' bh σ' H'/\SK X μ' H' D (qH f g k.2 (k.1.drop i) ρ' bh),
  ⟨_,ce _,rfl,μ1,ρ,st1,am _,fj.refl,l1,h1⟩,?_⟩
 rintro i m σ' H' ⟨hi,rfl,μ',ρ',bh,pm,xm,lm,hm⟩
 by_cases hlt:i<k.1.length
 ·rw[fD hlt]at hm
  unfold qH at hm
  by_cases ck:ku bh k.2
  ·rw[aJ ck]at hm
   obtain⟨go,yld⟩:=(wk i μ' bh H' pm xm lm.sto ck).1 _ (aj hlt)
   cases hf:f k.1[i] ρ' with
   |none=>rw[hf]at hm;exact hm.elim
   |some ρ2=>
    rw[hf]at hm
    simp only at hm
    refine .inr ⟨go,fun σ2 H2=>∃μ2 ρ3 cX,μ' <+: μ2/\fj X.K H' H2/\Rl X μ2 ρ3 cX σ2 H2/\SK X μ2 H2 D (qH f g k.2 (k.1.drop (i+1)) ρ3 cX),fun σ2 H2 ⟨μ2,ρ3,cX,q1,q2,q3,q4⟩=>
     ⟨_,by omega,hlt,rfl,μ2,ρ3,cX,pm.trans q1,xm.trans q2,q3,q4⟩,fun x H2 hy=>?_⟩
    obtain⟨y1,y2,y3⟩:=yld x H2 hy
    refine⟨μ',ρ',bh,k.1[i],ρ2,lm.to (am _) y1 y2,y3,hf,fun σ2 l2=>⟨μ',ρ2,bh,l2,?_⟩⟩
    cases e:g ρ2 bh with
    |nx ρ3 lM=>rw[e]at hm;exact fun μ4 σ4 H4 p4 x4 l4=>⟨μ4,ρ3,lM,p4,y1.trans x4,l4,SK.mono hm p4 (y1.trans x4)⟩
    |ct ρ3 lM=>rw[e]at hm;exact fun μ4 σ4 H4 p4 x4 l4=>⟨μ4,ρ3,lM,p4,y1.trans x4,l4,SK.mono hm p4 (y1.trans x4)⟩
    |bk ρ3 lM=>rw[e]at hm;exact fun μ4 σ4 H4 p4 x4 l4=>hm μ4 σ4 H4 p4 (y1.trans x4) l4
    |rt w lM=>rw[e]at hm;exact fun μ4 v4 H4 p4 x4=>hm μ4 v4 H4 p4 (y1.trans x4)
    |ex c ρ3 lM=>rw[e]at hm;exact XS.mono hm (am _) y1
    |bad=>rw[e]at hm;exact hm
  ·rw[aV ck]at hm;exact hm.elim
 ·have hi':i=k.1.length:=by omega
  subst hi'
  rw[nj (az _)]at hm
  unfold qH at hm
  by_cases ck:ku bh k.2
  ·rw[aJ ck]at hm
   exact .inl ⟨(wk _ μ' bh H' pm xm lm.sto ck).2 (az _),hm μ' σ' H' (am _) fj.refl lm⟩
  ·rw[aV ck]at hm;exact hm.elim⟩
def d8(t:FT)(body:FS):Nat->FS
 |0,_,_=>.bad
 |n+1,ρ,st=>(t ρ st).stmt ρ fun k st=>if k then(match body ρ st with
   |.nx ρ2 cX=>d8 t body n ρ2 cX
   |.ct ρ2 cX=>d8 t body n ρ2 cX
   |.bk ρ2 cX=>.nx ρ2 cX
   |.rt w cX=>.rt w cX
   |.ex c ρ2 cX=>.ex c ρ2 cX
   |.bad=>.bad)else .nx ρ st
open Classical in
def om(t:FT)(body:FS):FS:=fun ρ st=>if h:∃n,d8 t body n ρ st≠.bad then d8 t body h.choose ρ st else .bad
theorem on(t:FT)(g:FS):∀(n:Nat) (ρ:cI) (st:List ao),d8 t g n ρ st≠.bad->d8 t g (n+1) ρ st=d8 t g n ρ st
 |0,_,_,h=>absurd rfl h
 |n+1,ρ,st,h=>by
  unfold d8 at h ⊢
  cases e:t ρ st with
  |ex c st1=>rfl
  |bad=>rfl
  |ok k st1=>
   rw[e]at h
   simp only[R.stmt_ok]at h ⊢
   cases k with
   |false=>rfl
   |true=>
    simp only[fX]at h ⊢
    cases e2:g ρ st1 with
    |nx ρ2 cX=>rw[e2]at h;exact on t g n ρ2 cX h
    |ct ρ2 cX=>rw[e2]at h;exact on t g n ρ2 cX h
    |_=>rfl
theorem wM{t:FT}{g:FS}{n m:Nat}{ρ:cI}{st:List ao}(h:d8 t g n ρ st≠.bad)(hm:n<=m):d8 t g m ρ st=d8 t g n ρ st:=by
 induction hm with
 |refl=>rfl
 |@step m _ ih=>rw[on t g m ρ st (by rw[ih];exact h),ih]
theorem wN{t:FT}{g:FS}{n:Nat}{ρ:cI}{st:List ao}{r:RS}(h:d8 t g n ρ st=r)(hr:r≠.bad):om t g ρ st=r:=by
 have hx:∃n,d8 t g n ρ st≠.bad:=⟨n,by rw[h];exact hr⟩
 unfold om
 rw[dif_pos hx]
 have c:=hx.choose_spec
 have a:=wM c (Nat.le_max_left hx.choose n)
 have b:=wM (n:=n) (m:=max hx.choose n) (by rw[h];exact hr) (Nat.le_max_right _ _)
 rw[<- a,b,h]
theorem zv{X:Cx}{t:FT}{g:FS}{D:xr}:∀(n:Nat) (σ:St) (H:Hp) (μ:List Addr) (ρ:cI) (st:List ao),Rl X μ ρ st σ H->SK X μ H D (d8 t g n ρ st)->EL (tT X t) (Q9 X g) D σ H:=by
 intro n σ H μ ρ st l h
 refine⟨fun m σ' H'=>∃μ' ρ' bh,Rl X μ' ρ' bh σ' H'/\SK X μ' H' D (d8 t g m ρ' bh),⟨n,μ,ρ,st,l,h⟩,?_⟩
 rintro m σ' H' ⟨μ',ρ',bh,l',h'⟩
 cases m with
 |zero=>exact h'.elim
 |succ m=>
  refine⟨μ',ρ',bh,l',RK.stmt h' l' fun μ1 st1 k v H1 p1 x1 l1 q1 h1=>?_⟩
  cases q1
  cases k with
  |false=>exact h1 μ1 σ' H1 (am _) fj.refl l1
  |true=>
   refine⟨fun σ2 H2=>∃μ2 ρ2 cX,Rl X μ2 ρ2 cX σ2 H2/\SK X μ2 H2 D (d8 t g m ρ2 cX),fun σ2 H2 z=>⟨m,bZ m,z⟩,μ1,ρ',st1,l1,?_⟩
   simp only[fX]at h1
   cases e:g ρ' st1 with
   |nx ρ3 lM=>rw[e]at h1;exact fun μ4 σ4 H4 p4 x4 l4=>⟨μ4,ρ3,lM,l4,SK.mono h1 p4 x4⟩
   |ct ρ3 lM=>rw[e]at h1;exact fun μ4 σ4 H4 p4 x4 l4=>⟨μ4,ρ3,lM,l4,SK.mono h1 p4 x4⟩
   |bk ρ3 lM=>rw[e]at h1;exact h1
   |rt w lM=>rw[e]at h1;exact h1
   |ex c ρ3 lM=>rw[e]at h1;exact h1
   |bad=>rw[e]at h1;exact h1
theorem zw{t:FT}(hc:ST X c t)(hb:SB X body g)(hp:PassesOwn (model X.prog X.w) X.A X.env X.xe:=by passes_own):SS X (.While c body [] pos) (om t g):=⟨(EM hp hc.h hb.h).imp fun D σ H h=>by
 obtain⟨μ,ρ,st,l,h⟩:=h
 unfold om at h
 by_cases hx:∃n,d8 t g n ρ st≠.bad
 ·rw[dif_pos hx]at h;exact zv _ σ H μ ρ st l h
 ·rw[dif_neg hx]at h;exact h.elim⟩
def Fw(fe:FE):FI:=fun ρ st=>(fe ρ st).bind fun x st=>match x with
 |.tup ws=>.ok (ws,none) st
 |_=>.bad
theorem Fx(he:SE X e fe):SI X tg e (Fw fe):=⟨(LD he.h).imp fun σ H R h=>by
 obtain⟨μ,ρ,st,l,h⟩:=h
 refine⟨μ,ρ,st,l,RK.bind h l fun μ1 st1 x v H1 p1 x1 l1 q1 h1=>?_⟩
 cases x with
 |tup ws=>
  obtain⟨p,vs,rfl,hS,r⟩:=q1.tupE
  refine⟨p,rfl,⟨vs,hS⟩,h1 μ1 _ H1 (am _) fj.refl l1.sto fun i μ' bh H' pp xx S _=>⟨fun w hw=>?_,fun hl=>⟨vs,xx _ _ hS,by rw[<- r.len];exact hl⟩⟩⟩
  have r':=r.mono pp xx
  obtain⟨v,g1,g2⟩:=r'.get hw
  refine⟨⟨vs,v,xx _ _ hS,g1⟩,fun y H'' hy=>?_⟩
  obtain⟨rfl,hy⟩:=hy
  have:=hy vs (xx _ _ hS)
  rw[g1]at this;cases this
  exact⟨fj.refl,S,g2⟩
 |_=>exact h1.elim⟩
def J'(fe:FE):FI:=fun ρ st=>(fe ρ st).bind fun x st=>match x with
 |.loc n=>(match lstOf st n with
  |some ws=>.ok (ws,some (n,ws)) st
  |none=>.bad)
 |_=>.bad
theorem Ms(he:SE X e fe):SI X tg e (J' fe):=⟨(Ir he.h).imp fun σ H R h=>by
 obtain⟨μ,ρ,st,l,h⟩:=h
 refine⟨μ,ρ,st,l,RK.bind h l fun μ1 st1 x v H1 p1 x1 l1 q1 h1=>?_⟩
 cases x with
 |loc n=>
  obtain⟨a,ha,rfl⟩:=q1.locE
  simp only at h1
  cases e1:lstOf st1 n with
  |none=>rw[e1]at h1;exact h1.elim
  |some ws=>
   rw[e1]at h1
   obtain⟨a',vs0,g0,hS0,r0⟩:=l1.sto.lstOf e1
   rw[ha]at g0;cases g0
   refine⟨a,rfl,⟨vs0,hS0⟩,h1 μ1 _ H1 (am _) fj.refl l1.sto fun i μ' bh H' pp xx S ck=>?_⟩
   obtain⟨a2,vs,g2,hS,r⟩:=S.lstOf (show lstOf bh n=some ws from ck)
   have:μ'[n]?=some a:=pre_get pp ha
   rw[g2]at this;cases this
   refine⟨fun w hw=>?_,fun hl=>⟨vs,hS,by rw[<- r.len];exact hl⟩⟩
   obtain⟨v,g1,g3⟩:=r.get hw
   refine⟨⟨vs,v,hS,g1⟩,fun y H'' hy=>?_⟩
   obtain⟨rfl,hy⟩:=hy
   have:=hy vs hS
   rw[g1]at this;cases this
   exact⟨fj.refl,S,g3⟩
 |_=>exact h1.elim⟩
def gq(lo:Int)(n:Nat):List W:=(List.range n).map fun(i:Nat)=>W.int (lo+i)
theorem fP(lo:Int)(n:Nat):(gq lo n).length=n:=by simp[gq]
theorem BB{μ:List Addr}{H:Hp}{lo:Int}{n:Nat}:BA X (Q6 lo n) (gq lo n,none) μ H:=fun i μ' bh H' pp xx S _=>by
 refine⟨fun w hw=>?_,fun hl=>by rw[fP]at hl;exact hl⟩
 have hi:i<n:=by
  have:=(ar.mp hw).1
  rw[fP]at this;exact this
 refine⟨hi,fun y H'' hy=>?_⟩
 obtain⟨rfl,rfl⟩:=hy
 have e:w=.int (lo+i):=by
  unfold gq at hw
  rw[aG,iu hi]at hw
  exact(bx hw).symm
 subst e
 exact⟨fj.refl,S,.int⟩
def dC(fs:FA):FI:=fun ρ st=>(fs ρ st).bind fun ws st=>match ws with
 |[.int j]=>if -(2^62)<=j/\j<2^62 then .ok (gq 0 j.toNat,none) st else .bad
 |_=>.bad
theorem gJ(hm:X.mg "range"=none)(ha:SA X [a] fs)(hg:Gl X "range":=by rfl)(hs:starEach [a] X.env=[(false,eval a X.env)]:=by rfl):SI X tg (.Call (.Name "range" p) [a] [] pos) (dC fs):=⟨(Ds hg hm ha.h hs).imp fun σ H R h=>by
 obtain⟨μ,ρ,st,l,h⟩:=h
 refine⟨μ,ρ,st,l,RK.bind h l fun μ1 st1 x v H1 p1 x1 l1 q1 h1=>?_⟩
 split at h1
 ·obtain⟨y,rfl,ry⟩:=q1.one
  split at h1
  ·rename_i c
   exact⟨_,by rw[ry.intE],c.1,c.2,h1 μ1 _ H1 (am _) fj.refl l1.sto BB⟩
  ·exact h1.elim
 ·exact h1.elim⟩
end
end L2
namespace L2
variable{nk:Nat}
open PySem PySem.Spec PyProof.Rows
mutual
def W.und(n:Nat):W->Bool
 |.loc m=>decide (m<n)
 |.tup ws=>undWs n ws
 |_=>true
def undWs(n:Nat):List W->Bool
 |[]=>true
 |w::ws=>w.und n&&undWs n ws
end
def ao.und(n:Nat):ao->Bool
 |.lst ws=>undWs n ws
 |.ro ws=>undWs n ws
 |.exc _=>true
 |.dct gk=>undWs n (gk.map fun p=>p.2)
 |.rod gk=>undWs n (gk.map fun p=>p.2)
 |.dcx gk=>undWs n (gk.map fun p=>p.2)
 |.rox gk=>undWs n (gk.map fun p=>p.2)
 |.obj _ fs=>undWs n (fs.map fun p=>p.2)
 |.tab _ _ _=>true
 |.pin _ _ _ w=>w.und n
 |.gone=>true
section
variable{K:Frag}{mg:Str->Option Value}{μ μ':List Addr}{H H':Hp}
mutual
theorem bH.und:∀{w:W} {v:V},bH K μ H w v->w.und μ.length=true
 |.non,_,_=>by simp[W.und]
 |.bl _,_,_=>by simp[W.und]
 |.int _,_,_=>by simp[W.und]
 |.str _,_,_=>by simp[W.und]
 |.tup _,_,r=>by obtain⟨p,vs,_,_,c⟩:=r.tupE;unfold W.und;exact RelWs.und c
 |.loc _,_,r=>by obtain⟨a,e,_⟩:=r.locE;unfold W.und;exact bY (ar.mp e).1
theorem RelWs.und:∀{ws:List W} {vs:List V},RelWs K μ H ws vs->undWs μ.length ws=true
 |[],_,_=>by unfold undWs;rfl
 |_::_,_,r=>by obtain⟨x,xs,_,b,c⟩:=r.consE;unfold undWs;rw[bH.und b,RelWs.und c];rfl
end
mutual
theorem bH.take{n:Nat}:∀{w:W} {v:V},bH K μ H w v->w.und n=true->bH K (μ.take n) H w v
 |.non,_,r,_=>by rw[r.nonE];exact .non
 |.bl _,_,r,_=>by rw[r.blE];exact .bl
 |.int _,_,r,_=>by rw[r.intE];exact .int
 |.str _,_,r,_=>by rw[r.strE];exact .str
 |.tup _,_,r,b=>by obtain⟨p,vs,rfl,h,c⟩:=r.tupE;unfold W.und at b;exact .tupI h (RelWs.takeN c b)
 |.loc _,_,r,b=>by obtain⟨a,e,rfl⟩:=r.locE;unfold W.und at b;exact .locI (by rw[cE (of_decide_eq_true b)];exact e)
theorem RelWs.takeN{n:Nat}:∀{ws:List W} {vs:List V},RelWs K μ H ws vs->undWs n ws=true->RelWs K (μ.take n) H ws vs
 |[],_,r,_=>by rw[r.nilE];exact .nilI
 |_::_,_,r,b=>by
  obtain⟨x,xs,rfl,b1,c1⟩:=r.consE
  unfold undWs at b
  rw[dr]at b
  exact .consI (bH.take b1 b.1) (RelWs.takeN c1 b.2)
end
theorem KX.und_w(k:KX)(n:Nat):k.w.und n=true:=by
 have hi:∀ks:List Int,undWs n (ks.map W.int)=true:=fun ks=>by
  induction ks with
  |nil=>rfl
  |cons a l ih=>show(true&&undWs n (l.map W.int))=true;rw[ih];rfl
 cases k with
 |bo b=>rfl
 |fl ks=>unfold KX.w W.und;exact hi ks
 |pr i ks=>unfold KX.w W.und undWs;rw[show(W.int i).und n=true from rfl];unfold undWs;rw[show(W.tup (ks.map W.int)).und n=true by unfold W.und;exact hi ks];rfl
theorem uW:∀{gk:List (KX×W)} {es:List DictEntry},Paired (zm K μ H) gk es->undWs μ.length (gk.map fun p=>p.2)=true
 |_,_,.nil=>rfl
 |_,_,.cons r t=>by
  obtain⟨_,_,v,h,_⟩:=r
  show(_&&undWs _ _)=true
  rw[h.und,uW t];rfl
theorem sm{n:Nat}:∀{gk:List (KX×W)} {es:List DictEntry},Paired (zm K μ H) gk es->undWs n (gk.map fun p=>p.2)=true->Paired (zm K (μ.take n) H) gk es
 |_,_,.nil,_=>.nil
 |_,_,.cons r t,b=>by
  obtain⟨a,⟨u,c,d⟩,v,h,g⟩:=r
  have b:(_&&undWs n _)=true:=b
  rw[dr]at b
  exact .cons ⟨a,⟨u,bH.take c (KX.und_w _ n),d⟩,v,bH.take h b.1,g⟩ (sm t b.2)
theorem lD.und{c:ao}{a:Addr}(r:lD K mg μ H c a):c.und μ.length=true:=by
 cases c with
 |lst ws=>obtain⟨vs,_,y⟩:=r;exact y.und
 |ro ws=>obtain⟨vs,_,y⟩:=r;exact y.und
 |exc c=>rfl
 |dct gk=>obtain⟨vs,_,y⟩:=r;exact y.und
 |rod gk=>obtain⟨vs,_,_,y⟩:=r;exact y.und
 |dcx gk=>obtain⟨es,_,_,y,_⟩:=r;exact uW y
 |rox gk=>obtain⟨es,_,_,_,y,_⟩:=r;exact uW y
 |obj _ fs=>obtain⟨_,_,vs,_,_,y⟩:=r;exact y.und
 |tab _ _ _=>rfl
 |pin _ _ _ _=>obtain⟨_,_,_,v,y,_⟩:=r;exact y.und
 |gone=>rfl
theorem lD.take{n:Nat}{c:ao}{a:Addr}(r:lD K mg μ H c a)(b:c.und n=true):lD K mg (μ.take n) H c a:=by
 cases c with
 |lst ws=>obtain⟨vs,x,y⟩:=r;exact⟨vs,x,y.takeN b⟩
 |ro ws=>obtain⟨vs,x,y⟩:=r;exact⟨vs,x,y.takeN b⟩
 |exc c=>exact r
 |dct gk=>obtain⟨vs,x,y⟩:=r;exact⟨vs,x,y.takeN b⟩
 |rod gk=>obtain⟨vs,o,x,y⟩:=r;exact⟨vs,o,x,y.takeN b⟩
 |dcx gk=>obtain⟨es,x,d,y,z⟩:=r;exact⟨es,x,d,sm y b,z⟩
 |rox gk=>obtain⟨es,o,x,d,y,z⟩:=r;exact⟨es,o,x,d,sm y b,z⟩
 |obj _ fs=>obtain⟨C,dx,vs,m,x,y⟩:=r;exact⟨C,dx,vs,m,x,y.takeN b⟩
 |tab _ _ _=>exact r
 |pin _ _ _ _=>obtain⟨ea,p,g,v,y,z⟩:=r;exact⟨ea,p,g,v,y.take b,z⟩
 |gone=>trivial
end
theorem gz.ex{P:Program}{w:World}{H:Hp}{h:Heap}{a:Addr}{o:HO}(x:gz P w nk H h a o):∃ob,h.get? a=some ob:=by
 cases o with
 |lst xs=>obtain⟨_,_,_,_,e⟩:=x;exact⟨_,e⟩
 |tup xs=>obtain⟨_,_,_,o,e,_⟩:=x;exact⟨_,e⟩
 |dK gk=>obtain⟨_,_,_,_,o,_,_,e,_⟩:=x;exact⟨_,e⟩
 |dT gk=>obtain⟨_,_,_,_,o,_,_,e,_⟩:=x;exact⟨_,e⟩
 |set S n=>obtain⟨o,_,_,_,e,_⟩:=x;exact⟨_,e⟩
 |ins C dx fs=>obtain⟨_,_,_,e,_⟩:=x;exact⟨_,e⟩
 |own y=>obtain⟨_,e⟩:=x;exact⟨_,e⟩
 |xd fs=>obtain⟨_,⟨_,_,_,e,_⟩,_⟩:=x;exact⟨_,e⟩
 |rng lo hi=>obtain⟨_,_,_,e⟩:=x;exact⟨_,e⟩
 |frz ob u=>obtain⟨e,_⟩:=x;exact⟨_,e⟩
 |tbl ps=>exact⟨_,(show h.get? a=some _ from x)⟩
 |met f y=>exact⟨_,(show h.get? a=some _ from x)⟩
 |ext φ=>obtain⟨_,⟨_,e⟩,_⟩:=x;exact⟨_,e⟩
def Ka(st bh:List ao)(ws:List W):Prop:=undWs st.length ws=true/\st.length<=bh.length/\∀(i:Nat),i<st.length->bh[i]?=st[i]?\/∃c,bh[i]?=some c/\c.und st.length=true
open Classical in
def g9(st bh:List ao)(ws:List W):List ao:=if Ka st bh ws then bh.take st.length else bh
theorem uX{K:Frag}{mg:Str->Option Value}{μ μ':List Addr}{H H':Hp}{st bh:List ao}{ws:List W}{vs:List V}(S:jw K mg μ st H)(S':jw K mg μ' bh H')(p:μ <+: μ')(r:RelWs K μ' H' ws vs) :
  ∃μ2,μ <+: μ2/\jw K mg μ2 (g9 st bh ws) H'/\RelWs K μ2 H' ws vs:=by
 unfold g9
 by_cases k:Ka st bh ws
 ·rw[aJ k]
  obtain⟨k1,k2,k3⟩:=k
  have e:μ'.take st.length=μ:=by
   obtain⟨t,rfl⟩:=p
   rw[S.len,gc]
  refine⟨μ'.take st.length,by rw[e];exact am _,⟨fun i j a ci cj h1 h2 r1 r2 m1 m2=>?_,by rw[aL,aL,S'.len],fun i c a h1 h2=>?_⟩,r.takeN k1⟩
  ·have hi:i<st.length:=by have:=(ar.mp h1).1;rw[aL]at this;omega
   have hj:j<st.length:=by have:=(ar.mp h2).1;rw[aL]at this;omega
   rw[cE hi]at h1 m1
   rw[cE hj]at h2 m2
   exact S'.nd i j a ci cj h1 h2 r1 r2 m1 m2
  ·have hi:i<st.length:=by have:=(ar.mp h1).1;rw[aL]at this;omega
   rw[cE hi]at h1 h2
   refine(S'.at' i c a h1 h2).take ?_
   rcases k3 i hi with q|⟨c',q,b⟩
   ·rw[h1]at q
    obtain⟨a0,g0,r0⟩:=S.get q.symm
    have:=r0.und
    rw[S.len];exact this
   ·rw[h1]at q;cases q;exact b
 ·rw[aV k]
  exact⟨μ',p,S',r⟩
def cY(N:Nat)(body:FS)(ws:List W)(st:List ao):R W:=match body (ws.map some++List.replicate (N-ws.length) none) st with
 |.rt w bh=>.ok w (g9 st bh [w])
 |.nx _ bh=>.ok .non (g9 st bh [])
 |.ex c _ bh=>.ex c (g9 st bh [])
 |_=>.bad
def hV(P:Program)(w:World):Dz:=fun outer H s E e s'=>∃x C t B H',e=.ref x/\E C none H'/\s'.os=s.os/\AllBare s'.gens/\Un (uf outer) [] H H' s.heap s'.heap/\rR P w s'.toks H' s'.heap/\H' x=none/\Heap.FlyingW B outer x C (.ref t) s'.heap /\
 ∀b o,s'.heap.get? b=some o->(H' b≠none\/((∃o0,s.heap.get? b=some o0)/\b∉uf outer))->B.get? b=some o
def iy(K:Frag)(mg:Str->Option Value)(n:Nat)(F:List W->List ao->R W):Sp:=fun vs H Q E=>vs.length=n/\∃μ ws st,jw K mg μ st H/\RelWs K μ H ws vs/\(match F ws st with
 |.ok w bh=>∀μ' v H',μ <+: μ'->fj K H H'->jw K mg μ' bh H'->bH K μ' H' w v->Q v H'
 |.ex c bh=>∀C μ' H',mg c=some C->μ <+: μ'->fj K H H'->jw K mg μ' bh H'->E C none H'
 |.bad=>False)
theorem wK.noted{X:Cx}{al:List (Addr×Obj)}{σ:St}{c:Str}{H:Hp}{e:Value}{s:Shared}{Q:Unit->Shared->Prop}{E:Value->Shared->Prop}{M:Model}{outer:List Env}(f:wK X al σ c H e s)(rJ:X.stack=X.env::outer)(Cu:X.env.frame=some X.env.locals)(hA:X.A.frames=some X.stack)
  (h:∀x C t B h',e=.ref x->X.mg c=some C->H x=none->Heap.FlyingW B X.stack x C (.ref t) h'->s.heap.UpToSlots h' ->
   (∀b o,s.heap.get? b=some o->(H b≠none\/((∃o0,X.s₀.heap.get? b=some o0)/\b∉X.fs/\b∉X.ex)\/((∃y,X.env.cells.lookup y=some b)/\b∉uf X.stack)\/∃p∈X.pn++al,p.1=b)->B.get? b=some o)->Q () { s with heap:=h' }) :
  wpAny M X.A (leaving X.env e) Q E s:=by
 obtain⟨x,C,t,B,rfl,hC,hx,st,nx,ff,tr,cov⟩:=f.ex
 rw[rJ]at ff hA
 rcases tr with tr|⟨oe,vs,he,rfl,_,hd,h1,h0⟩|⟨L,hL,tr⟩
 ·refine wpAny_leaving_nextW hA ff Cu tr st nx fun h' hL=>?_
  obtain⟨k1,k2,k3,k4⟩:=hL
  exact h x C t B h' rfl hC hx ⟨k1,nx,by rw[rJ];exact k2,k3⟩ k4 cov
 ·refine wpAny_leaving_firstW hA ff Cu he st nx hd h1 h0 fun h' hL=>?_
  obtain⟨k1,k2,k3,k4⟩:=hL
  exact h x _ t B h' rfl hC hx ⟨k1,nx,by rw[rJ];exact k2,k3⟩ k4 cov
 ·unfold leaving
  refine aa (wpAny_noteFrame_againW hL tr (wpAny_landsW ⟨st,nx,ff,tr⟩ fun h' fl up=>?_))
  exact h x C t B h' rfl hC hx (by rw[rJ];exact fl) up cov
theorem wK.leaves{X:Cx}{al:List (Addr×Obj)}{σ:St}{c:Str}{H:Hp}{e:Value}{s:Shared}{E:XK}{E':Value->Shared->Prop}{M:Model}(f:wK X al σ c H e s)(rJ:X.stack=X.env::X.outer)(Cu:X.env.frame=some X.env.locals)(hA:X.A.frames=some X.stack)(yW:X.ex=[])
  (hE:∀C,X.mg c=some C->E C none H):wpAny M X.A (leaving X.env e) (fun _ s''=>hV X.prog X.w X.outer X.H₀ X.s₀ E e s'') E' s:=by
 refine f.noted rJ Cu hA fun x C t B h' he hC hx fl up cov=>?_
 have I:=f.inv
 have un:=I.base
 rw[yW]at un
 have fsE:X.fs=uf X.outer:=rfl
 obtain⟨f1,f2,f3,f4⟩:=fl
 rw[rJ]at f3
 obtain⟨_,_,f3'⟩:=f3
 have frames:∀b∈uf X.outer,∀o,s.heap.get? b=some o->∃sl,h'.get? b=some { o with slots:=sl }:=fun b hb o ho=>by
  obtain⟨_,o',ho',hd⟩:=I.funs.mem hb
  rw[ho]at ho';cases ho'
  exact up b o ho hd
 have kept:∀b o,s.heap.get? b=some o->(∃o0,X.s₀.heap.get? b=some o0)->b∉uf X.outer->h'.get? b=some o:=fun b o ho h0 hb=>f1 b o (cov b o ho (.inr (.inl ⟨h0,hb,by rw[yW];simp⟩)))
 have keptH:∀b o,s.heap.get? b=some o->H b≠none->h'.get? b=some o:=fun b o ho h0=>f1 b o (cov b o ho (.inl h0))
 refine⟨x,C,t,B,H,he,hE C hC,I.os,I.bare,⟨fun b o q n hb hx=>?_,fun b o q n hb hx=>?_,fun b o q n hx=>un.free b o q n hx,fun b o q hx=>?_,un.tups,un.frzs,un.tbls⟩,fun b u hb=>?_,hx,⟨f1,f2,f3',f4⟩,fun b o ho hr=>?_⟩
 ·exact kept b o (un.keep b o q n hb hx) ⟨o,q⟩ hb
 ·obtain⟨sl,q1⟩:=un.slot b o q n hb hx
  obtain⟨sl2,q2⟩:=frames b hb _ q1
  exact⟨sl2,q2⟩
 ·obtain⟨o',q1⟩:=un.there b o q hx
  by_cases hb:b∈uf X.outer
  ·obtain⟨sl2,q2⟩:=frames b hb _ q1;exact⟨_,q2⟩
  ·exact⟨o',kept b o' q1 ⟨o,q⟩ hb⟩
 ·refine(I.hok b u hb).stay (fun c v hc q=>?_) (fun _ q=>q) fun _ _ q=>q
  refine keptH c v q ?_
  rcases hc with rfl|hc
  ·rw[hb];simp
  ·rw[hc];simp
 ·rcases hr with hr|⟨⟨o0,h0⟩,hb⟩
  ·cases hu:H b with
   |none=>exact absurd hu hr
   |some u=>
    have lt:=I.hok.lt hu
    obtain⟨ob,hob⟩:∃ob,s.heap.get? b=some ob:=by
     exact(I.hok b u hu).ex
    have:=keptH b ob hob hr
    rw[ho]at this;cases this
    exact cov b o hob (.inl hr)
  ·obtain⟨o',q1⟩:=un.there b o0 h0 (by simp)
   have:=kept b o' q1 ⟨o0,h0⟩ hb
   rw[ho]at this;cases this
   exact cov b o q1 (.inr (.inl ⟨⟨o0,h0⟩,hb,by rw[yW];simp⟩))
structure bV(P:Program)(w:World)(K:Frag)(mg:Str->Option Value)(base:Heap)(k:Nat)(x:Str)(n:Nat)(F:List W->List ao->R W):Prop where
 ex:∃(f:Addr) (fd:FuncData) (ps:List Str),mg x=some (.ref f)/\keepIn K (.ref f)=true/\ps.length=n/\pF K fd ps []/\cV P w K mg base (hV P w) k f fd ps (iy K mg n F)
theorem bV.mono{P:Program}{w:World}{K:Frag}{mg:Str->Option Value}{base:Heap}{j k:Nat}{x:Str}{n:Nat}{F:List W->List ao->R W}(h:bV P w K mg base j x n F)(hj:j<=k):bV P w K mg base k x n F:=by
 obtain⟨f,fd,ps,a,b,c,d,e⟩:=h.ex
 exact⟨f,fd,ps,a,b,c,d,e.mono hj⟩
def cx(n:Nat)(F:List W->List ao->R W)(fs:FA):FE:=fun ρ st=>(fs ρ st).bind fun ws st=>if ws.length=n then F ws st else .bad
section
variable{X:Cx}
theorem Fy{k n:Nat}{f:Addr}{fd:FuncData}{ps:List Str}{F:List W->List ao->R W}{al:List (Addr×Obj)}{σ:St}{H:Hp}{s:Shared}{Q:VK}{us:List Value}{vs:List V}{μ:List Addr}{st:List ao}{ws:List W}
  (Fn:cV X.prog X.w X.K X.mg X.base (hV X.prog X.w) k f fd ps (iy X.K X.mg n F)) (hn:ps.length=n) (hr:i' k X.A) (hb:pF X.K fd ps []) (I:bU X al σ H s) (S:jw X.K X.mg μ st H) (r:RelWs X.K μ H ws vs) (rv:cG s.toks vs us) (hl:ws.length=n)
  (h:RK X (r_ X) μ σ H Q (F ws st)):wpAny (model X.prog X.w) X.A (call (.ref f) us) (EP X al σ Q) X.xe s:=by
 have hl':(us++([]:List Value)).length=ps.length:=by rw[bf,<- rv.length,<- r.len,hl,hn]
 cases e:F ws st with
 |bad=>rw[e]at h;exact h.elim
 |ok w bh=>
  rw[e]at h
  refine up (qx (ig (Fn.run X.A X.stack s H ⟨us,[]⟩ us vs Q (fun _ _ _=>False) hr I.env0 (.inl I.pos) (by have:=hb s us I.kIn hl';rwa[bf]at this) rv ⟨by rw[<- r.len];exact hl,μ,ws,st,S,r,by rw[e];exact h⟩) fun r s' hq=>?_))
  cases r with
  |error e=>obtain⟨_,_,_,_,_,_,z,_⟩:=hq;exact z.elim
  |ok fl=>
   cases fl with
   |ret u=>exact fun kt=>I.after hq kt
   |next=>exact False.elim hq
   |brk=>exact False.elim hq
   |cont=>exact False.elim hq
 |ex c bh=>
  rw[e]at h
  refine up (qx (ig (Fn.run X.A X.stack s H ⟨us,[]⟩ us vs (fun _ _=>False) (fun C _ H'=>X.mg c=some C/\∃μ',μ <+: μ'/\fj X.K H H'/\jw X.K X.mg μ' bh H') hr I.env0 (.inl I.pos) (by have:=hb s us I.kIn hl';rwa[bf]at this) rv
   ⟨by rw[<- r.len];exact hl,μ,ws,st,S,r,by rw[e];exact fun C μ' H' hC p x S'=>⟨hC,μ',p,x,S'⟩⟩) fun r s' hq=>?_))
  cases r with
  |ok fl=>
   cases fl with
   |ret u=>obtain⟨_,_,_,_,_,_,_,z⟩:=hq;exact z.elim
   |next=>exact False.elim hq
   |brk=>exact False.elim hq
   |cont=>exact False.elim hq
  |error ev=>
   obtain⟨x,C,t,B,H',rfl,⟨hC,μ',p,xx,S'⟩,os,bare,un,hok,hx,fl,cov⟩:=hq
   intro kt
   have I':bU X al σ H' s':=I.call' os un hok bare (fun b hb=>absurd hb (by simp)) kt
   refine h al μ' H' (.ref x) s' p xx S' ⟨I',x,C,t,B,rfl,hC,hx,fl.1,fl.2.1,fl.2.2.1,.inl fl.2.2.2,fun b o ho hrel=>?_⟩
   refine cov b o ho ?_
   rcases hrel with q|⟨⟨o0,h0⟩,hb,hbx⟩|⟨⟨y,hy⟩,hb⟩|⟨pp,hp,rfl⟩
   ·exact .inl q
   ·refine .inr ⟨?_,fun z=>?_⟩
    ·obtain⟨o',q1⟩:=I.base.there b o0 h0 hbx
     exact⟨o',q1⟩
    ·rcases aS.mp (I.stkSub b z)with z|z
     ·rw[z]at h0
      exact absurd (aQ (aI h0) I.ok.above) (dz _)
     ·exact hb z
   ·obtain⟨v,ov,hov,_⟩:=I.cell y b hy
    exact .inr ⟨⟨_,hov⟩,hb⟩
   ·obtain⟨g1,g2,g3,g4,_⟩:=I.pin pp hp
    refine .inr ⟨⟨_,g1⟩,fun z=>?_⟩
    rcases aS.mp (I.stkSub _ z)with z|z
    ·exact g3 z
    ·exact g4 z
variable{e:Expr}{es:List Expr}{pos p:Pos}{x:Str}{fs:FA}
theorem bW{k k' n:Nat}{F:List W->List ao->R W}(Fn:bV X.prog X.w X.K X.mg X.base k x n F)(hr:i' k' X.A)(hk:k<=k')(ha:SA X (e::es) fs)(hg:Gl X x:=by rfl)(HE:(x==("__debug__":Str))=false:=by decide)
  (he:starEach (e::es) X.env=(false,eval e X.env)::starEach es X.env:=by rfl) (pE:(backTo pos (starEach es X.env)).any (·.1)=false:=by rfl):SE X (.Call (.Name x p) (e::es) [] pos) (cx n F fs):=⟨by
 intro al s σ H Q I h
 obtain⟨f,fd,ps,hm,hkp,hn,hb,Fo⟩:=(Fn.mono hk).ex
 refine fz (ug I hg hm ?_ HE)
 obtain⟨μ,ρ,st,l,h⟩:=h
 have h':O6 X fs σ H fun vs H1=>∃μ1 st1 ws,Rl X μ1 ρ st1 σ H1/\RelWs X.K μ1 H1 ws vs/\RK X (r_ X) μ1 σ H1 Q (if ws.length=n then F ws st1 else .bad):=
  ⟨μ,ρ,st,l,RK.bind h l fun μ1 st1 x v H1 p1 x1 l1 q1 h1=>⟨μ1,st1,x,l1,q1,h1⟩⟩
 refine PySem.W.callWith_K (h₀:=X.base) I.ok.mod.kin hkp (jq (ha.h pos al s σ H _ I h') fun us s1 kt1 ⟨vs,H1,I1,r,μ1,st1,ws,l1,r1,q⟩=>⟨I1.kIn,?_⟩) he pE
 by_cases c:ws.length=n
 ·rw[aJ c]at q
  exact Fy Fo hn hr hb I1 l1.sto r1 r c q
 ·rw[aV c]at q;exact q.elim⟩
end
theorem Jc{P:Program}{w:World}{K:Frag}{mg:Str->Option Value}{base:Heap}{x fv:Str}{st:Stmt}{f:Addr}{fd:FuncData}{N ps:List Str}{k n:Nat}{g:FS}(F:iw K x fv st f fd)(S:a_ N ps (aP st))(hn:ps.length=n)
  (AV:∀(e_:Value) (A:Around) (outer:List Env) (s:Shared) (H:Hp) (E:XK),fd.code=e_->i' k (A.deeper (envOfC fv (aP st) s.heap.objs.size f e_)) ->
   SB (A9 (hV P w) P w K mg base N fv (aP st) f e_ A outer s H E) (gp st) g):cV P w K mg base (hV P w) (k+1) f fd ps (iy K mg n (cY N.length g)):=by
 obtain⟨oc,od,kV,rS,pm,an,e_,ct,La,rfl,lk,Eu⟩:=F.ex
 refine OD lk Eu S (fun vs H Q E h=>by rw[hn];exact h.1) fun A outer s H vs Q E hr Lf=>?_
 obtain⟨hl,μ,ws,Rs,Sr,r,h⟩:=Lf
 refine⟨_,(AV e_ A outer s H E rfl hr).h,μ,ws.map some++List.replicate (N.length-ws.length) none,Rs,⟨?_,Sr⟩,?_⟩
 ·unfold tt
  rw[<- r.len]
  have base:∀(ws:List W) (vs:List V) (m:Nat),RelWs K μ H ws vs->Paired (fun(o:Option W) (s:Option V)=>∀w,o=some w->∃v,s=some v/\bH K μ H w v) (ws.map some++List.replicate m none) (vs.map some++List.replicate m none):=by
   intro ws
   induction ws with
   |nil=>
    intro vs m r
    rw[r.nilE]
    induction m with
    |zero=>exact .nil
    |succ m ih=>exact .cons (fun w z=>nomatch z) ih
   |cons w ws ih=>
    intro vs m r
    obtain⟨y,ys,rfl,ry,rys⟩:=r.consE
    exact .cons (fun w' z=>⟨y,rfl,by cases z;exact ry⟩) (ih ys m rys)
  exact base ws vs _ r
 ·unfold cY at h
  cases e:g (ws.map some++List.replicate (N.length-ws.length) none) Rs with
  |rt w bh=>
   rw[e]at h
   intro μ' v H' p x S' sZ
   obtain⟨μ2,p2,S2,r2⟩:=uX Sr S' p (.consI sZ .nilI)
   obtain⟨_,e2,r3⟩:=r2.one
   cases e2
   exact h μ2 v H' p2 x S2 r3
  |nx ρ' bh=>
   rw[e]at h
   intro μ' σ' H' p x l'
   obtain⟨μ2,p2,S2,_⟩:=uX (ws:=[]) (vs:=[]) Sr l'.sto p .nilI
   exact h μ2 .non H' p2 x S2 .non
  |ex c ρ' bh=>
   rw[e]at h
   intro al μ' σ' H' ev s' p x l' fl
   obtain⟨μ2,p2,S2,_⟩:=uX (ws:=[]) (vs:=[]) Sr l'.sto p .nilI
   exact fl.leaves rfl rfl fl.inv.ok.frames rfl fun C hC=>h C μ2 H' hC p2 x S2
  |bk ρ' bh=>rw[e]at h;exact h.elim
  |ct ρ' bh=>rw[e]at h;exact h.elim
  |bad=>rw[e]at h;exact h.elim
theorem bP{P:Program}{w:World}{K:Frag}{mg:Str->Option Value}{base:Heap}{x fv:Str}{st:Stmt}{f:Addr}{fd:FuncData}{N ps:List Str}{k n:Nat}{g:FS}(F:iw K x fv st f fd)(S:a_ N ps (aP st))(hn:ps.length=n)
  (AV:∀(e_:Value) (A:Around) (outer:List Env) (s:Shared) (H:Hp) (E:XK),i' k (A.deeper (envOfC fv (aP st) s.heap.objs.size f e_)) ->
   SB (A9 (hV P w) P w K mg base N fv (aP st) f e_ A outer s H E) (gp st) g):cV P w K mg base (hV P w) (k+1) f fd ps (iy K mg n (cY N.length g)):=Jc F S hn fun e_ A outer s H E _ hr=>AV e_ A outer s H E hr
theorem xL{P:Program}{w:World}{K:Frag}{mg:Str->Option Value}{base:Heap}{k n:Nat}{x:Str}{st:Stmt}{f:Addr}{fd:FuncData}{ps:List Str}{G:List W->List ao->R W}
  (F:iw K x x st f fd) (hm:mg x=some (.ref f)) (hn:ps.length=n)
  (hb:∀(kV rS pm:Value) (an:Option Addr) (e_ ct:Value) (us:List Value),us.length=ps.length->bindArgs (fnOf x x (hW st) (gp st) (aP st) .none kV rS pm an e_ ct) ⟨us,[]⟩=pure (ps.zip us))
  (ok:cV P w K mg base (hV P w) k f fd ps (iy K mg n G)):bV P w K mg base k x n G:=⟨f,fd,ps,hm,F.kp,hn,F.binds hb,ok⟩
end L2
namespace L2
open PySem PySem.Spec PyProof.Rows
theorem RelWs.split{K:Frag}{μ:List Addr}{H:Hp}:∀{as bs:List W} {vs:List V},RelWs K μ H (as++bs) vs->∃xs ys,vs=xs++ys/\RelWs K μ H as xs/\RelWs K μ H bs ys
 |[],_,vs,r=>⟨[],vs,rfl,.nilI,r⟩
 |w::as,bs,vs,r=>by
  obtain⟨x,xs,rfl,rx,rs⟩:=r.consE
  obtain⟨ys,zs,rfl,r1,r2⟩:=RelWs.split rs
  exact⟨x::ys,zs,rfl,.consI rx r1,r2⟩
section
variable{X:Cx}{a b c e o tg:Expr}{es:List Expr}{pos p p2 f9 d_:Pos}{x name:Str}{fa fb fe fo:FE}{fs:FA}{id:String}
structure N6(X:Cx)(id:String)(F:W->List W->List ao->R W):Prop where
 h:DC X id (fun x vs H Q=>∃μ st wx ws,jw X.K X.mg μ st H/\bH X.K μ H wx x/\RelWs X.K μ H ws vs/\Ev X μ H Q (F wx ws st))
 n:∀x ws st,tW (F x ws st)
def kP(st:List ao):W->Bool
 |.loc n=>(match st[n]? with|some (.lst _)=>true|_=>false)
 |_=>false
def wO:W->Bool
 |.str _=>true
 |_=>false
theorem zx{μ:List Addr}{st:List ao}{H:Hp}{w:W}{v:V}(S:jw X.K X.mg μ st H)(r:bH X.K μ H w v)(h:kP st w=true):∃l ys,v=.ref l/\H l=some (.lst ys):=by
 cases w with
 |loc n=>
  obtain⟨a,ha,rfl⟩:=r.locE
  simp only[kP]at h
  cases e1:st[n]? with
  |none=>rw[e1]at h;cases h
  |some cc=>
   rw[e1]at h
   cases cc with
   |lst ws=>obtain⟨a1,g1,vs,k1,_⟩:=S.get e1;rw[ha]at g1;cases g1;exact⟨_,vs,rfl,k1⟩
   |_=>cases h
 |_=>cases h
def kQ(F:W->List W->List ao->R W)(fo:FE)(fs:FA):FE:=fun ρ st=>(fo ρ st).bind fun x st=>if kP st x then(fs ρ st).bind fun ws st=>F x ws st else .bad
def HX(F:W->List W->List ao->R W)(fo:FE)(fs:FA):FE:=fun ρ st=>(fo ρ st).bind fun x st=>if wO x then(fs ρ st).bind fun ws st=>F x ws st else .bad
theorem li{F:W->List W->List ao->R W}(slot:Slot "list" name id)(Cr:typeOf (.builtin id)=pure (.type "method_descriptor"))(hm:N6 X id F)(ho:SE X o fo)(ha:SA X (e::es) fs)
  (jS:attributeBase o name X.env (eval o X.env)=eval o X.env:=by rfl)
  (qv:((backTo d_ (starEach (e::es) X.env)).all (fun x=>!x.1)&&(backToKw d_ (keywordEach [] X.env)).all (fun x=>x.1.isSome)
   && decide ((e::es).length+([]:List Keyword).length+(if ([]:List Keyword).isEmpty then 0 else 1)<30))=true:=by rfl)
  (jR:(f9.endLine==d_.line)=true:=by rfl) (hs:starEach (e::es) X.env=(false,eval e X.env)::starEach es X.env:=by rfl) (m9:(backTo d_ (starEach es X.env)).any (·.1)=false:=by rfl) :
  SE X (.Call (.Attribute o name f9) (e::es) [] d_) (kQ F fo fs):=⟨(OQ slot Cr hm.h ho.h ha.h jS qv jR hs m9).imp fun σ H Q h=>by
 obtain⟨μ,ρ,st,l,h⟩:=h
 refine⟨μ,ρ,st,l,RK.bind h l fun μ1 st1 x v H1 p1 x1 l1 q1 h1=>?_⟩
 by_cases c:kP st1 x=true
 ·rw[aJ c]at h1
  refine⟨zx l1.sto q1 c,μ1,ρ,st1,l1,RK.bind h1 l1 fun μ2 cX ws vs H2 p2 x2 l2 q2 h2=>?_⟩
  exact⟨μ2,cX,x,ws,l2.sto,q1.mono p2 x2,q2,se h2 (hm.n _ _ _)⟩
 ·rw[aV c]at h1;exact h1.elim⟩
theorem pN{F:W->List W->List ao->R W}(slot:Slot "list" name id)(Cr:typeOf (.builtin id)=pure (.type "method_descriptor"))(hm:N6 X id F)(ho:SE X o fo)
  (jS:attributeBase o name X.env (eval o X.env)=eval o X.env:=by rfl) (jR:(f9.endLine==d_.line)=true:=by rfl):SE X (.Call (.Attribute o name f9) [] [] d_) (kQ F fo aD):=⟨(L' slot Cr hm.h ho.h jS jR).imp fun σ H Q h=>by
 obtain⟨μ,ρ,st,l,h⟩:=h
 refine⟨μ,ρ,st,l,RK.bind h l fun μ1 st1 x v H1 p1 x1 l1 q1 h1=>?_⟩
 by_cases c:kP st1 x=true
 ·rw[aJ c]at h1
  exact⟨zx l1.sto q1 c,μ1,st1,x,[],l1.sto,q1,.nilI,se h1 (hm.n _ _ _)⟩
 ·rw[aV c]at h1;exact h1.elim⟩
theorem Jd{F:W->List W->List ao->R W}(slot:Slot "str" name id)(Cr:typeOf (.builtin id)=pure (.type "method_descriptor"))(hm:N6 X id F)(ho:SE X o fo)(ha:SA X (e::es) fs)
  (jS:attributeBase o name X.env (eval o X.env)=eval o X.env:=by rfl)
  (qv:((backTo d_ (starEach (e::es) X.env)).all (fun x=>!x.1)&&(backToKw d_ (keywordEach [] X.env)).all (fun x=>x.1.isSome)
   && decide ((e::es).length+([]:List Keyword).length+(if ([]:List Keyword).isEmpty then 0 else 1)<30))=true:=by rfl)
  (jR:(f9.endLine==d_.line)=true:=by rfl) (hs:starEach (e::es) X.env=(false,eval e X.env)::starEach es X.env:=by rfl) (m9:(backTo d_ (starEach es X.env)).any (·.1)=false:=by rfl) :
  SE X (.Call (.Attribute o name f9) (e::es) [] d_) (HX F fo fs):=⟨(OR slot Cr hm.h ho.h ha.h jS qv jR hs m9).imp fun σ H Q h=>by
 obtain⟨μ,ρ,st,l,h⟩:=h
 refine⟨μ,ρ,st,l,RK.bind h l fun μ1 st1 x v H1 p1 x1 l1 q1 h1=>?_⟩
 cases x with
 |str z=>
  rw[aJ (show wO (W.str z)=true from rfl)]at h1
  refine⟨⟨z,q1.strE⟩,μ1,ρ,st1,l1,RK.bind h1 l1 fun μ2 cX ws vs H2 p2 x2 l2 q2 h2=>?_⟩
  exact⟨μ2,cX,_,ws,l2.sto,q1.mono p2 x2,q2,se h2 (hm.n _ _ _)⟩
 |_=>exact h1.elim⟩
def bM(x:W)(ws:List W)(st:List ao):R W:=match x,ws with
 |.loc n,[y]=>(match st[n]? with
  |some (.lst zs)=>if zs.length<mL then .ok .non (st.set n (.lst (zs++[y])))else .bad
  |_=>.bad)
 |_,_=>.bad
theorem cP:N6 X "list.append" bM:=⟨fun al s σ H x vs v us Q I rv rus ⟨μ,st,wx,ws,S,rx,rs,q⟩=>by
 unfold bM at q
 split at q
 ·rename_i n y
  obtain⟨y1,rfl,ry⟩:=rs.one
  split at q
  ·rename_i zs e1
   split at q
   ·rename_i c
    obtain⟨a1,g1,vs,k1,r⟩:=S.get e1
    obtain⟨b1,f1,rfl⟩:=rx.locE
    rw[g1]at f1;cases f1
    refine Bj al s σ H _ _ v us Q I rv rus ⟨a1,vs,y1,rfl,rfl,k1,by rw[<- r.len];exact Mg (fL c),fun H2 e=>?_⟩
    subst e
    exact q μ _ _ (am _) (gg.but lq k1) (S.set e1 g1 k1 (r.app (.consI ry .nilI))) .non
   ·exact q.elim
  ·exact q.elim
 ·exact q.elim,fun x ws st=>by
 unfold bM
 repeat' split
 all_goals trivial⟩
def ms(x:W)(ws:List W)(st:List ao):R W:=match x,ws with
 |.loc n,[]=>(match st[n]? with
  |some (.lst zs)=>sk zs.getLast? fun w=>.ok w (st.set n (.lst zs.dropLast))
  |_=>.bad)
 |_,_=>.bad
theorem lX:N6 X "list.pop" ms:=⟨fun al s σ H x vs v us Q I rv rus ⟨μ,st,wx,ws,S,rx,rs,q⟩=>by
 unfold ms at q
 split at q
 ·rename_i n
  have e0:=rs.nilE
  subst e0
  split at q
  ·rename_i zs e1
   obtain⟨a1,g1,vs,k1,r⟩:=S.get e1
   obtain⟨b1,f1,rfl⟩:=rx.locE
   rw[g1]at f1;cases f1
   cases hl:zs.getLast? with
   |none=>rw[hl]at q;exact q.elim
   |some w=>
    rw[hl]at q
    have hz:zs=zs.dropLast++[w]:=by
     obtain⟨ys,rfl⟩:=List.getLast?_eq_some_iff.mp hl
     simp
    rw[hz]at r
    obtain⟨xs',Oa,hx,r1,r3⟩:=r.split
    obtain⟨y',rfl,r2⟩:=r3.one
    refine IQ al s σ H _ _ v us Q I rv rus ⟨a1,xs',y',rfl,rfl,by rw[<- hx];exact k1,fun H2 e=>?_⟩
    subst e
    have xx:fj X.K H (gf H a1 (.lst xs')):=gg.but lq k1
    exact q μ _ _ (am _) xx (S.set e1 g1 k1 r1) (r2.mono (am _) xx)
  ·exact q.elim
 ·exact q.elim,fun x ws st=>by
 unfold ms sk
 repeat' split
 all_goals trivial⟩
def nu:List W->Option (List (List Nat))
 |[]=>some []
 |.str l::ws=>(nu ws).map (l :: ·)
 |_=>none
theorem uY{K:Frag}{μ:List Addr}{H:Hp}:∀{ws:List W} {ls:List (List Nat)} {vs:List V},nu ws=some ls->RelWs K μ H ws vs->vs=ls.map fun l=>V.str (tx l)
 |[],ls,vs,h,r=>by simp only[nu]at h;cases h;exact r.nilE
 |w::ws,ls,vs,h,r=>by
  obtain⟨x,xs,rfl,rx,rs⟩:=r.consE
  cases w with
  |str l=>
   simp only[nu]at h
   cases e:nu ws with
   |none=>rw[e]at h;cases h
   |some ls'=>rw[e]at h;cases h;rw[rx.strE,uY e rs];rfl
  |_=>simp only[nu]at h;cases h
theorem wP(ls:List (List Nat)):nu (ls.map W.str)=some ls:=by
 induction ls with
 |nil=>rfl
 |cons a r ih=>show(nu (r.map W.str)).map (a :: ·)=_;rw[ih];rfl
def nv(x:W)(ws:List W)(st:List ao):R W:=match x,ws with
 |.str sep,[.loc n]=>sk (lstOf st n) fun zs=>sk (nu zs) fun ls=>if (ls.map List.length).sum+ls.length*sep.length<=mL then .ok (.str (kN sep ls)) st else .bad
 |_,_=>.bad
theorem ui:N6 X "str.join" nv:=⟨fun al s σ H x vs v us Q I rv rus ⟨μ,st,wx,ws,S,rx,rs,q⟩=>by
 unfold nv at q
 split at q
 ·rename_i sep n
  obtain⟨y1,rfl,ry⟩:=rs.one
  cases e1:lstOf st n with
  |none=>rw[e1]at q;exact q.elim
  |some zs=>
   rw[e1,eG]at q
   cases e2:nu zs with
   |none=>rw[e2]at q;exact q.elim
   |some ls=>
    rw[e2,eG]at q
    split at q
    ·rename_i c
     obtain⟨a,vs,g,hS,r⟩:=S.lstOf e1
     obtain⟨b1,f1,rfl⟩:=ry.locE
     rw[g]at f1;cases f1
     have:=uY e2 r
     subst this
     exact IM al s σ H _ _ v us Q I rv rus ⟨sep,_,ls,rx.strE,rfl,hS,aM c (by decide),qG S q⟩
    ·exact q.elim
 ·exact q.elim,fun x ws st=>by
 unfold nv
 split
 ·exact tH fun _=>tH fun _=>by split<;>trivial
 ·trivial⟩
end
def su(cap:List (Option Nat))(ρ:cI):cI:=cap.map fun o=>o.bind fun j=>(ρ[j]?).join
theorem Pq{X:Cx}{μ:List Addr}{H:Hp}{ρ:cI}{σ:St}(r:Paired (fun(o:Option W) (s:Option V)=>∀w,o=some w->∃v,s=some v/\bH X.K μ H w v) ρ σ):∀cap:List (Option Nat),
  Paired (fun(o:Option W) (s:Option V)=>∀w,o=some w->∃v,s=some v/\bH X.K μ H w v) (su cap ρ) (pG cap σ)
 |[]=>.nil
 |o::cap=>by
  refine .cons (fun w e=>?_) (Pq r cap)
  cases o with
  |none=>cases e
  |some j=>
   have e':(ρ[j]?).join=some w:=e
   have e2:ρ[j]?=some (some w):=by
    cases h:ρ[j]? with
    |none=>rw[h]at e';cases e'
    |some ow=>rw[h]at e';simp at e';rw[e']
   obtain⟨v,g1,g2⟩:=uQ r e2
   exact⟨v,by show(σ[j]?).join=some v;rw[g1];rfl,g2⟩
open Classical in
def qI(f:FG)(t:FT)(el:FE)(ck:Option (Nat×List W))(ρ0:cI):List W->List W->List ao->R (List W)
 |[],iI,st=>if ku st ck then .ok iI st else .bad
 |w::ws,iI,st=>if ku st ck then(match f w ρ0 with
  |none=>.bad
  |some ρ'=>(match t ρ' st with
   |.ok true st1=>(match el ρ' st1 with
    |.ok y cX=>qI f t el ck ρ0 ws (iI++[y]) cX
    |_=>.bad)
   |.ok false st1=>qI f t el ck ρ0 ws iI st1
   |_=>.bad))else .bad
def jO(cap:List (Option Nat))(fi:FI)(f:FG)(t:FT)(el:FE):FE:=fun ρ st=>(fi ρ st).bind fun k st=>if k.1.length<=mL then(qI f t el k.2 (su cap ρ) k.1 [] st).bind fun ys st=>pK ys st else .bad
def Ra{α β:Type}(X:Cx)(rel:List Addr->Hp->α->β->Prop)(f:cI->List ao->R α)(σ:St)(H:Hp)(Q:β->Hp->Prop):Prop:=
 ∃μ ρ st a bh,Rl X μ ρ st σ H/\f ρ st=.ok a bh/\∀μ' b H',μ <+: μ'->fj X.K H H'->jw X.K X.mg μ' bh H'->rel μ' H' a b->Q b H'
def vZ:FT:=fun _ st=>.ok true st
structure Pr(X:Cx)(es:List Expr)(f:FT):Prop where
 h:EZ X es (tT X f)
theorem EZ.imp{X:Cx}{e:List Expr}{t t':TT}(h:EZ X e t)(i:∀σ H Q,t' σ H Q->t σ H Q):EZ X e t':=fun al s σ H Q I q=>h al s σ H Q I (i _ _ _ q)
theorem uj{X:Cx}:Pr X [] vZ:=⟨II.imp fun σ H Q h=>by
 obtain⟨μ,ρ,st,l,h⟩:=h
 exact h μ true H (am _) fj.refl l.sto rfl⟩
theorem CY{X:Cx}{c:Expr}{t:FT}(hc:ST X c t):Pr X [c] t:=⟨IJ hc.h⟩
theorem Fz{X:Cx}{cap:List (Option Nat)}{fi:FI}{f:FG}{t:FT}{el:FE}{σ:St}{H:Hp}{Q:VK}(h:tE X (jO cap fi f t el) σ H Q) :
  uF cap (fun σ H R=>tG X (Pp X) fi σ H R) (Pm X f) (Ra X Mh t) (Ra X (r_ X) el) σ H Q:=by
 obtain⟨μ,ρ,st,l,h⟩:=h
 refine⟨μ,ρ,st,l,RK.bind h l fun μ1 st1 k J H1 p1 x1 l1 wk h1=>?_⟩
 by_cases hz:k.1.length<=mL
 ·rw[aJ hz]at h1
  refine⟨fun i m ys H'=>i<=k.1.length/\m=k.1.length-i/\ys.length<=i/\∃μ' iI bh,μ1 <+: μ'/\fj X.K H1 H'/\Rl X μ' ρ bh σ H'/\RelWs X.K μ' H' iI ys/\RK X (r_ X) μ' σ H' Q ((qI f t el k.2 (su cap ρ) (k.1.drop i) iI bh).bind fun ys st=>pK ys st),
   ⟨_,ce _,rfl,az _,μ1,[],st1,am _,fj.refl,l1,.nilI,h1⟩,?_⟩
  rintro i m ys H' ⟨hi,rfl,hy,μ',iI,bh,pm,xm,lm,ra,hm⟩
  by_cases hlt:i<k.1.length
  ·rw[fD hlt]at hm
   unfold qI at hm
   by_cases ck:ku bh k.2
   ·rw[aJ ck]at hm
    obtain⟨go,yld⟩:=(wk i μ' bh H' pm xm lm.sto ck).1 _ (aj hlt)
    refine .inr ⟨go,fun x H2 hy2=>?_⟩
    obtain⟨y1,y2,y3⟩:=yld x H2 hy2
    cases hf:f k.1[i] (su cap ρ)with
    |none=>rw[hf]at hm;exact hm.elim
    |some ρ2=>
     rw[hf]at hm
     simp only at hm
     have lb:Rl X μ' (su cap ρ) bh (pG cap σ) H2:=⟨Pq (lm.to (am _) y1 y2).env cap,y2⟩
     refine⟨μ',su cap ρ,bh,k.1[i],ρ2,lb,y3,hf,fun σ2 l2=>?_⟩
     cases ht:t ρ2 bh with
     |bad=>rw[ht]at hm;exact hm.elim
     |ex c s=>rw[ht]at hm;exact hm.elim
     |ok kk cX=>
      rw[ht]at hm
      refine⟨μ',ρ2,bh,kk,cX,l2,ht,fun μ3 b3 H3 p3 x3 S3 q3=>?_⟩
      cases q3
      cases kk with
      |false=>
       exact⟨_,by omega,hlt,rfl,by omega,μ3,iI,cX,pm.trans p3,xm.trans (y1.trans x3),lm.to p3 (y1.trans x3) S3,ra.mono p3 (y1.trans x3),RK.mono hm p3 (y1.trans x3)⟩
      |true=>
       rw[aJ rfl]
       simp only at hm
       cases he:el ρ2 cX with
       |bad=>rw[he]at hm;exact hm.elim
       |ex c s=>rw[he]at hm;exact hm.elim
       |ok w lM=>
        rw[he]at hm
        refine⟨μ3,ρ2,cX,w,lM,l2.to p3 x3 S3,he,fun μ4 b4 H4 p4 x4 S4 q4=>?_⟩
        have pp:=p3.trans p4
        have xx:=y1.trans (x3.trans x4)
        exact⟨iR hy (aQ hlt (og hz)),_,by omega,hlt,rfl,by simp;omega,μ4,iI++[w],lM,pm.trans pp,xm.trans xx,lm.to pp xx S4,(ra.mono pp xx).app (.consI q4 .nilI),RK.mono hm pp xx⟩
   ·rw[aV ck]at hm;exact hm.elim
  ·have hi':i=k.1.length:=by omega
   subst hi'
   rw[nj (az _)]at hm
   unfold qI at hm
   by_cases ck:ku bh k.2
   ·rw[aJ ck]at hm
    obtain⟨z1,z2⟩:=uS lm.sto ra hm
    exact .inl ⟨(wk _ μ' bh H' pm xm lm.sto ck).2 (az _),z1,fun p hp=>z2 p _ hp rfl⟩
   ·rw[aV ck]at hm;exact hm.elim
 ·rw[aV hz]at h1;exact h1.elim
section
variable{X:Cx}{qr tg dQ:Expr}{mM:List Expr}{scope:Scope}{pos:Pos}{nm:List Str}{cap:List (Option Nat)}{fi:FI}{f:FG}{t:FT}{el:FE}{m:Nat}
theorem SY{X X':Cx}{e:Expr}{f:FE}(hK:X'.K=X.K)(hm:X'.mg=X.mg)(h:SE X' e f):QE X' e (Ra X (r_ X) f):=⟨h.h.imp fun σ H Q ⟨μ,ρ,st,a,bh,l,e,q⟩=>⟨μ,ρ,st,⟨by rw[hK];exact l.env,by rw[hK,hm];exact l.sto⟩,by rw[e];exact fun μ' b H' p x S r=>q μ' b H' p (by rw[<- hK];exact x) (by rw[<- hK,<- hm];exact S) (by show bH X.K μ' H' a b;rw[<- hK];exact r)⟩⟩
theorem SZ{X X':Cx}{e:List Expr}{f:FT}(hK:X'.K=X.K)(hm:X'.mg=X.mg)(h:Pr X' e f):R3 X' e (Ra X Mh f):=⟨h.h.imp fun σ H Q ⟨μ,ρ,st,a,bh,l,e,q⟩=>⟨μ,ρ,st,⟨by rw[hK];exact l.env,by rw[hK,hm];exact l.sto⟩,by rw[e];exact fun μ' b H' p x S r=>q μ' b H' p (by rw[<- hK];exact x) (by rw[<- hK,<- hm];exact S) r⟩⟩
theorem S5{X X':Cx}{e:Expr}{f:FG}(hK:X'.K=X.K)(hm:X'.mg=X.mg)(h:SG X' e f):QG X' e (Pm X f):=⟨h.h.imp fun v σ H Q ⟨μ,ρ,st,w,ρ',l,r,e,q⟩=>⟨μ,ρ,st,w,ρ',⟨by rw[hK];exact l.env,by rw[hK,hm];exact l.sto⟩,by rw[hK];exact r,e,fun σ' l'=>q σ' ⟨by rw[<- hK];exact l'.env,by rw[<- hK,<- hm];exact l'.sto⟩⟩⟩
theorem BC(hB:DI X.env.scope.names scope.names nm cap X.N=true)(qw:X.env.cells=cellsFrom m X.env.scope.names [])(hi:SI X tg dQ fi)(hg:∀cl C s0 H0 fp,SG (dI X nm scope cl C s0 H0 fp) tg f)(ht:∀cl C s0 H0 fp,Pr (dI X nm scope cl C s0 H0 fp) mM t)
  (he:∀cl C s0 H0 fp,SE (dI X nm scope cl C s0 H0 fp) qr el) (js:X.calm=true:=by rfl) (jt:scope.kind=.function:=by rfl) (hs:∀x,foldedSetIterable dQ X.env x=pure x:=by intro _;rfl) :
  SE X (.ListComp qr [⟨tg,dQ,mM,0⟩] scope pos) (jO cap fi f t el):=
 ⟨(Mb js qw jt hB ⟨hi.h⟩ (fun cl C s0 H0 fp=>S5 (X:=X) rfl rfl (hg cl C s0 H0 fp)) (fun cl C s0 H0 fp=>SZ (X:=X) rfl rfl (ht cl C s0 H0 fp)) (fun cl C s0 H0 fp=>SY (X:=X) rfl rfl (he cl C s0 H0 fp)) hs).h.imp fun _ _ _ h=>Fz h⟩
theorem qe{x0:Str}{p0 p1:Pos}{i:Nat}(K':SG X (.Name x0 p0) (jy i))(hB:DI X.env.scope.names scope.names nm cap X.N=true)(qw:X.env.cells=cellsFrom m X.env.scope.names [])(hi:SI X tg dQ fi)(hg:∀cl C s0 H0 fp,SG (dI X nm scope cl C s0 H0 fp) tg f)(ht:∀cl C s0 H0 fp,Pr (dI X nm scope cl C s0 H0 fp) mM t)
  (he:∀cl C s0 H0 fp,SE (dI X nm scope cl C s0 H0 fp) qr el) (js:X.calm=true:=by rfl) (jt:scope.kind=.function:=by rfl) (hs:∀x,foldedSetIterable dQ X.env x=pure x:=by intro _;rfl)
  (QW:swapsWith (.ListComp qr [⟨tg,dQ,mM,0⟩] scope pos) (some (.Name x0 p0)) p1.line X.env=pure true:=by first|rfl|kernel_rfl) :
  SS X (.Assign [.Name x0 p0] (.ListComp qr [⟨tg,dQ,mM,0⟩] scope pos) p1) (uV (jO cap fi f t el) (jy i)):=
 ⟨(Bp ⟨K'.h⟩ js qw jt hB ⟨hi.h⟩ (fun cl C s0 H0 fp=>S5 (X:=X) rfl rfl (hg cl C s0 H0 fp)) (fun cl C s0 H0 fp=>SZ (X:=X) rfl rfl (ht cl C s0 H0 fp)) (fun cl C s0 H0 fp=>SY (X:=X) rfl rfl (he cl C s0 H0 fp)) hs QW).h.imp fun D σ H h=>by
  obtain⟨μ,ρ,st,l,h⟩:=h
  have h':tE X (jO cap fi f t el) σ H fun x H1=>Pm X (jy i) x σ H1 D.nx:=⟨μ,ρ,st,l,RK.stmt h l fun μ1 st1 x v H1 p1 x1 l1 q1 h1=>⟨μ1,ρ,st1,x,ρ.set i (some x),l1,q1,rfl,fun σ' l'=>h1 μ1 σ' H1 (am _) fj.refl l'⟩⟩
  exact Fz h'⟩
end
section
variable{X:Cx}{a b c e o tg:Expr}{es:List Expr}{pos p p2 f9 d_:Pos}{x name:Str}{fa fb fc fe fo:FE}{fs:FA}
theorem DZ{μ:List Addr}{H:Hp}{ws:List W}{ud:List V}(hr:∀μ H,RelWs X.K μ H ws ud):BA X (RW ud) (ws,none) μ H:=fun i μ' bh H' pp xx S _=>by
 have hl:ws.length=ud.length:=(hr μ H).len
 refine⟨fun w hw=>?_,fun h=>by show ud.length<=i;rw[<- hl];exact h⟩
 obtain⟨v,g1,g2⟩:=(hr μ' H').get hw
 refine⟨(ar.mp g1).1,fun y H'' hy=>?_⟩
 obtain⟨rfl,hy⟩:=hy
 rw[g1]at hy;cases hy
 exact⟨fj.refl,S,g2⟩
def il(l:List Nat):List W:=l.map fun c=>.str [c]
theorem wQ(l:List Nat)(μ:List Addr)(H:Hp):RelWs X.K μ H (il l) (ja l):=by
 induction l with
 |nil=>exact .nilI
 |cons a r ih=>exact .consI .str ih
def Kb(fe:FE):FI:=fun ρ st=>(fe ρ st).bind fun x st=>match x with
 |.str l=>.ok (il l,none) st
 |_=>.bad
theorem Mt(he:SE X e fe):SI X tg e (Kb fe):=⟨(L7 he.h).imp fun σ H R h=>by
 obtain⟨μ,ρ,st,l,h⟩:=h
 refine⟨μ,ρ,st,l,RK.bind h l fun μ1 st1 x v H1 p1 x1 l1 q1 h1=>?_⟩
 cases x with
 |str z=>exact⟨z,q1.strE,h1 μ1 _ H1 (am _) fj.refl l1.sto (DZ (wQ z))⟩
 |_=>exact h1.elim⟩
def gD(fe:FE):FI:=fun ρ st=>(fe ρ st).bind fun x st=>match x with
 |.tup ws=>.ok (ws,none) st
 |.loc n=>(match lstOf st n with
  |some ws=>.ok (ws,some (n,ws)) st
  |none=>.bad)
 |.str l=>.ok (il l,none) st
 |_=>.bad
theorem lY(he:SE X e fe):SI X tg e (gD fe):=⟨fun al s σ H Rr I h=>by
 obtain⟨μ,ρ,st,l,h⟩:=h
 cases e1:fe ρ st with
 |bad=>simp only[gD,e1,R.bind_bad]at h;exact h.elim
 |ex c st1=>
  refine(Fx (tg:=tg) he).h al s σ H Rr I ⟨μ,ρ,st,l,?_⟩
  simp only[gD,Fw,e1,R.bind_ex]at h ⊢;exact h
 |ok w st1=>
  cases w with
  |tup ws=>
   refine(Fx (tg:=tg) he).h al s σ H Rr I ⟨μ,ρ,st,l,?_⟩
   simp only[gD,Fw,e1,R.bind_ok]at h ⊢;exact h
  |loc n=>
   refine(Ms (tg:=tg) he).h al s σ H Rr I ⟨μ,ρ,st,l,?_⟩
   simp only[gD,J',e1,R.bind_ok]at h ⊢;exact h
  |str z=>
   refine(Mt (tg:=tg) he).h al s σ H Rr I ⟨μ,ρ,st,l,?_⟩
   simp only[gD,Kb,e1,R.bind_ok]at h ⊢;exact h
  |_=>simp only[gD,e1,R.bind_ok]at h;exact h.elim⟩
def lF(ws:List W):List W:=(List.range ws.length).map fun(i:Nat)=>W.tup [.int i,ws.getD i .non]
theorem sw{ws:List W}{i:Nat}{w:W}(h:(lF ws)[i]?=some w):∃y,ws[i]?=some y/\w=.tup [.int i,y]:=by
 unfold lF at h
 rw[aG]at h
 by_cases hi:i<ws.length
 ·rw[iu hi]at h
  refine⟨ws[i],aj hi,?_⟩
  have:=(bx h).symm
  rw[this]
  show W.tup [W.int i,ws.getD i W.non]=_
  rw[aF,aj hi];rfl
 ·rw[b9 (by simpa using hi)]at h;cases h
theorem wR(ws:List W):(lF ws).length=ws.length:=by simp[lF]
def qf(fs:FA):FI:=fun ρ st=>(fs ρ st).bind fun ws st=>match ws with
 |[.tup zs]=>.ok (lF zs,none) st
 |_=>.bad
theorem CZ{vM:List Expr}{kk:Nat}{tp:Pos}(hm:X.mg "enumerate"=none)(ha:SA X [a] fs)(hg:Gl X "enumerate":=by rfl)(hs:starEach [a] X.env=[(false,eval a X.env)]:=by rfl) :
  SI X (.Tuple vM kk tp) (.Call (.Name "enumerate" p) [a] [] pos) (qf fs):=⟨(E8 hm ⟨ha.h⟩ hg hs).h.imp fun σ H R h=>by
 obtain⟨μ,ρ,st,l,h⟩:=h
 refine⟨μ,ρ,st,l,RK.bind h l fun μ1 st1 x v H1 p1 x1 l1 q1 h1=>?_⟩
 split at h1
 ·rename_i zs
  obtain⟨y,rfl,ry⟩:=q1.one
  obtain⟨p,vs,rfl,hS,r⟩:=ry.tupE
  refine⟨p,rfl,⟨vs,hS⟩,h1 μ1 _ H1 (am _) fj.refl l1.sto fun i μ' bh H' pp xx S _=>⟨fun w hw=>?_,fun hl=>⟨vs,xx _ _ hS,by rw[wR]at hl;rw[<- r.len];exact hl⟩⟩⟩
  obtain⟨y,hy,rfl⟩:=sw hw
  have r':=r.mono pp xx
  obtain⟨v,g1,g2⟩:=r'.get hy
  refine⟨⟨vs,v,xx _ _ hS,g1⟩,fun z H'' hz=>?_⟩
  obtain⟨q,hq,rfl,hH⟩:=hz
  have e:=hH vs v (xx _ _ hS) g1
  subst e
  have ex:=gg.same (K:=X.K) (du hq (.tup [.int i,v]))
  exact⟨ex,S.same (du hq _),.tupI gg.new (.consI .int (.consI (g2.mono (am _) ex) .nilI))⟩
 ·exact h1.elim⟩
def zy(fa:FE):FE:=fun ρ st=>(fa ρ st).bind fun x st=>match x with
 |.int i=>.ok (.int (-i)) st
 |_=>.bad
theorem C0(ha:SE X a fa):SE X (.UnaryOp .USub a pos) (zy fa):=⟨(Ov LU ha.h).imp fun σ H Q h=>by
 obtain⟨μ,ρ,st,l,h⟩:=h
 refine⟨μ,ρ,st,l,RK.bind h l fun μ1 st1 x v H1 p1 x1 l1 q1 h1=>?_⟩
 cases x with
 |int k=>exact⟨k,q1.intE,h1 μ1 _ H1 (am _) fj.refl l1.sto .int⟩
 |_=>exact h1.elim⟩
def Sc(x y:W)(st:List ao):R W:=match x,y with
 |.int i,.int j=>.ok (.bl (decide (i<=j))) st
 |.str [c],.str [d]=>.ok (.bl (decide (c<=d))) st
 |_,_=>.bad
end
def xM(c:Nat):List Nat->List Nat
 |[]=>[c]
 |d::r=>if c<d then c::d::r else if c=d then d::r else d::xM c r
def gj(l:List Nat):List Nat:=l.foldr xM []
theorem uZ{c x:Nat}:∀{l:List Nat},x∈xM c l↔x=c\/x∈l
 |[]=>by simp[xM]
 |d::r=>by
  unfold xM
  split
  ·simp
  ·split
   ·rename_i h;subst h;simp
   ·simp only[aS,uZ]
    constructor
    ·rintro(h|h|h)<;>simp[h]
    ·rintro(h|h|h)<;>simp[h]
theorem C1{c:Nat}:∀{l:List Nat},l.Pairwise (· < ·)->(xM c l).Pairwise (· < ·)
 |[],_=>by simp[xM]
 |d::r,h=>by
  obtain⟨h1,h2⟩:=bQ.mp h
  unfold xM
  split
  ·rename_i hc
   refine bQ.mpr ⟨fun x hx=>?_,h⟩
   rcases aS.mp hx with rfl|hx
   ·exact hc
   ·exact rO hc (h1 x hx)
  ·split
   ·exact h
   ·rename_i hc hd
    refine bQ.mpr ⟨fun x hx=>?_,C1 h2⟩
    rcases uZ.mp hx with rfl|hx
    ·omega
    ·exact h1 x hx
theorem iW{x:Nat}{l:List Nat}:x∈gj l↔x∈l:=by
 induction l with
 |nil=>simp[gj]
 |cons a r ih=>show x∈xM a (gj r)↔_;rw[uZ,ih];simp
theorem jd(l:List Nat):(gj l).Pairwise (· < ·):=by
 induction l with
 |nil=>exact List.Pairwise.nil
 |cons a r ih=>exact C1 ih
theorem xN:∀{l m:List Nat},l.Pairwise (· < ·)->m.Pairwise (· < ·)->(∀x,x∈l↔x∈m)->l=m
 |[],[],_,_,_=>rfl
 |[],b::m,_,_,h=>by have:=(h b).mpr (by simp);simp at this
 |a::l,[],_,_,h=>by have:=(h a).mp (by simp);simp at this
 |a::l,b::m,h1,h2,h=>by
  obtain⟨p1,p2⟩:=bQ.mp h1
  obtain⟨q1,q2⟩:=bQ.mp h2
  have e:a=b:=by
   rcases aS.mp ((h a).mp (by simp))with z|z
   ·exact z
   ·rcases aS.mp ((h b).mpr (by simp))with y|y
    ·exact y.symm
    ·have:=p1 b y;have:=q1 a z;omega
  subst e
  rw[xN p2 q2 fun x=>?_]
  constructor
  ·intro hx
   rcases aS.mp ((h x).mp (aR _ hx))with z|z
   ·subst z;exact absurd (p1 x hx) (dz _)
   ·exact z
  ·intro hx
   rcases aS.mp ((h x).mpr (aR _ hx))with z|z
   ·subst z;exact absurd (q1 x hx) (dz _)
   ·exact z
def BD(c:List Nat):List (List Nat)->List (List Nat)
 |[]=>[c]
 |d::r=>if c<d then c::d::r else d::BD c r
def iX(l:List (List Nat)):List (List Nat):=l.foldr BD []
theorem sy(c:List Nat):∀l:List (List Nat),(BD c l).Perm (c::l)
 |[]=>hU _
 |d::r=>by
  unfold BD
  split
  ·exact hU _
  ·exact((sy c r).cons d).trans (List.Perm.swap c d r)
theorem gs(l:List (List Nat)):(iX l).Perm l:=by
 induction l with
 |nil=>exact hU _
 |cons a r ih=>exact(sy a _).trans (ih.cons a)
def Je:List (List Nat)->Prop:=List.Pairwise fun a b=>¬ b<a
theorem C2(c:List Nat):∀{l:List (List Nat)},Je l->Je (BD c l)
 |[],_=>by simp[BD,Je]
 |d::r,h=>by
  obtain⟨h1,h2⟩:=bQ.mp h
  unfold BD
  split
  ·rename_i hc
   refine bQ.mpr ⟨fun x hx=>?_,h⟩
   rcases aS.mp hx with rfl|hx
   ·exact fun z=>List.lt_irrefl _ (List.lt_trans z hc)
   ·exact fun z=>h1 x hx (List.lt_trans z hc)
  ·rename_i hc
   refine bQ.mpr ⟨fun x hx=>?_,C2 c h2⟩
   rcases aS.mp ((sy c r).mem_iff.mp hx)with rfl|hx
   ·exact hc
   ·exact h1 x hx
theorem u0(l:List (List Nat)):Je (iX l):=by
 induction l with
 |nil=>exact List.Pairwise.nil
 |cons a r ih=>exact C2 a ih
theorem uk:∀{l m:List (List Nat)},Je l->Je m->l.Perm m->l=m
 |[],m,_,_,h=>(List.Perm.nil_eq h)
 |a::l,[],_,_,h=>(by have:=h.length_eq;simp at this)
 |a::l,b::m,h1,h2,h=>by
  obtain⟨p1,p2⟩:=bQ.mp h1
  obtain⟨q1,q2⟩:=bQ.mp h2
  have e:a=b:=by
   rcases aS.mp (h.mem_iff.mp (by simp:a∈a::l))with z|z
   ·exact z
   ·rcases aS.mp (h.mem_iff.mpr (by simp:b∈b::m))with y|y
    ·exact y.symm
    ·exact List.le_antisymm (show a<=b from p1 b y) (show b<=a from q1 a z)
  subst e
  rw[uk p2 q2 (List.perm_cons a |>.mp h)]
theorem u3:∀{zs:List (List Nat)},sortedS (zs.map tx)=true->Je zs:=by
 have key:∀(zs:List (List Nat)) (p:List Nat),risingS (tx p) (zs.map tx)=true->Je (p::zs):=by
  intro zs
  induction zs with
  |nil=>intro p _;simp[Je]
  |cons a r ih=>
   intro p h
   have h':(!ltCps a p&&risingS (tx a) (r.map tx))=true:=h
   rw[dr,gX,ltCps_eq,decide_eq_false_iff_not]at h'
   have u:=ih a h'.2
   refine bQ.mpr ⟨fun x hx=>?_,u⟩
   rcases aS.mp hx with rfl|hx
   ·exact h'.1
   ·have:=(bQ.mp u).1 x hx
    exact List.not_lt.mpr (List.le_trans (List.not_lt.mp h'.1) (List.not_lt.mp this))
 intro zs h
 cases zs with
 |nil=>exact List.Pairwise.nil
 |cons a r=>exact key r a h
section
variable{X:Cx}{a b c e o tg:Expr}{es:List Expr}{pos p p2 f9 d_:Pos}{x name:Str}{fa fb fc fe fo:FE}{fs:FA}
def pc(ws:List W)(st:List ao):R W:=match ws with
 |[.loc n]=>sk (lstOf st n) fun zs=>sk (nu zs) fun ls=>if ls.length<64 then .ok (.loc st.length) (st++[.lst ((iX ls).map W.str)])else .bad
 |_=>.bad
theorem zz{K:Frag}{μ:List Addr}{H:Hp}(ls:List (List Nat)):RelWs K μ H (ls.map W.str) (ls.map fun l=>V.str (tx l)):=by
 induction ls with
 |nil=>exact .nilI
 |cons a r ih=>exact .consI .str ih
theorem zA:oh X (.builtin "sorted") pc:=⟨fun al s σ H vs us Q I rv ⟨μ,st,ws,S,r,q⟩=>by
 unfold pc at q
 split at q
 ·rename_i n
  obtain⟨y,rfl,ry⟩:=r.one
  cases e1:lstOf st n with
  |none=>rw[e1]at q;exact q.elim
  |some zs=>
   rw[e1,eG]at q
   cases e2:nu zs with
   |none=>rw[e2]at q;exact q.elim
   |some ls=>
    rw[e2,eG]at q
    split at q
    ·rename_i c
     obtain⟨a,vs,g,hS,rz⟩:=S.lstOf e1
     obtain⟨b1,f1,rfl⟩:=ry.locE
     rw[g]at f1;cases f1
     have:=uY e2 rz
     subst this
     refine vR.h al s σ H _ us Q I rv ⟨_,ls,rfl,hS,c,fun zs hp hs l H2 hl eH=>?_⟩
     subst eH
     have ez:zs=iX ls:=uk (u3 hs) (u0 ls) (hp.trans (gs ls).symm)
     subst ez
     exact q (μ++[l]) _ _ (a9 _ _) (gg.same (du hl _)) (S.newLst hl (zz _)) (qc S)
    ·exact q.elim
 ·exact q.elim,fun ws st=>by
 unfold pc
 split
 ·exact tH fun _=>tH fun _=>by split<;>trivial
 ·trivial⟩
def kL:List W->Option (List Nat)
 |[]=>some []
 |.str [c]::ws=>(kL ws).map (c :: ·)
 |_=>none
theorem qJ{K:Frag}{μ:List Addr}{H:Hp}:∀{ws:List W} {l:List Nat} {vs:List V},kL ws=some l->RelWs K μ H ws vs->vs=ja l
 |[],l,vs,h,r=>by simp only[kL]at h;cases h;exact r.nilE
 |w::ws,l,vs,h,r=>by
  obtain⟨x,xs,rfl,rx,rs⟩:=r.consE
  unfold kL at h
  split at h
  ·rename_i e;cases e
  ·rename_i c QQ e
   cases e
   cases e2:kL ws with
   |none=>rw[e2]at h;cases h
   |some l'=>rw[e2]at h;cases h;rw[rx.strE,qJ e2 rs];rfl
  ·cases h
def u4:W->Option (List Nat)
 |.str l=>some l
 |.tup ws=>kL ws
 |_=>none
def qK(fe:FE):FE:=fun ρ st=>(fe ρ st).bind fun x st=>sk (u4 x) fun l=>if l.length<4000/\(gj l).length<64 then .ok (.loc st.length) (st++[.lst (il (gj l))])else .bad
theorem lZ{m l:List Nat}(hm:m.Nodup)(h:∀c∈m,c∈l):m.length<=l.length:=by
 induction m generalizing l with
 |nil=>exact ce _
 |cons a r ih=>
  obtain⟨h1,h2⟩:=iK.mp hm
  have ha:a∈l:=h a (by simp)
  have:=ih h2 (l:=l.erase a) fun c hc=>by
   have:c≠a:=fun z=>h1 (z▸hc)
   exact(List.mem_erase_of_ne this).mpr (h c (aR _ hc))
  rw[List.length_erase_of_mem ha]at this
  have:0<l.length:=List.length_pos_of_mem ha
  simp;omega
theorem D0{p1 p2 NO JQ:Pos}(h1:X.mg "sorted"=none)(h3:X.mg "set"=none)(he:SE X e fe)(hc:X.calm=true:=by rfl)
  (Sv:Gl X "sorted":=by rfl) (Sq:Gl X "set":=by rfl) (Rt:starEach [e] X.env=(false,eval e X.env)::starEach [] X.env:=by rfl):SE X (.Call (.Name "sorted" p1) [.Call (.Name "set" p2) [e] [] JQ] [] NO) (qK fe):=⟨(DQ h1 h3 ⟨he.h⟩ hc Sv Sq Rt).h.imp fun σ H Q h=>by
 obtain⟨μ,ρ,st,l,h⟩:=h
 refine⟨μ,ρ,st,l,RK.bind h l fun μ1 st1 x v H1 p1 x1 l1 q1 h1=>?_⟩
 cases e1:u4 x with
 |none=>rw[e1]at h1;exact h1.elim
 |some ll=>
  rw[e1,eG]at h1
  split at h1
  ·rename_i c
   refine⟨ll,?_,c.1,fun m hm hsub=>?_,fun m Sw hup hmem a H2 ha eH=>?_⟩
   ·cases x with
    |str z=>cases e1;exact .inl q1.strE
    |tup ws=>obtain⟨p,vs,rfl,hS,r⟩:=q1.tupE;have:=qJ e1 r;subst this;exact .inr ⟨p,rfl,hS⟩
    |_=>cases e1
   ·exact iR (lZ hm fun c hc=>iW.mpr (hsub c hc)) c.2
   ·subst eH
    have em:m=gj ll:=by
     refine xN ((List.Pairwise.and hup Sw).imp fun z=>Nat.lt_of_le_of_ne z.1 z.2) (jd ll) fun x=>?_
     rw[hmem,iW]
    subst em
    exact h1 (μ1++[a]) _ _ (a9 _ _) (gg.same (du ha _)) (l1.sto.newLst ha (wQ (X:=X) _ _ _)) (qc l1.sto)
  ·exact h1.elim⟩
end
def W.ty:W->Option String
 |.non=>some "NoneType" | .bl _=>some "bool" | .int _=>some "int" | .str _=>some "str" | .tup _=>some "tuple" | .loc _=>none
def Jf(t T:String):Bool:=(t==T)||(t == "bool" && T == "int")
theorem Ps{K:Frag}{T:String}(h:E5 T){w:W}{t:String}(hw:w.ty=some t):PySem.W.kitOne K (.type t) (.type T)=some (Jf t T):=by
 cases w<;>simp only[W.ty]at hw<;>cases hw<;>(rcases h with rfl|rfl|rfl|rfl<;>rfl)
def u5(T:String)(fa:FE):FE:=fun ρ st=>(fa ρ st).bind fun x st=>match x.ty with
 |some t=>.ok (.bl (Jf t T)) st
 |none=>.bad
section
variable{X:Cx}{a b c e o tg:Expr}{es:List Expr}{pos p p2 f9 d_:Pos}{x name:Str}{fa fb fc fe fo:FE}{fs:FA}
theorem tI{T:String}{xT:Str}(hm:X.mg "isinstance"=none)(hT:X.mg xT=none)(hv:bootBuiltins xT=some (.type T))(ha:SE X a fa)(hk:E5 T:=by first|exact .inl rfl|exact .inr (.inl rfl)|exact .inr (.inr (.inl rfl))|exact .inr (.inr (.inr rfl)))
  (hg:Gl X "isinstance":=by rfl) (TC:Gl X xT:=by rfl) (hn:xT ≠ "__name__":=by decide) (hd:(xT==("__debug__":Str))=false:=by decide)
  (he:starEach [a,.Name xT p2] X.env=(false,eval a X.env)::starEach [.Name xT p2] X.env:=by rfl) (SJ:starEach [.Name xT p2] X.env=(false,eval (.Name xT p2) X.env)::starEach [] X.env:=by rfl) (pE:(backTo pos (starEach [.Name xT p2] X.env)).any (·.1)=false:=by rfl) :
  SE X (.Call (.Name "isinstance" p) [a,.Name xT p2] [] pos) (u5 T fa):=by
 have C:iU X (.builtin "isinstance") (fun xs H Q=>∃x μ st w t,xs=[x,.ty T]/\jw X.K X.mg μ st H/\bH X.K μ H w x/\w.ty=some t/\Q (.bl (Jf t T)) H):=by
  intro al s σ H xs us Q I r h
  obtain⟨x,μ,st,w,t,rfl,S,rx,ht,q⟩:=h
  obtain⟨u,u2,rfl,r1,r2⟩:=cG.two r
  obtain rfl:u2=.type T:=r2
  have e:=Ps (K:=X.K) hk ht
  cases w with
  |tup ws=>
   cases ht
   obtain⟨p,vs,rfl,hS,_⟩:=rx.tupE
   cases(show u=Value.ref p from r1)
   obtain⟨bF,_,hp,_⟩:=I.tuple hS
   obtain⟨o,h1,h2,_⟩:=hp
   exact up (kia_one PySem.W.kitx_tuple I.kIn ⟨o,h1,h2⟩ e (fun z=>nomatch z) fun tk hk=>⟨.bl _,H,I.tok tk,rfl,q⟩)
  |non=>cases ht;cases rx.nonE;exact up (oZ I r1 .non e fun tk hk=>⟨.bl _,H,I.tok tk,rfl,q⟩)
  |bl b=>cases ht;cases rx.blE;exact up (oZ I r1 (.bl _) e fun tk hk=>⟨.bl _,H,I.tok tk,rfl,q⟩)
  |int b=>cases ht;cases rx.intE;exact up (oZ I r1 (.int _) e fun tk hk=>⟨.bl _,H,I.tok tk,rfl,q⟩)
  |str b=>cases ht;cases rx.strE;exact up (oZ I r1 (.str _) e fun tk hk=>⟨.bl _,H,I.tok tk,rfl,q⟩)
  |loc b=>cases ht
 refine⟨(y4 C hg hm boot_isinstance (xw ha.h (xw (Ig TC hT hv (v:=.ty T) rfl hn hd) ET SJ) he) (by decide) (by decide) he pE).imp fun σ H Q h=>?_⟩
 obtain⟨μ,ρ,st,l,h⟩:=h
 refine⟨μ,ρ,st,l,RK.bind h l fun μ1 st1 x v H1 p1 x1 l1 q1 h1=>?_⟩
 cases ht:x.ty with
 |none=>rw[ht]at h1;exact h1.elim
 |some t=>
  rw[ht]at h1
  exact⟨v,μ1,st1,x,t,rfl,l1.sto,q1,ht,h1 μ1 _ H1 (am _) fj.refl l1.sto .bl⟩
theorem FB{P:Program}{w:World}{K:Frag}{mg:Str->Option Value}{base:Heap}{k n:Nat}{x:Str}{st:Stmt}{f:Addr}{fd:FuncData}{ps:List Str}
  (F:iw K x x st f fd) (hm:mg x=some (.ref f)) (hn:ps.length=n)
  (hb:∀(kV rS pm:Value) (an:Option Addr) (e_ ct:Value) (us:List Value),us.length=ps.length->bindArgs (fnOf x x (hW st) (gp st) (aP st) .none kV rS pm an e_ ct) ⟨us,[]⟩=pure (ps.zip us)) :
  bV P w K mg base k x n (fun _ _=>.bad):=xL F hm hn hb ⟨fun vs H Q E h=>by rw[hn];exact h.1,fun _ _ _ _ _ _ _ _ _ _ _ _ _ _ h=>by obtain⟨_,_,_,_,_,_,z⟩:=h;exact z.elim⟩
end
def Kc(F:List W->List ao->R W):Prop:=∀ns:List Int,ns.length<=63->∃bh,F [.loc 0] [.ro (ns.map W.int)]=.ok (.bl true) bh
theorem walkW{l:PySem.W.OpenLaw}{k:Nat}{q:Program}{xl:List Str}{XP:(Str->Option Value)->Heap->Prop}{YP:World->Heap->Prop}{d:DefRec}{K:Params->Frag}{x:Str}{G:List W->List ao->R W}(hn:l.most=some 63)(Q1:d.params.defaults=[])(hr:i' k callerA)
  (hY:∀(w:World) (h:Heap),YP w h->(K w.params).In h)
  (F:∀(w:World) (mg:Str->Option Value) (fa:Addr) (h:Heap),(K w.params).In h->h.Ns mainGlobals mg->mg d.name=some (.ref fa) ->
   ∃fd:FuncData,fd.scope.names.lookup x=some .local/\(∀(s:Shared) (u:Value),BindsTo s fd ⟨[u],[]⟩ [(x,u)])/\∀base:Heap,(K w.params).In base->base.Ns mainGlobals mg->cV l.prog w (K w.params) mg base (hV l.prog w) k fa fd [x] (iy (K w.params) mg 1 G))
  (ok:Kc G):PySem.W.WalkO q xl XP YP l.row.toRowW d [] (fun f vs=>PySem.call f vs):=by
 refine L2.walk_of (n:=63) (k:=k) (x:=x) (CX:=fun w=>hV l.prog w)
  (sp:=fun w=>fun vs H Q E=>∃(a:Addr) (ns:List Int),vs=[.ref a]/\rW (K w.params) H a (ns.map V.int)/\IH H/\ns.length<=63/\∀H',Q (.bl true) H') hn (by decide) Q1 hr hY (fun w mg fa h h1 h2 h3=>?_)
  (fun w H a ns hl hO hS=>⟨a,ns,rfl,hS,hO,hl,fun _=>rfl⟩) fun w H s e s' z=>?_
 ·obtain⟨fd,hlo,hb,ho⟩:=F w mg fa h h1 h2 h3
  refine⟨fd,hlo,hb,fun base kb nb=>(ho base kb nb).imp fun vs H Q E hh=>?_⟩
  obtain⟨a,ns,rfl,hS,hO,hl,q⟩:=hh
  obtain⟨bh,e⟩:=ok ns hl
  have AS:Q8 (K w.params) H a (ns.map V.int):=by
   rcases hS with(z|⟨o,z⟩)|z
   ·rcases hO a with y|⟨o,xs,y⟩
    ·rw[z]at y;cases y
    ·rw[z]at y;cases y
   ·exact .inl ⟨o,z⟩
   ·exact .inr z
  have hr:RelWs (K w.params) [a] H (ns.map W.int) (ns.map V.int):=by
   clear hS AS e hl
   induction ns with
   |nil=>exact .nilI
   |cons n r ih=>exact .consI .int ih
  refine⟨rfl,[a],[.loc 0],[.ro (ns.map W.int)],⟨fun i j b ci cj c1 c2 r1 r2 m1 m2=>?_,rfl,fun i c b c1 c2=>?_⟩,.consI (.locI rfl) .nilI,?_⟩
  ·cases i with
   |zero=>cases c1;cases r1
   |succ i=>simp at c1
  ·cases i with
   |zero=>cases c1;cases c2;exact⟨_,AS,hr⟩
   |succ i=>simp at c1
  ·rw[e]
   intro μ' v H' _ _ _ rv
   rw[rv.blE];exact q H'
 ·obtain⟨_,_,_,_,_,_,z,_⟩:=z
  exact z
abbrev Jg:List Value:=[.type "ValueError",.type "Exception",.type "BaseException",.type "object"]
abbrev C3:String:="ValueError.__new__"
def Mu(K:Frag)(C:Addr):List Value:=match K.lookup C with
 |some ⟨_,_,.cls cd,_⟩=>cd.mro
 |_=>[]
theorem Jh{K:Frag}{h:Heap}{C:Addr}{Tc:List Value}{HL:String}(X:K.In h)(q:excIn K C Tc HL=true) :
  ∃bm N nm qn bs hdct sn sub ab col dd k0 k1 k2 k3 k5 mN,h.get? C=some (excClassObj nm qn C N bs bm hdct sn sub ab col dd k0 k1 k2 k3 k5 HL)/\h.Ns N mN/\mN "__init__"=none/\OwnTail h Tc bm/\Mu K C=.ref C::bm:=by
 have q0:=q
 unfold excIn at q
 split at q
 ·rename_i dd cd sl ho
  split at q
  ·rename_i C' bm k0 k1 k2 k3 n k5 hm hs
   simp only[dr,dv,gX]at q
   obtain⟨⟨⟨⟨⟨rfl,rfl⟩,hdel⟩,ht⟩,hok⟩,hni⟩:=q
   have hmro:Mu K C'=cd.mro:=by unfold Mu;rw[ho]
   obtain⟨nm,bs,mro,ns,qn,hd,sn,sub,ab,col,del⟩:=cd
   dsimp only at hm hdel hok hni hmro
   subst hm hdel
   have hsl:sl=#[k0,k1,k2,k3,some (.builtin n),k5]:=by
    obtain⟨l⟩:=sl
    simp only at hs
    rw[hs]
   subst hsl
   exact⟨bm,ns,nm,qn,bs,hd,sn,sub,ab,col,dd,k0,k1,k2,k3,k5,_,X _ _ ho,.of_isNs (PySem.W.isNs_of_in X hok),PySem.W.nsMap_none_of_in X hok hni,PySem.W.tail_of_in X ht,hmro⟩
  ·cases q
 ·cases q
structure Ji(K:Frag)(mg:Str->Option Value)(x:Str):Prop where
 ex:∃C,mg x=some (.ref C)/\excIn K C Jg C3=true
def u6(c:Str):FS:=fun ρ st=>.ex c ρ st
theorem qL{X:Cx}{x:Str}{np d_ pos p':Pos}{z:Str}{j:Nat}(hC:Ji X.K X.mg x)(js:X.calm=true:=by rfl)(hg:Gl X x:=by rfl)(hd:(x==("__debug__":Str))=false:=by decide)
  (he:starEach [.Constant (.str z) j p'] X.env=(false,eval (.Constant (.str z) j p') X.env)::starEach [] X.env:=by rfl):SS X (.Raise (some (.Call (.Name x np) [.Constant (.str z) j p'] [] d_)) none pos) (u6 x):=⟨by
 intro al s σ H D I h
 obtain⟨μ,ρ,st,l,h⟩:=h
 obtain⟨C,hm,q⟩:=hC.ex
 have hh:X.A.handled=none:=I.ok.hd js
 obtain⟨bm,N,nm,qn,bs,hdct,sn,sub,ab,col,dd,k0,k1,k2,k3,k5,mN,g1,g2,g3,g4,g5⟩:=Jh I.kIn q
 refine wpAny_Raise_call_subT (C:=C) (nm:=nm) (q:=qn) (N:=N) (bs:=bs) (bm:=bm) (hdct:=hdct) (sn:=sn) (sub:=sub) (ab:=ab) (col:=col) (dd:=dd) (k0:=k0) (k1:=k1) (k2:=k2) (k3:=k3) (k5:=k5)
  F.excBase_ValueError (mN:=mN) (g4.hasType F.excBase_ValueError.hasBase) hh (by rw[he];rfl) g3 (ug I hg hm ⟨rfl,?_⟩ hd)
 rw[he]
 refine jV ?_
 show wpAny _ _ (spliced ((false,eval (.Constant (.str z) j p') X.env)::[])) _ _ s
 refine fx (wpAny_Constant_str (gW ?_))
 refine⟨rfl,(by show 1<=sizeLine;decide),g1,g2,g4,fun h' e hx=>?_⟩
 have I2:bU X al σ H { s with heap:=h',toks:=s.toks+1 }:=I.kept hx.keeps
 have en:H e=none:=by
  cases hu:H e with
  |none=>rfl
  |some u=>
   obtain⟨ob,hob⟩:=(I.hok e u hu).ex
   have:=hx.new
   rw[show({ s with toks:=s.toks+1 }:Shared).heap=s.heap from rfl]at this
   rw[hob]at this;cases this
 obtain⟨t,N',ht2,ht3⟩:=hx.there
 have hin:∀env∈X.stack,∀b,env.frame=some b->b∈uf X.stack:=fun env he b hb=>kY.mpr ⟨env,he,hb⟩
 refine h al μ σ H (.ref e) _ (am _) fj.refl l ⟨I2,e,.ref C,t,hideAll s.heap (uf X.stack),rfl,hm,en,fun b o hb=>hx.keeps b o (PySem.W.of_hideAll _ hb),?_,?_,.inr (.inl ⟨_,_,N',rfl,rfl,rfl,rfl,rfl⟩),fun b o hb hr=>?_⟩
 ·cases hq:(hideAll s.heap (uf X.stack)).get? e with
  |none=>rfl
  |some o=>have z:=PySem.W.of_hideAll _ hq;have y:=hx.new;rw[show({ s with toks:=s.toks+1 }:Shared).heap=s.heap from rfl,z]at y;cases y
 ·exact(PySem.W.funFrames_hide I.stack hin).of_keeps fun b o hb _=>⟨o,hx.keeps b o hb,rfl⟩
 ·have old:∀o0,s.heap.get? b=some o0->s.heap.get? b=some o:=fun o0 h0=>by
   have h1:h'.get? b=some o0:=hx.keeps b o0 h0
   have h2:h'.get? b=some o:=hb
   rw[h1]at h2;rw[<- h2];exact h0
  have kA:∀o0,s.heap.get? b=some o0->b∉uf X.stack->(hideAll s.heap (uf X.stack)).get? b=some o:=fun o0 h0 hn=>PySem.W.hideAll_get _ (old o0 h0) hn
  rcases hr with hr|⟨⟨o0,h0⟩,hf,hbx⟩|⟨⟨y,hy⟩,hf⟩|⟨pp,hp,rfl⟩
  ·cases hu:H b with
   |none=>exact absurd hu hr
   |some u=>
    obtain⟨ob,hob⟩:=(I.hok b u hu).ex
    exact kA ob hob fun z=>by have:=I.stkFree b z;rw[hu]at this;cases this
  ·obtain⟨o1,h1⟩:=I.base.there b o0 h0 hbx
   refine kA o1 h1 fun z=>?_
   rcases aS.mp (I.stkSub b z)with z|z
   ·rw[z]at h0;exact absurd (aQ (aI h0) I.ok.above) (dz _)
   ·exact hf z
  ·obtain⟨v,ov,hov,_⟩:=I.cell y b hy
   exact kA ov hov hf
  ·obtain⟨p1,p2,p3,p4,_⟩:=I.pin pp hp
   refine kA _ p1 fun z=>?_
   rcases aS.mp (I.stkSub _ z)with z|z
   ·exact p3 z
   ·exact p4 z⟩
section
variable{X:Cx}{al:List (Addr×Obj)}{σ:St}{H:Hp}{s:Shared}
end
open AutoSeq1 (wpAny_loadPart')
section
variable{X:Cx}
end
section
variable{X:Cx}{a b c e o tg:Expr}{es:List Expr}{pos p p2:Pos}{fa fb fe fo:FE}{fs:FA}
end
section
variable{prog:Program}{w:World}{A:Around}{E:Value->Shared->Prop}{h:Heap}{g:Array GenState}{d:Drawn}{t:Nat}{os:OsState}{a:Addr}{o:Obj}
 {nm q:Str} {C N:Addr} {bs bm:List Value} {hdct:Bool} {sn:List Str} {sub:List Value} {ab:Bool} {col:Option Bool} {dd:Option Addr} {k0 k1 k2 k3 k5:Option Value} {HL:String} {K:Frag}
end
end L2
namespace L2
variable{nk:Nat}
open PySem PySem.Spec PyProof.Rows
section
variable{X:Cx}{a:Expr}{pos p p2:Pos}{fa:FE}
end
end L2
namespace L2
variable{nk:Nat}
open PySem PySem.Spec PyProof.Rows
section
variable{X:Cx}{a:Expr}{pos p p2:Pos}{fa:FE}{es:List Expr}{k:Nat}
end
end L2
namespace L2
open PySem PySem.Spec PyProof.Rows
section
variable{X:Cx}
end
section
variable{X:Cx}
theorem u7{α:Type}(l:List α):∀(k:Nat) (iI:List α),List.foldl (fun x1 x2=>x1++x2) iI.toArray (List.replicate k l.toArray)=(iI++(List.replicate k l).flatten).toArray
 |0,iI=>by simp
 |k+1,iI=>by
  have e:iI.toArray++l.toArray=(iI++l).toArray:=by simp
  rw[List.replicate_succ,List.foldl_cons,e,u7 l k (iI++l),List.replicate_succ,lU,ak]
theorem Mv(l:List Nat)(n:Int):Txt.mul (tx l) n=tx (List.replicate n.toNat l).flatten:=by
 unfold Txt.mul
 by_cases h:n<1
 ·rw[aJ h,show n.toNat=0 by omega];rfl
 ·rw[aV h]
  split
  ·rename_i hc
   rw[Bool.or_eq_true,dv,dv,iN]at hc
   rcases hc with rfl|hc
   ·simp
   ·have:l=[]:=List.length_eq_zero_iff.mp hc
    subst this
    simp
  ·have:=u7 l n.toNat []
   rw[d7]at this
   show Str.mk _=Str.mk _
   congr 1
theorem Jj:n9 X (binaryOp .Mult) (fun x y H Q=>∃(l:List Nat) (k:Int),x=.str (tx l)/\y=.int k/\-(2^62)<=k/\k<2^62/\l.length*k.toNat<=1000000/\l.length*k.toNat≠1/\Q (.str (tx (List.replicate k.toNat l).flatten)) H):=by
 intro al s σ H x y v u Q I rx ry h
 obtain⟨l,k,rfl,rfl,h1,h2,h3,h31,q⟩:=h
 obtain⟨t,rfl⟩:=rx
 obtain⟨t',rfl⟩:=ry
 refine up (SB.mul ⟨?_,?_,?_⟩ fun t2 tk hk=>⟨.str _,H,I.tok _,⟨⟨t2,fun e=>absurd e ?_⟩,?_⟩,q⟩)
 ·simp;omega
 ·intro hk hx
  rw[iN]
  intro hg
  have hk1:1<=k:=by omega
  have:k*((2^63-1)/k)<=2^63-1:=Int.mul_ediv_self_le (by omega)
  have h4:(2^63-1)<k*(l.length:Int):=by
   have:=Int.lt_mul_of_ediv_lt (a:=2^63-1) (b:=(l.length:Int)) (c:=k) (by omega) hg
   rw[nn];exact this
  have h5:k*(l.length:Int)=((l.length*k.toNat:Nat):Int):=by
   rw[iL,Int.toNat_of_nonneg (by omega),nn]
  rw[h5]at h4
  omega
 ·intro hk hx
  rw[iN]
  unfold Builtin.Str.tooLong
  rw[ba]
  have:(1000000:Nat)<=sizeLine:=by decide
  omega
 ·rw[iN];simpa[Nat.mul_comm]using h31
 ·rw[Mv]
def ij:W->W->List ao->R W
 |.int i,.int j,st=>if Ml i j then .ok (.int (i*j)) st else .bad
 |.str l,.int k,st=>if -(2^62)<=k/\k<2^62/\l.length*k.toNat<=mL/\l.length*k.toNat≠1 then .ok (.str (List.replicate k.toNat l).flatten) st else .bad
 |_,_,_=>.bad
theorem je:vW X (binaryOp .Mult) ij:=⟨fun al s σ H x y v u Q I rv ru ⟨μ,st,wx,wy,S,rx,ry,q⟩=>by
 cases wx with
 |int i=>
  cases wy with
  |int j=>
   have q':Ev X μ H Q (Pa (.int i) (.int j) st):=q
   exact Pd.h al s σ H x y v u Q I rv ru ⟨μ,st,.int i,.int j,S,rx,ry,q'⟩
  |_=>exact q.elim
 |str l=>
  cases wy with
  |int k=>
   simp only[ij]at q
   split at q
   ·rename_i cc
    exact Jj al s σ H x y v u Q I rv ru ⟨l,k,rx.strE,ry.intE,cc.1,cc.2.1,cc.2.2.1,cc.2.2.2,qG S q⟩
   ·exact q.elim
  |_=>exact q.elim
 |_=>cases wy<;>exact q.elim,fun x y st=>by
 unfold ij
 repeat' split
 all_goals trivial⟩
end
section
variable{X:Cx}
variable{e:Expr}{es:List Expr}{pos p:Pos}{x:Str}{fs:FA}
end
section
variable{prog:Program}{w:World}{A:Around}{E:Value->Shared->Prop}{s:Shared}
theorem u8:∀(l:List Nat) (vs:List Value),vs.length=l.length->(∀(j:Nat) (v:Value),vs[j]?=some v->∃c u,l[j]?=some c/\v=.str (tx [c]) u)->StrsAre vs (l.map fun c=>tx [c])
 |[],[],_,_=>.nil
 |c::l,v::vs,hl,h=>by
  obtain⟨d,u,e,rfl⟩:=h 0 v rfl
  cases e
  exact .cons _ _ (u8 l vs (Nat.succ.inj hl) fun j v hj=>h (j+1) v hj)
 |[],_::_,hl,_=>nomatch hl
 |_::_,[],hl,_=>nomatch hl
abbrev Mw(iI:Array Value)(c:Nat):Obj:={ cls:=.type "list",data:=.seq iI c }
theorem FC{R:Result->Shared->Prop}{I:Addr}{fp wr:List Addr}{n n0:Nat}{P:Nat->Value->Prop}{St:Nat->Heap->Prop}(W:Walks prog w A.in1 I fp wr n P St)(K_:n<=sizeLine)(D:Addr)(hD:D∉fp)(res:Value)
  (AJ:∀i (s:Shared) (Q:Option Value->Shared->Prop) (E:Value->Shared->Prop),n0<=s.toks->i<n->St i s.heap ->
   (∀v h' tk,s.toks<=tk->iB tk [v]->P i v->St (i+1) h'->(∀b o,b∉wr->s.heap.get? b=some o->h'.get? b=some o)->Q (some v) { s with heap:=h',toks:=tk })->wpAny (model prog w) A.in1 (pyNext (.ref I)) Q E s) :
  ∀(m i:Nat) (z:Shared) (Dm:Array Value) (c:Nat),i+m=n->n0<=z.toks->St i z.heap->z.heap.get? D=some (Mw Dm c)->ItemsOf P Dm i->iB z.toks Dm.toList ->
   (∀g tk got' c',z.toks<=tk->(∀b o,b≠D->b∉wr->z.heap.get? b=some o->g.get? b=some o)->g.get? D=some (Mw got' c')->ItemsOf P got' n->iB tk got'.toList->R (.ok (.ret res)) { z with heap:=g,toks:=tk }) ->
   codeAny (model prog w) A (.builtin "list.extend.loop" ⟨[.ref D,.ref I,res],[]⟩) R z:=by
 have nw:D∉wr:=fun h=>hD (W.sub _ h)
 intro m
 induction m with
 |zero=>
  intro i z Dm c e hn0 st hd ac ta q
  obtain rfl:i=n:=e
  refine dB PySem.F.entry_extend_loop ?_
  rw[cO PySem.F.plain_extend_loop _]
  show wpAny _ A.in1 (pyNext (.ref I) >>= _) _ _ z
  exact aa (up (W.done z _ _ st fun g tk kp kM=>ay (q g tk Dm c kM (fun b o _ hb h=>kp b o hb h) (kp D _ nw hd) ac (ta.up kM))))
 |succ m ih=>
  intro i z Dm c e hn0 st hd ac ta q
  refine dB PySem.F.entry_extend_loop ?_
  rw[cO PySem.F.plain_extend_loop _]
  show wpAny _ A.in1 (pyNext (.ref I) >>= _) _ _ z
  refine aa (AJ i z _ _ hn0 (by omega) st fun v g tk kM tv hP bh kp=>?_)
  have hd':=kp D _ nw hd
  show wpAny _ A.in1 (updateSeq D (·.push v) >>= _) _ _ _
  refine aa (nM hd' rfl (ay ⟨eX PySem.F.plain_extend_loop _,ih (i+1) _ (Dm.push v) _ (by omega) (aM hn0 kM) (W.frame _ _ _ bh fun b hb o h=>?_) (dy _ hd' rfl) (ac.push hP) (fun x t hx=>?_) fun g2 tk2 got2 c2 hle2 kp2 hd2 ac2 ta2=>?_⟩)
   (by rw[ac.1];omega) (by show(Dm.push v).size<=sizeLine+1;rw[Array.size_push,ac.1];omega))
  ·exact(cC _ _ (fun h:D=b=>hD (by rw[h];exact hb))).trans h
  ·rw[lS,aU]at hx
   rcases hx with hx|hx
   ·exact ta.up kM x t hx
   ·exact tv x t hx
  ·exact q g2 tk2 got2 c2 (aM kM hle2) (fun b o hb hw h=>kp2 b o hb hw ((cC _ _ (Ne.symm hb)).trans (kp b o hw h))) hd2 ac2 ta2
theorem xO{l:List Nat}{t:Tok}{Q:List Value->Shared->Prop}(Et:0<s.toks)(hh:A.handled=none)(K_:l.length<=sizeLine)
  (q:∀g tk (Dm:Array Value),s.toks<=tk->(∀b o,s.heap.get? b=some o->g.get? b=some o)->ItemsOf (SignAt (tx l)) Dm (tx l).cps.size->iB tk Dm.toList->Q Dm.toList { s with heap:=g,toks:=tk }):wpAny (model prog w) A (collect (.str (tx l) t)) Q E s:=by
 have hn:(tx l).cps.size=l.length:=by simp[tx]
 unfold collect
 refine aa (oT (dB entry_proto_collect' ?_))
 rw[cO PySem.F.plain_proto_collect _]
 show wpAny _ A.in1 (newList [] >>= fun d=>again (.builtin "list.__iadd__" ⟨[d,.str (tx l) t],[]⟩)) _ _ s
 refine aa (cr (ay ⟨eX PySem.F.plain_list_iadd _,dB entry_list_iadd' ?_⟩))
 rw[cO PySem.F.plain_list_iadd _]
 show wpAny _ A.in1 (Builtin.List.listExtendWith (.ref s.heap.objs.size) (.str (tx l) t) (.ref s.heap.objs.size)) _ _ _
 unfold Builtin.List.listExtendWith
 refine aa (ii (T:="str") (v:=.str (tx l) t) rfl ?_)
 have e1:Builtin.List.listSameRef (.ref s.heap.objs.size) (.str (tx l) t)=false:=rfl
 have e2:(Value.type "str" == Value.type "list")=false:=by decide
 have e3:(Value.type "str" == Value.type "tuple")=false:=by decide
 simp only[e1,e2,e3,me,fy,jU]
 generalize hL:s.heap.objs.size=L
 have gL:(s.heap.push { cls:=.type "list",data:=.seq ([]:List Value).toArray }).get? L=some (Mw #[] 0):=by rw[<- hL];exact aB _ rfl
 have z1:(s.heap.push { cls:=.type "list",data:=.seq ([]:List Value).toArray }).objs.size=L+1:=by rw[bt,hL]
 have kp1:∀b o,s.heap.get? b=some o->(s.heap.push { cls:=.type "list",data:=.seq ([]:List Value).toArray }).get? b=some o:=fun b o e=>aq _ e
 generalize s.heap.push { cls:=.type "list",data:=.seq ([]:List Value).toArray }=g1 at gL z1 kp1 ⊢
 have kA:∀(ob:Obj) (ty:String),(∀A:Around,A.handled=none->Walks prog w A (L+1) [L+1] [L+1] (tx l).cps.size (SignAt (tx l)) (fun i h=>h.IsStrIter (L+1) ty (tx l) t i))->(g1.push ob).IsStrIter (L+1) ty (tx l) t 0 ->
   (∀{A:Around} {s:Shared} {i c:Nat} {Q:Option Value->Shared->Prop} {E:Value->Shared->Prop},s.heap.IsStrIter (L+1) ty (tx l) t i->(tx l).cps[i]?=some c ->
    (∀h',h'.IsStrIter (L+1) ty (tx l) t (i+1)->Heap.SameBut (L+1) s.heap h'->Q (some (.str ⟨#[c]⟩ s.toks)) { s with heap:=h',toks:=s.toks+1 })->wpAny (model prog w) A (pyNext (.ref (L+1))) Q E s) ->
   codeAny (model prog w) A (.builtin "list.extend.loop" ⟨[.ref L,.ref (L+1),.ref L],[]⟩) (wants (fun r s'=>wpAny (model prog w) A (match r with|.ref a=>(do match (<- load a).data with|.seq xs _=>pure xs.toList|_=>unsupported "internal:collect")|_=>unsupported "internal:collect") Q E s') E) { s with heap:=g1.push ob }:=fun ob ty W h0 next=>by
  refine FC (n0:=s.toks) (W A.in1 (by simpa using hh)) (by rw[hn];exact K_) L (by simp) (.ref L) (fun i s' Q E hn0 hi st q=>?_) (tx l).cps.size 0 _ #[] 0 (by omega) (az _) h0 (aq _ gL) (ItemsOf.nil _) (fun x u hx=>by simp at hx) fun g tk Dm c kM kp hd ac ta=>?_
  ·obtain⟨c,hx⟩:∃c,(tx l).cps[i]?=some c:=⟨_,eh hi⟩
   refine next st hx fun h' bh hs=>q _ h' (s'.toks+1) (bp _) (fun x u hx' _=>?_) ⟨c,_,hx,rfl⟩ bh fun b o hb e=>hs.extBut b o (fun z=>hb (by simp[z])) e
   rw[aY]at hx'
   cases hx'
   exact⟨aQ Et hn0,bZ _⟩
  ·refine aa (wpAny_load hd (ay (q g tk Dm kM (fun b o e=>kp b o ?_ ?_ (aq _ (kp1 b o e))) ac ta)))
   ·rw[<- hL];exact a7 (aI e)
   ·intro hm
    rw[aY]at hm
    have:=aI e
    rw[hL,hm]at this
    have this:L+1<L:=this
    omega
 have hint:∀(s':Shared) (Q':Bool->Shared->Prop) (E':Value->Shared->Prop),Q' false s'->wpAny (model prog w) A.in1 (Builtin.List.listLengthHint (.str (tx l) t)) Q' E' s':=fun s' Q' E' y=>by
  unfold Builtin.List.listLengthHint
  refine aa (wpAny_specialOf (T:="str") (v:=.str (tx l) t) rfl PySem.F.str_len ?_)
  wp_delta
  refine aa (ga (T:="str") (v:=.str (tx l) t) (b:=true) rfl (by rw[dX];kernel_rfl) ?_)
  show wpAny _ A.in1 (typeOf (Value.str (tx l) t) >>= _) _ _ _
  exact aa (ii (T:="str") (v:=.str (tx l) t) rfl (ay y))
 have key:∀(ob:Obj),codeAny (model prog w) A (.builtin "list.extend.loop" ⟨[.ref L,.ref (L+1),.ref L],[]⟩) (wants (fun r s'=>wpAny (model prog w) A (match r with|.ref a=>(do match (<- load a).data with|.seq xs _=>pure xs.toList|_=>unsupported "internal:collect")|_=>unsupported "internal:collect") Q E s') E) { s with heap:=g1.push ob }->_:=fun ob h=>h
 cases ha:(tx l).cps.all (· < 128)
 ·refine aa (lN ha (aa (c8 (hint _ _ _ ?_))))
  show wpAny _ _ _ _ _ _
  rw[show Shared.heap { s with heap:=g1 }=g1 from rfl,z1]
  rw[aV (by decide)]
  exact ay ⟨eX PySem.F.plain_extend_loop _,kA _ "str_iterator" (fun A hA=>Walks.strWide hA _ (tx l) t) ⟨_,by rw[<- z1];exact aB _ rfl,rfl,rfl⟩ fun a b c=>jl a b c⟩
 ·refine aa (k7 ha (aa (c8 (hint _ _ _ ?_))))
  rw[show Shared.heap { s with heap:=g1 }=g1 from rfl,z1]
  rw[aV (by decide)]
  exact ay ⟨eX PySem.F.plain_extend_loop _,kA _ "str_ascii_iterator" (fun A hA=>Walks.strAscii hA _ (tx l) t) ⟨_,by rw[<- z1];exact aB _ rfl,rfl,rfl⟩ fun a b c=>i7 a b c⟩
theorem zB{l:List Nat}{t:Tok}{Q:Value->Shared->Prop}(Et:0<s.toks)(K_:l.length<64)(hh:A.handled=none)
  (q:∀(s1:Shared) (g1:Heap) (out:Array Value) (ss:List Str) (e:Nat),(∀b o,s.heap.get? b=some o->s1.heap.get? b=some o)->s1.gens=s.gens->s1.drawn=s.drawn->s1.os=s.os->(∀b o,s1.heap.get? b=some o->g1.get? b=some o)->g1.get? s1.heap.objs.size=some (seqObj "list" out e) ->
   s.toks<=s1.toks->iB s1.toks out.toList->StrsAre out.toList ss->ss.Perm (l.map fun c=>tx [c])->sortedS ss=true->Q (.ref s1.heap.objs.size) { s1 with heap:=g1 }):wpAny (model prog w) A (call (.builtin "sorted") [.str (tx l) t]) Q E s:=by
 have hn:(tx l).cps.size=l.length:=by simp[tx]
 apply lj kind_sorted plain_sorted entry_sorted (args_sorted1 _)
 show wpAny _ _ (checkCount "sorted" 1 1 _ >>= _) _ _ _
 refine aa (ay (aa (xO Et (by simpa using hh) (by rw[jT];omega) (fun g tk iI kM kp ha ta=>?_))))
 generalize hs1:({ s with heap:=g,toks:=tk }:Shared)=s1
 have eg:s1.gens=s.gens:=by rw[<- hs1]
 have ed:s1.drawn=s.drawn:=by rw[<- hs1]
 have eo:s1.os=s.os:=by rw[<- hs1]
 have kp:∀b o,s.heap.get? b=some o->s1.heap.get? b=some o:=by rw[<- hs1];exact kp
 have kM:s.toks<=s1.toks:=by rw[<- hs1];exact kM
 have ta:iB s1.toks iI.toList:=by rw[<- hs1];exact ta
 have rJ:StrsAre iI.toList (l.map fun c=>tx [c]):=by
  refine u8 l _ (by rw[dY,ha.1,hn]) fun j v hj=>?_
  obtain⟨c,u,hc,e⟩:=ha.2 j v (by simpa using hj)
  exact⟨c,u,by simpa[tx]using hc,e⟩
 have hvl:iI.toList.length<64:=by rw[dY,ha.1,hn];exact K_
 refine aa (wpAny_newList ?_ (by rw[jT];omega))
 have oL:(s1.heap.push (seqObj "list" iI.toList.toArray 0)).get? s1.heap.objs.size=some (seqObj "list" iI.toList.toArray 0):=aB _ rfl
 refine aa (c8 (b6 slot_list_sort ⟨_,oL,rfl⟩ entry_list_sort (list_sort_treeK pY oL rJ.keysOf (fun a b r e=>rN (by rw[<- e];exact rJ)) hvl fun st a1 a2=>⟨_,rfl,?_⟩) (args_list_sort _)))
 obtain⟨ss,h1,h2,h3⟩:=oS rJ a1 a2
 obtain⟨e,he⟩:=sortedHeap_at (out:=(arrOf st).map (·.2)) oL
 refine ay ⟨_,rfl,q s1 _ _ ss e kp eg ed eo (fun b o hb=>?_) he kM (ta.sub (uN a1)) h1 h2 h3⟩
 rw[sortedHeap_old (a7 (aI hb)) (by rw[bt];exact cJ (aI hb))]
 exact aq _ hb
end
section
variable{X:Cx}
def jY(ws:List W)(st:List ao):R W:=match ws with
 |[.str l]=>if l.length<64 then .ok (.loc st.length) (st++[.lst ((iX (l.map fun c=>[c])).map W.str)])else .bad
 |[.loc n]=>pc [.loc n] st
 |_=>.bad
theorem xP(hc:X.calm=true:=by rfl):oh X (.builtin "sorted") jY:=⟨fun al s σ H vs us Q I rv ⟨μ,st,ws,S,r,q⟩=>by
 unfold jY at q
 split at q
 ·rename_i l
  split at q
  ·rename_i c
   obtain⟨y,rfl,ry⟩:=r.one
   have:=ry.strE;subst this
   obtain⟨u,rfl,ru⟩:=n_ rv
   obtain⟨t,rfl⟩:=ru
   refine zB I.pos c (I.ok.hd hc) fun s1 g1 out ss e kp eg ed eo k1 gL kM ta rJ hp hsr=>?_
   have es:s1={ s with heap:=s1.heap,toks:=s1.toks }:=by cases s1;cases s;cases eg;cases ed;cases eo;rfl
   generalize s1.heap=g0,s1.toks=tk at es kp k1 gL kM ta ⊢
   subst es
   have I2:bU X al σ H { s with heap:=g0,toks:=tk }:=I.kept2 (d':=s.drawn) fun b o e=>kp b o e
   have Cu:H g0.objs.size=none:=I2.hok.fresh (az _)
   have hmap:(ss.map fun z=>z.cps.toList).map tx=ss:=by
    rw[b7]
    have:(tx∘fun z:Str=>z.cps.toList)=id:=funext fun z=>CL z
    rw[this,i8]
   have hperm:(ss.map fun z=>z.cps.toList).Perm (l.map fun c=>[c]):=by
    have e:=hp.map fun z:Str=>z.cps.toList
    rw[b7]at e
    exact e
   have ez:(ss.map fun z=>z.cps.toList)=iX (l.map fun c=>[c]):=uk (u3 (by rw[hmap];exact hsr)) (u0 _) (hperm.trans (gs _).symm)
   have hvals:cG tk ((iX (l.map fun c=>[c])).map fun l=>V.str (tx l)) out.toList:=by
    have e:=mO rJ ta
    rw[<- hmap,ez,b7]at e
    exact e
   refine⟨.ref g0.objs.size,_,I2.laid (o:=.lst ((iX (l.map fun c=>[c])).map fun l=>V.str (tx l))) (t':=tk) k1 (az _) ⟨?_,out.toList,e,hvals,gL⟩,rfl,?_⟩
   ·rw[aE,(gs _).length_eq,aE]
    exact aM (fL c) (by decide)
   ·exact q (μ++[g0.objs.size]) _ _ (a9 _ _) (gg.same (du Cu _)) (S.newLst Cu (zz _)) (qc S)
  ·exact q.elim
 ·exact zA.h al s σ H _ us Q I rv ⟨μ,st,_,S,r,q⟩
 ·exact q.elim,fun ws st=>by
 unfold jY
 split
 ·split<;>trivial
 ·exact(zA (X:=X)).n _ _
 ·trivial⟩
end
section
variable{X:Cx}{a b c tg:Expr}{fs:FA}{p pos:Pos}
end
section
variable{X:Cx}{qr tg dQ:Expr}{mM:List Expr}{scope:Scope}{pos:Pos}{nm:List Str}{cap:List (Option Nat)}{fi:FI}{f:FG}{t:FT}{el:FE}
end
theorem bU.turnedL{X:Cx}{al:List (Addr×Obj)}{σ:St}{H:Hp}{s:Shared}{h':Heap}{t':Nat}{ch:List Addr}(I:bU X al σ H s)(k:∀b o,b∉ch->s.heap.get? b=some o->h'.get? b=some o)
  (f:∀b∈ch,rX X al H b) (Ru:s.toks<=t':=by first|exact az _|exact bp _|assumption|omega):bU X al σ H { s with heap:=h',toks:=t' }:=by
 have nit:∀b u,H b=some u->b∉ch:=fun b u q z=>by rw[(f b z).1]at q;cases q
 refine I.step (g':=s.gens) (d':=s.drawn) (ch:=ch) (fun b hb=>?_) (fun b o _ _ hc q _=>k b o hc q) (fun b o _ _ hc q _=>⟨o.slots,k b o hc q⟩) (fun _ _ _ _ n=>n)
  (fun b o hc q=>⟨o,k b o hc q⟩) (fun _ _ q=>q) (fun _ _ _ q=>q) (fun b ps q=>⟨#[],by rw[q];simp⟩) (fun m hm=>?_) (fun b u q=>?_) I.bare Ru
 ·exact⟨(f b hb).2.2.2.1,(f b hb).2.1,(f b hb).2.2.2.2.1,(f b hb).2.2.2.2.2⟩
 ·obtain⟨o,es,ep,ho,r⟩:=hm
  exact⟨o,es,ep,k _ o (fun z=>(f _ z).2.1 rfl) ho,r⟩
 ·refine((I.hok b u q).up Ru).stay (fun c v hc z=>?_) (fun _ z=>z) fun _ _ z=>z
  rcases hc with y|y
  ·rw[y]at z ⊢;exact k b v (nit b u q) z
  ·exact k c v (nit c _ y) z
section
variable{prog:Program}{w:World}{A:Around}{E:Value->Shared->Prop}{s:Shared}
variable{z P O i j a b:Addr}{n m:Nat}{xs ys:Array Value}{x y u v:Value}
theorem Jk{Q:Value->Shared->Prop}(D:ZipApart z P O i j a b)(qz:IsZip s.heap z P O .none)(qP:IsPair s.heap P (.ref i) (.ref j))(qO:IsPair s.heap O u v)
  (q1:s.heap.IsTupleIter i a n) (q2:s.heap.IsTupleIter j b m) (ta:s.heap.IsTuple a xs) (tb:s.heap.IsTuple b ys) (hx:xs[n]?=some x) (hy:ys[m]?=some y)
  (hQ:∀g,IsZip g z P O (rawInt s.heap.objs.size)->IsPair g O x y->g.IsTupleIter i a (n+1)->g.IsTupleIter j b (m+1)->IsPair g s.heap.objs.size x y ->
   (∀c o,c≠z->c≠O->c≠i->c≠j->s.heap.get? c=some o->g.get? c=some o)->Q (.ref s.heap.objs.size) { s with heap:=g }) :
  wpAny (model prog w) A (Builtin.«zip.__next__» ⟨[.ref z],[]⟩) (fun kA s'=>∃v,kA=.done (.ret v)/\Q v s') E s:=by
 show wpAny _ _ (field (.ref z) 2 >>= _) _ _ _
 refine aa (c7 qz rfl (x:=.bool false) rfl ?_)
 show wpAny _ _ (field (.ref z) 3 >>= _) _ _ _
 refine aa (c7 qz rfl (x:=.ref P) rfl (aa (dU qP rfl ?_)))
 show wpAny _ _ (Builtin.SmallTypes.ownedTupleIsFree (.ref z) >>= _) _ _ _
 refine aa ?_;unfold Builtin.SmallTypes.ownedTupleIsFree
 refine aa (c7 qz rfl (x:=.none) rfl (ay ?_));simp only[fX]
 refine aa (jJ (aa (c7 qz rfl (x:=.ref O) rfl ?_)))
 refine aa (cv qz (by simp) fun g1 z1 s1=>?_)
 replace z1:IsZip g1 z P O .ellipsis:=z1
 refine aa ?_
 simp only[List.zipIdx_cons,List.zipIdx_nil,ki,oR]
 refine aa (aa (mf ?_))
 show wpAny _ _ (Builtin.SmallTypes.nextOf (.ref i) >>= _) _ _ _
 refine aa (jL (q1.extBut s1.extBut D.i1z) (ta.extBut s1.extBut D.l1z) hx fun g2 k2 s2=>ay ?_)
 have O2:IsPair g2 O u v:=s2.extBut _ _ D.TOi1 (s1.extBut _ _ D.TOz qO)
 refine aa (dU O2 rfl (aa (jW O2 fun g3 O3 s3=>?_)))
 replace O3:IsPair g3 O x v:=O3
 refine aa (wpAny_letGo (ay (aa (aa (mf ?_)))))
 show wpAny _ _ (Builtin.SmallTypes.nextOf (.ref j) >>= _) _ _ _
 refine aa (jL (((q2.extBut s1.extBut D.i2z).extBut s2.extBut D.i12.symm).extBut s3.extBut D.TOi2.symm)
  (((tb.extBut s1.extBut D.l2z).extBut s2.extBut D.l2i1).extBut s3.extBut D.l2TO) hy fun g4 k4 s4=>ay ?_)
 have O4:IsPair g4 O x v:=s4.extBut _ _ D.TOi2 O3
 refine aa (dU O4 rfl (aa (jW O4 fun g5 O5 s5=>?_)))
 replace O5:IsPair g5 O x y:=O5
 refine aa (wpAny_letGo (ay (ay (aa (dU O5 rfl (aa (wpAny_newTuple ?_)))))))
 have sz:g5.objs.size=s.heap.objs.size:=by rw[s5.1,s4.1,s3.1,s2.1,s1.1]
 have z5:IsZip g5 z P O .ellipsis:=s5.extBut _ _ D.TOz.symm (s4.extBut _ _ D.i2z.symm (s3.extBut _ _ D.TOz.symm (s2.extBut _ _ D.i1z.symm z1)))
 have kp:∀c o,c≠z->c≠O->c≠i->c≠j->s.heap.get? c=some o->g5.get? c=some o:=fun c o c1 c2 c3 c4 e=>
  s5.extBut _ _ c2 (s4.extBut _ _ c4 (s3.extBut _ _ c2 (s2.extBut _ _ c3 (s1.extBut _ _ c1 e))))
 have k5:g5.IsTupleIter i a (n+1):=((k2.extBut s3.extBut D.TOi1.symm).extBut s4.extBut D.i12).extBut s5.extBut D.TOi1.symm
 have l5:g5.IsTupleIter j b (m+1):=k4.extBut s5.extBut D.TOi2.symm
 have zlt:z<g5.objs.size:=aI z5
 show wpAny _ _ (Builtin.SmallTypes.ownedTupleHandOut (.ref z) (.ref g5.objs.size) >>= _) _ _ _
 refine aa ?_;unfold Builtin.SmallTypes.ownedTupleHandOut
 have z6:IsZip (g5.push { cls:=.type "tuple",data:=.seq #[x,y] }) z P O .ellipsis:=aq _ z5
 refine aa (cv z6 (by simp) fun g7 z7 s7=>?_)
 replace z7:IsZip g7 z P O (rawInt g5.objs.size):=z7
 refine cv z7 (by simp) fun g8 z8 s8=>?_
 replace z8:IsZip g8 z P O (rawInt g5.objs.size):=z8
 have up:∀c o,c≠z->g5.get? c=some o->g8.get? c=some o:=fun c o c1 e=>s8.extBut _ _ c1 (s7.extBut _ _ c1 (aq _ e))
 have T8:IsPair g8 g5.objs.size x y:=s8.extBut _ _ (dS zlt) (s7.extBut _ _ (dS zlt) (aB _ rfl))
 rw[sz]at z8 T8
 refine ay ⟨_,rfl,?_⟩
 show Q (.ref g5.objs.size) _
 rw[sz]
 exact hQ g8 z8 (up _ _ D.TOz O5) (k5.at fun o e=>up _ o D.i1z e) (l5.at fun o e=>up _ o D.i2z e) T8 fun c o c1 c2 c3 c4 e=>up c o c1 (kp c o c1 c2 c3 c4 e)
theorem Mx{Q:Fin->Shared->Prop}(hh:A.handled=none)(D:ZipApart z P O i j a b)(qz:IsZip s.heap z P O .none)(qP:IsPair s.heap P (.ref i) (.ref j))(qO:IsPair s.heap O u v)
  (q1:s.heap.IsTupleIter i a n) (q2:s.heap.IsTupleIter j b m) (ta:s.heap.IsTuple a xs) (tb:s.heap.IsTuple b ys) (he:xs[n]?=none\/ys[m]?=none)
  (hE:∀g e,(∀c o,c≠z->c≠O->c≠i->c≠j->s.heap.get? c=some o->g.get? c=some o)->(∃o,g.get? e=some o/\o.cls=.type "StopIteration")->E (.ref e) { s with heap:=g }) :
  wpAny (model prog w) A (Builtin.«zip.__next__» ⟨[.ref z],[]⟩) Q E s:=by
 show wpAny _ _ (field (.ref z) 2 >>= _) _ _ _
 refine aa (c7 qz rfl (x:=.bool false) rfl ?_)
 show wpAny _ _ (field (.ref z) 3 >>= _) _ _ _
 refine aa (c7 qz rfl (x:=.ref P) rfl (aa (dU qP rfl ?_)))
 show wpAny _ _ (Builtin.SmallTypes.ownedTupleIsFree (.ref z) >>= _) _ _ _
 refine aa ?_;unfold Builtin.SmallTypes.ownedTupleIsFree
 refine aa (c7 qz rfl (x:=.none) rfl (ay ?_));simp only[fX]
 refine aa (jJ (aa (c7 qz rfl (x:=.ref O) rfl ?_)))
 refine aa (cv qz (by simp) fun g1 z1 s1=>?_)
 replace z1:IsZip g1 z P O .ellipsis:=z1
 refine aa ?_
 simp only[List.zipIdx_cons,List.zipIdx_nil,ki,oR]
 refine aa (aa (mf ?_))
 show wpAny _ _ (Builtin.SmallTypes.nextOf (.ref i) >>= _) _ _ _
 cases hx:xs[n]? with
 |none=>
  refine aa (kD hh (q1.extBut s1.extBut D.i1z) (ta.extBut s1.extBut D.l1z) hx fun g2 e s2 ye=>?_)
  obtain⟨oe,h1,h2⟩:=ye
  have z2:IsZip g2 z P O .ellipsis:=s2 _ _ D.i1z.symm z1
  have nez:e≠z:=fun q=>by subst q;rw[z2]at h1;cases h1;simp at h2
  exact cv z2 (by simp) fun g3 _ s3=>hE g3 e (fun c o c1 _ c3 _ q=>s3.extBut _ _ c1 (s2 _ _ c3 (s1.extBut _ _ c1 q))) ⟨oe,s3.extBut _ _ nez h1,h2⟩
 |some x=>
  have hy:ys[m]?=none:=by rcases he with h|h;rw[hx]at h;cases h;exact h
  refine aa (jL (q1.extBut s1.extBut D.i1z) (ta.extBut s1.extBut D.l1z) hx fun g2 k2 s2=>ay ?_)
  have O2:IsPair g2 O u v:=s2.extBut _ _ D.TOi1 (s1.extBut _ _ D.TOz qO)
  refine aa (dU O2 rfl (aa (jW O2 fun g3 O3 s3=>?_)))
  refine aa (wpAny_letGo (ay (aa (aa (mf ?_)))))
  show wpAny _ _ (Builtin.SmallTypes.nextOf (.ref j) >>= _) _ _ _
  refine aa (kD hh (((q2.extBut s1.extBut D.i2z).extBut s2.extBut D.i12.symm).extBut s3.extBut D.TOi2.symm)
   (((tb.extBut s1.extBut D.l2z).extBut s2.extBut D.l2i1).extBut s3.extBut D.l2TO) hy fun g4 e s4 ye=>?_)
  obtain⟨oe,h1,h2⟩:=ye
  have z4:IsZip g4 z P O .ellipsis:=s4 _ _ D.i2z.symm (s3.extBut _ _ D.TOz.symm (s2.extBut _ _ D.i1z.symm z1))
  have nez:e≠z:=fun q=>by subst q;rw[z4]at h1;cases h1;simp at h2
  exact cv z4 (by simp) fun g5 _ s5=>hE g5 e (fun c o c1 c2 c3 c4 q=>s5.extBut _ _ c1 (s4 _ _ c4 (s3.extBut _ _ c2 (s2.extBut _ _ c3 (s1.extBut _ _ c1 q))))) ⟨oe,s5.extBut _ _ nez h1,h2⟩
theorem Jl{Q:Option Value->Shared->Prop}(D:ZipApart z P O i j a b)(qz:IsZip s.heap z P O .none)(qP:IsPair s.heap P (.ref i) (.ref j))(qO:IsPair s.heap O u v)
  (q1:s.heap.IsTupleIter i a n) (q2:s.heap.IsTupleIter j b m) (ta:s.heap.IsTuple a xs) (tb:s.heap.IsTuple b ys) (hx:xs[n]?=some x) (hy:ys[m]?=some y)
  (hQ:∀g,IsZip g z P O (rawInt s.heap.objs.size)->IsPair g O x y->g.IsTupleIter i a (n+1)->g.IsTupleIter j b (m+1)->IsPair g s.heap.objs.size x y ->
   (∀c o,c≠z->c≠O->c≠i->c≠j->s.heap.get? c=some o->g.get? c=some o)->Q (some (.ref s.heap.objs.size)) { s with heap:=g }) :
  wpAny (model prog w) A (pyNext (.ref z)) Q E s:=by
 have T:s.TypeIs (.ref z) "zip":=⟨_,qz,rfl⟩
 unfold pyNext
 exact aa (gM (bI (name:=Str.ofString "__next__") T ko (b6 ko T F.entry_zip_next
   (Jk D qz qP qO q1 q2 ta tb hx hy fun g a1 a2 a3 a4 a5 a6=>ay (hQ g a1 a2 a3 a4 a5 a6)) (F.args_zip_next_1 _))))
theorem Jm{Q:Option Value->Shared->Prop}(hh:A.handled=none)(D:ZipApart z P O i j a b)(qz:IsZip s.heap z P O .none)(qP:IsPair s.heap P (.ref i) (.ref j))(qO:IsPair s.heap O u v)
  (q1:s.heap.IsTupleIter i a n) (q2:s.heap.IsTupleIter j b m) (ta:s.heap.IsTuple a xs) (tb:s.heap.IsTuple b ys) (he:xs[n]?=none\/ys[m]?=none)
  (hQ:∀g,(∀c o,c≠z->c≠O->c≠i->c≠j->s.heap.get? c=some o->g.get? c=some o)->Q none { s with heap:=g }):wpAny (model prog w) A (pyNext (.ref z)) Q E s:=by
 have T:s.TypeIs (.ref z) "zip":=⟨_,qz,rfl⟩
 unfold pyNext
 refine aa (gM (bI (name:=Str.ofString "__next__") T ko (b6 ko T F.entry_zip_next (Mx hh D qz qP qO q1 q2 ta tb he fun g e hk ye=>?_) (F.args_zip_next_1 _))))
 obtain⟨o,ho,hc⟩:=ye
 exact aa (ga (T:="StopIteration") (b:=true) ⟨o,ho,hc⟩ k8 (ay (hQ _ hk)))
end
open AutoSeq1 (wpAny_loadPart')
abbrev Rb(h:Heap)(a:Addr):Heap:=h.push (lr a)
abbrev Rc(h:Heap)(a b:Addr):Heap:=(Rb h a).push (lr b)
abbrev Re(h:Heap)(a b:Addr):Heap:=(Rc h a b).push { cls:=.type "tuple",data:=.seq #[.ref h.objs.size,.ref (Rb h a).objs.size] }
abbrev Rf(h:Heap)(a b:Addr):Heap:=(Re h a b).push { cls:=.type "tuple",data:=.seq #[.none,.none] }
abbrev N7(h:Heap)(a b:Addr):Heap:=(Rf h a b).push { cls:=.type "zip",data:=.fields #[.none,.bool false,.bool false,.ref (Rc h a b).objs.size,.ref (Re h a b).objs.size] }
theorem My     (a b : Addr) (xs ys : Array Value) : Meets (Builtin.«zip.__new__» ⟨[.type "zip", .ref a, .ref b], []⟩) (fun _ R s => s.heap.IsTuple a xs /\ s.heap.IsTuple b ys /\
      R (.ok (.ret (.ref (Rf  s.heap a b).objs.size))) { s with heap := N7  s.heap a b }) :=
  .of_wp fun prog w A R s h => by
    obtain ⟨hp, g, d, tk, os⟩ := s
    obtain ⟨ha, hb, h⟩ := h
    have sb := sub_zip
    have hA : Heap.IsTuple (Shared.heap ⟨hp, g, d, tk, os⟩) a xs := ha
    have hB : Heap.IsTuple (Shared.heap ⟨hp.push (lr      a), g, d, tk, os⟩) b ys := hb.at fun o e => aq                     _ e
    wp_walk using fw                 hA, fw                 hB
    exact ⟨_, rfl, h⟩
section
variable{prog:Program}{w:World}{A:Around}{E:Value->Shared->Prop}{s:Shared}
theorem Jn{a b:Addr}{xs ys:Array Value}{Q:Value->Shared->Prop}(ha:s.heap.IsTuple a xs)(hb:s.heap.IsTuple b ys)
  (q:∀g,IsZip g (s.heap.objs.size+4) (s.heap.objs.size+2) (s.heap.objs.size+3) .none->IsPair g (s.heap.objs.size+2) (.ref s.heap.objs.size) (.ref (s.heap.objs.size+1)) ->
   IsPair g (s.heap.objs.size+3) .none .none->g.IsTupleIter s.heap.objs.size a 0->g.IsTupleIter (s.heap.objs.size+1) b 0->(∀c o,s.heap.get? c=some o->g.get? c=some o)->Q (.ref (s.heap.objs.size+4)) { s with heap:=g }) :
  wpAny (model prog w) A (call (.type "zip") [.ref a,.ref b]) Q E s:=by
 refine callType_new F.called_zip (by decide) (F.typeCall_zip_2 _ _) (F.newCall_zip_2 _ _) (fun ob=>F.args_object_init_3 ob _ _) F.entry_zip_new (My a b xs ys) ⟨ha,hb,?_⟩
 have n1:(Rb s.heap a).objs.size=s.heap.objs.size+1:=bt ..
 have n2:(Rc s.heap a b).objs.size=s.heap.objs.size+2:=by rw[bt,n1]
 have n3:(Re s.heap a b).objs.size=s.heap.objs.size+3:=by rw[bt,n2]
 have n4:(Rf s.heap a b).objs.size=s.heap.objs.size+4:=by rw[bt,n3]
 have p:∀{h:Heap} {c:Addr} {o u:Obj},h.get? c=some o->(h.push u).get? c=some o:=fun e=>aq _ e
 have g5:(N7 s.heap a b).get? (Rf s.heap a b).objs.size=some _:=aB _ rfl
 have g4:(N7 s.heap a b).get? (Re s.heap a b).objs.size=some _:=p (aB _ rfl)
 have g3:(N7 s.heap a b).get? (Rc s.heap a b).objs.size=some _:=p (p (aB _ rfl))
 have g2:(N7 s.heap a b).get? (Rb s.heap a).objs.size=some _:=p (p (p (aB _ rfl)))
 have g1:(N7 s.heap a b).get? s.heap.objs.size=some _:=p (p (p (p (aB _ rfl))))
 show _/\_
 rw[n2,n3,n4]at g5
 rw[n1,n2]at g3
 rw[n3]at g4
 rw[n1]at g2
 rw[n4]
 exact⟨⟨_,g5,rfl⟩,q _ g5 g3 g4 ⟨_,g1,rfl,rfl⟩ ⟨_,g2,rfl,rfl⟩ fun c o e=>p (p (p (p (p e))))⟩
end
def S6(K:Frag)(a b:Addr):It:=
  ⟨fun i H=>∃xs ys x y,gg K H a xs/\gg K H b ys/\xs[i]?=some x/\ys[i]?=some y,
   fun i H v H'=>∃p,H p=none/\v=.ref p/\∀xs ys x y,gg K H a xs->gg K H b ys->xs[i]?=some x->ys[i]?=some y->H'=gf H p (.tup [x,y]),
   fun i H=>∃xs ys,gg K H a xs/\gg K H b ys/\(xs.length<=i\/ys.length<=i)⟩
theorem Jo{P:Program}{w:World}{K:Frag}{vM:List Expr}{kk:Nat}{pos:Pos}{z T O i j a b:Addr}(D:ZipApart z T O i j a b) :
  AX P w K (.Tuple vM kk pos) (S6 K a b) [z,T,O,i,j] z (fun k h=>IsZip h z T O .none/\IsPair h T (.ref i) (.ref j)/\(∃u v,IsPair h O u v)/\h.IsTupleIter i a k/\h.IsTupleIter j b k) where
 mem:=by simp
 obj:=fun k h st c hc=>by
  obtain⟨h1,h2,⟨u,v,h3⟩,⟨o4,e4,_,d4⟩,⟨o5,e5,_,d5⟩⟩:=st
  have q:c=z\/c=T\/c=O\/c=i\/c=j:=by simpa using hc
  rcases q with rfl|rfl|rfl|rfl|rfl
  ·exact⟨_,h1,fun v q=>by cases q⟩
  ·exact⟨_,h2,fun v q=>by cases q⟩
  ·exact⟨_,h3,fun v q=>by cases q⟩
  ·exact⟨_,e4,fun v q=>by rw[d4]at q;cases q⟩
  ·exact⟨_,e5,fun v q=>by rw[d5]at q;cases q⟩
 keep:=fun k h h' st kp=>by
  obtain⟨h1,h2,⟨u,v,h3⟩,h4,h5⟩:=st
  exact⟨kp z (by simp) _ h1,kp T (by simp) _ h2,⟨u,v,kp O (by simp) _ h3⟩,h4.at fun o e=>kp i (by simp) o e,h5.at fun o e=>kp j (by simp) o e⟩
 item:=by
  intro X hP hw hK hc k al s σ H E I hf st hg
  subst hP hw hK
  obtain⟨xs,ys,x,y,hq,hr,hx,hy⟩:=hg
  obtain⟨bF,rv,p1,_⟩:=I.tuple hq
  obtain⟨jts,sZ,p2,_⟩:=I.tuple hr
  obtain⟨u,hu,ru⟩:=rv.get hx
  obtain⟨v,hv,rv'⟩:=sZ.get hy
  obtain⟨h1,h2,⟨c1,c2,h3⟩,h4,h5⟩:=st
  refine Jl D h1 h2 h3 h4 h5 (show s.heap.IsTuple a bF.toArray from p1) (show s.heap.IsTuple b jts.toArray from p2) (x:=u) (y:=v) (by simpa using hu) (by simpa using hv) fun g a1 a2 a3 a4 a5 kp=>⟨_,rfl,?_⟩
  refine wpAny_letOwnedTupleGo_zip a1 fun g2 b1 s2=>?_
  have Cu:H s.heap.objs.size=none:=I.hok.fresh (az _)
  have I1:bU X al σ (gf H s.heap.objs.size (.tup [x,y])) { s with heap:=s.heap.push { cls:=.type "tuple",data:=.seq #[u,v] },toks:=s.toks }:=I.laid (fun c o q=>aq _ q) (az _)
   ⟨by show 2<=sizeLine;decide,[u,v],.cons ru (.cons rv' .nil),⟨_,aB _ rfl,rfl,_,rfl⟩⟩
  have lt:∀{c o},s.heap.get? c=some o->c≠s.heap.objs.size:=fun e=>a7 (aI e)
  have nf:∀c∈[z,T,O,i,j],c≠s.heap.objs.size:=fun c hb=>by
   have q:c=z\/c=T\/c=O\/c=i\/c=j:=by simpa using hb
   rcases q with rfl|rfl|rfl|rfl|rfl
   ·exact lt h1
   ·exact lt h2
   ·exact lt h3
   ·obtain⟨_,e,_⟩:=h4;exact lt e
   ·obtain⟨_,e,_⟩:=h5;exact lt e
  have fp:∀c∈[z,T,O,i,j],rX X al (gf H s.heap.objs.size (.tup [x,y])) c:=fun c hb=>by
   obtain⟨f0,f⟩:=hf c hb
   exact⟨by rw[cZ (nf c hb)];exact f0,f⟩
  have I2:bU X al σ (gf H s.heap.objs.size (.tup [x,y])) { s with heap:=g2,toks:=s.toks }:=bU.turnedL (s:={ s with heap:=s.heap.push { cls:=.type "tuple",data:=.seq #[u,v] },toks:=s.toks }) (ch:=[z,O,i,j]) (t':=s.toks) I1 (fun c o hb q=>?_) fun c hb=>fp c (by
   have q:c=z\/c=O\/c=i\/c=j:=by simpa using hb
   rcases q with rfl|rfl|rfl|rfl<;>simp)
  ·refine⟨.ref s.heap.objs.size,_,I2,rfl,⟨_,Cu,rfl,fun xs' Oa x' y' e1 e2 e3 e4=>?_⟩,⟨b1,s2.extBut _ _ D.TIz (kp _ _ D.TIz D.TITO D.TIi1 D.TIi2 h2),⟨_,_,s2.extBut _ _ D.TOz a2⟩,a3.extBut s2.extBut D.i1z,a4.extBut s2.extBut D.i2z⟩,fun c hb=>(fp c hb).1⟩
   have q1:=I.tuple_inj e1 hq
   have q2:=I.tuple_inj e2 hr
   subst q1 q2
   rw[hx]at e3;rw[hy]at e4;cases e3;cases e4;rfl
  ·have q':(s.heap.push { cls:=.type "tuple",data:=.seq #[u,v] }).get? c=some o:=q
   have hn:c≠z/\c≠O/\c≠i/\c≠j:=by simpa using hb
   refine s2.extBut c o hn.1 ?_
   by_cases hb':c=s.heap.objs.size
   ·subst hb'
    have e1:=aB s.heap (o:={ cls:=.type "tuple",data:=.seq #[u,v] }) rfl
    rw[e1]at q';cases q'
    exact a5
   ·rw[Heap.get?_push_ne _ _ _ hb']at q'
    exact kp c o hn.1 hn.2.1 hn.2.2.1 hn.2.2.2 q'
 done:=by
  intro X hP hw hK hc k al s σ H E I hf st hg
  subst hP hw hK
  obtain⟨xs,ys,hq,hr,he⟩:=hg
  obtain⟨bF,rv,p1,_⟩:=I.tuple hq
  obtain⟨jts,sZ,p2,_⟩:=I.tuple hr
  obtain⟨h1,h2,⟨c1,c2,h3⟩,h4,h5⟩:=st
  have l1:=rv.length
  have l2:=sZ.length
  refine Jm (I.ok.hd hc) D h1 h2 h3 h4 h5 (show s.heap.IsTuple a bF.toArray from p1) (show s.heap.IsTuple b jts.toArray from p2) (by
   rcases he with q|q
   ·exact .inl (by simp;omega)
   ·exact .inr (by simp;omega)) fun g kp=>⟨rfl,?_⟩
  exact I.turnedL (ch:=[z,O,i,j]) (t':=s.toks) (fun c o hb q=>by
   have hn:c≠z/\c≠O/\c≠i/\c≠j:=by simpa using hb
   exact kp c o hn.1 hn.2.1 hn.2.2.1 hn.2.2.2 q) fun c hb=>hf c (by
   have q:c=z\/c=O\/c=i\/c=j:=by simpa using hb
   rcases q with rfl|rfl|rfl|rfl<;>simp)
 self:=fun A k s Q E st h=>wpAny_pyIter_zip st.1 h
def Sd(K:Frag)(ta:TA):TI:=fun σ H R=>ta σ H fun vs H1=>∃a b,vs=[.ref a,.ref b]/\(∃xs,gg K H1 a xs)/\(∃ys,gg K H1 b ys)/\R (S6 K a b) H1
theorem Jp{X:Cx}{a b:Expr}{ta:TA}{p pos tp:Pos}{vM:List Expr}{kk:Nat}(hm:X.mg "zip"=none)(ha:QA X [a,b] ta)(hg:Gl X "zip":=by rfl)(hs:starEach [a,b] X.env=(false,eval a X.env)::starEach [b] X.env:=by rfl)
  (sY:(backTo pos (starEach [b] X.env)).any (·.1)=false:=by rfl):QI X (.Tuple vM kk tp) (.Call (.Name "zip" p) [a,b] [] pos) (Sd X.K ta):=⟨by
 intro al s σ H R I h
 refine Call_ (n6 I hg hm boot_zip (dF (jq (ha.h pos al s σ H _ I h) fun us s1 kt1 ⟨vs,H1,I1,r1,q1⟩=>?_) hs sY))
 obtain⟨t,t',e,⟨xs,hq⟩,⟨ys,hr⟩,q⟩:=q1
 subst e
 cases r1 with
 |cons x1 r1=>cases r1 with
  |cons x2 r1=>
   cases r1
   cases x1
   cases x2
   obtain⟨bF,rv,p1,_⟩:=I1.tuple hq
   obtain⟨jts,sZ,p2,_⟩:=I1.tuple hr
   have lt1:t<s1.heap.objs.size:=by obtain⟨_,e,_⟩:=(show s1.heap.IsTuple t bF.toArray from p1);exact aI e
   have lt2:t'<s1.heap.objs.size:=by obtain⟨_,e,_⟩:=(show s1.heap.IsTuple t' jts.toArray from p2);exact aI e
   refine Jn (show s1.heap.IsTuple t bF.toArray from p1) (show s1.heap.IsTuple t' jts.toArray from p2) fun g e1 e2 e3 e4 e5 kp=>?_
   refine wpAny_pyIter_zip e1 ?_
   refine⟨s1.heap.objs.size+4,[s1.heap.objs.size+4,s1.heap.objs.size+2,s1.heap.objs.size+3,s1.heap.objs.size,s1.heap.objs.size+1],_,_,H1,rfl,I1.kept (t':=s1.toks) kp,Jo (zipApart_new lt1 lt2),⟨e1,e2,⟨_,_,e3⟩,e4,e5⟩,fun c hb=>?_,q⟩
   have hc:s1.heap.objs.size<=c:=by
    have z:c=s1.heap.objs.size+4\/c=s1.heap.objs.size+2\/c=s1.heap.objs.size+3\/c=s1.heap.objs.size\/c=s1.heap.objs.size+1:=by simpa using hb
    rcases z with rfl|rfl|rfl|rfl|rfl<;>simp
   exact I1.fpOk hc (I1.hok.fresh hc)⟩
def qg:List W->List W->List W
 |x::xs,y::ys=>.tup [x,y]::qg xs ys
 |_,_=>[]
theorem u9:∀{xs ys:List W} {i:Nat} {w:W},(qg xs ys)[i]?=some w->∃x y,xs[i]?=some x/\ys[i]?=some y/\w=.tup [x,y]
 |x::xs,y::ys,0,w,h=>by simp[qg]at h;exact⟨x,y,rfl,rfl,h.symm⟩
 |x::xs,y::ys,i+1,w,h=>by simp[qg]at h;simpa using u9 h
 |[],_,i,w,h=>by simp[qg]at h
 |_::_,[],i,w,h=>by simp[qg]at h
theorem u_:∀(xs ys:List W),(qg xs ys).length=min xs.length ys.length
 |x::xs,y::ys=>by simp[qg,u_ xs ys]
 |[],_=>by simp[qg]
 |_::_,[]=>by simp[qg]
section
variable{X:Cx}{a b:Expr}{fs:FA}{p pos:Pos}
def xQ(fs:FA):FI:=fun ρ st=>(fs ρ st).bind fun ws st=>match ws with
 |[.tup xs,.tup ys]=>.ok (qg xs ys,none) st
 |_=>.bad
theorem Jq{vM:List Expr}{kk:Nat}{tp:Pos}(hm:X.mg "zip"=none)(ha:SA X [a,b] fs)(hg:Gl X "zip":=by rfl)(hs:starEach [a,b] X.env=(false,eval a X.env)::starEach [b] X.env:=by rfl)(pE:(backTo pos (starEach [b] X.env)).any (·.1)=false:=by rfl) :
  SI X (.Tuple vM kk tp) (.Call (.Name "zip" p) [a,b] [] pos) (xQ fs):=⟨(Jp hm ⟨ha.h⟩ hg hs pE).h.imp fun σ H R h=>by
 obtain⟨μ,ρ,st,l,h⟩:=h
 refine⟨μ,ρ,st,l,RK.bind h l fun μ1 st1 x v H1 p1 x1 l1 q1 h1=>?_⟩
 split at h1
 ·rename_i zs ws
  obtain⟨y,ys,rfl,ry,r1⟩:=q1.consE
  obtain⟨w,rfl,sZ⟩:=r1.one
  obtain⟨t,vs,rfl,hS,r⟩:=ry.tupE
  obtain⟨t',Cw,rfl,hS',r'⟩:=sZ.tupE
  refine⟨t,t',rfl,⟨vs,hS⟩,⟨Cw,hS'⟩,h1 μ1 _ H1 (am _) fj.refl l1.sto fun i μ' bh H' pp xx S _=>⟨fun w hw=>?_,fun hl=>⟨vs,Cw,xx _ _ hS,xx _ _ hS',by rw[u_]at hl;rw[<- r.len,<- r'.len];omega⟩⟩⟩
  obtain⟨x,y,hx,hy,rfl⟩:=u9 hw
  have m1:=r.mono pp xx
  have m2:=r'.mono pp xx
  obtain⟨v1,g1,g2⟩:=m1.get hx
  obtain⟨v2,g3,g4⟩:=m2.get hy
  refine⟨⟨vs,Cw,v1,v2,xx _ _ hS,xx _ _ hS',g1,g3⟩,fun z H'' hz=>?_⟩
  obtain⟨q,hq,rfl,hH⟩:=hz
  have e:=hH vs Cw v1 v2 (xx _ _ hS) (xx _ _ hS') g1 g3
  subst e
  have ex:=gg.same (K:=X.K) (du hq (.tup [v1,v2]))
  exact⟨ex,S.same (du hq _),.tupI gg.new (.consI (g2.mono (am _) ex) (.consI (g4.mono (am _) ex) .nilI))⟩
 ·exact h1.elim⟩
end
open Builtin.Str (tooLong)
section
variable{prog:Program}{w:World}{A:Around}{E:Value->Shared->Prop}{s:Shared}
end
section
variable{X:Cx}
end
section
variable{X:Cx}
end
end L2
namespace L2
variable{nk:Nat}
open PySem PySem.Spec PyProof.Rows
section
variable{X:Cx}
end
end L2
namespace L2
variable{nk:Nat}
open PySem PySem.Spec PyProof.Rows
end L2
namespace L2
variable{nk:Nat}
open PySem PySem.Spec PyProof.Rows
abbrev Pt:=List W×List (Nat×List W)
abbrev Tt:=cI->List ao->R Pt
section
variable{X:Cx}{qr tg dQ:Expr}{mM:List Expr}{scope:Scope}{pos:Pos}{nm:List Str}{cap:List (Option Nat)}{fi:Tt}{f:FG}{t:FT}{el:FE}{m:Nat}
end
section
variable{X:Cx}{a b:Expr}{fs:FA}{p pos:Pos}
end
end L2
namespace L2
open PySem PySem.Spec PyProof.Rows
section
variable{X:Cx}
def wS(ws:List W)(st:List ao):R W:=match ws with
 |[.str [c]]=>if 48<=c/\c<=51 then .ok (.int (c-48:Nat)) st else .bad
 |_=>DY ws st
theorem BE:oh X (.type "int") wS:=⟨fun al s σ H vs us Q I rv ⟨μ,st,ws,S,r,q⟩=>by
 unfold wS at q
 split at q
 ·rename_i c
  split at q
  ·rename_i hc
   obtain⟨y,rfl,ry⟩:=r.one
   have:=ry.strE;subst this
   obtain⟨k,rfl⟩:∃k,c=48+k:=⟨c-48,by omega⟩
   refine Me.h al s σ H _ us Q I rv ⟨k,rfl,by omega,?_⟩
   rw[show 48+k-48=k by omega]at q
   exact q μ _ H (am _) fj.refl S .int
  ·exact q.elim
 ·exact J8.h al s σ H _ us Q I rv ⟨μ,st,_,S,r,q⟩,fun ws st=>by
 unfold wS
 split
 ·split<;>trivial
 ·exact(J8 (X:=X)).n _ _⟩
end
end L2
namespace L2
variable{nk:Nat}
open PySem PySem.Spec PyProof.Rows
section
variable{X:Cx}{qr tg dQ:Expr}{scope:Scope}{pos:Pos}{nm:List Str}{wi:TI}{g:TG}{te:Cx->TE}
end
section
variable{X:Cx}{qr tg dQ:Expr}{scope:Scope}{pos:Pos}{nm:List Str}{fi:FI}{f:FG}{el:FE}
end
end L2
namespace L2
variable{nk:Nat}
open PySem PySem.Spec PyProof.Rows
abbrev dV(gk:List (DK×W))(vs:List V):List (uy×V):=(gk.map fun p=>p.1.key).zip vs
section
variable{K:Frag}{μ:List Addr}{H:Hp}
end
section
variable{X:Cx}{a b c d e o i:Expr}{es:List Expr}{pos p p2 ie f9 d_:Pos}{x name:Str}{fa fb fc fe fo fi:FE}{fs:FA}{kk:Nat}
end
end L2
namespace L2
open PySem PySem.Spec PyProof.Rows
section
variable{X:Cx}{x y:Str}{a b:Expr}{fs:FA}{pos:Pos}
end
inductive DefIn(K:Frag)(x:Str)(st:Stmt):Prop
 |mk {ad:Addr} {od an:Option Addr} {sl:Array (Option Value)} {oc kV dc pm cd ct:Value} (a:nsIn K mainGlobals x=some (some (.ref ad)))
   (l:K.lookup ad=some ⟨oc,od,.func (fnOf x x (hW st) (gp st) (aP st) .none kV dc pm an cd ct),sl⟩) (c:codeIn K cd x=true) (k:keepIn K (.ref ad)=true):DefIn K x st
theorem DefIn.fn{K:Frag}{x:Str}{st:Stmt}{h:Heap}{mg:Str->Option Value}(d:DefIn K x st)(X:K.In h)(G:h.Ns mainGlobals mg):∃f fd,iw K x x st f fd/\mg x=some (.ref f):=by
 obtain⟨a,l,c,k⟩:=d
 exact⟨_,_,xC (st:=st) l c k,mg_of X G a⟩
theorem Pu{n:Nat}{l:List Value}(h:l.length=n+1):∃a t,l=a::t/\t.length=n:=by
 cases l with
 |nil=>cases h
 |cons a t=>exact⟨a,t,rfl,Nat.succ.inj h⟩
theorem Rg{l:List Value}(h:l.length=1):∃a,l=[a]:=gy.mp h
theorem Rh{l:List Value}(h:l.length=2):∃a b,l=[a,b]:=by obtain⟨a,t,rfl,k⟩:=Pu h;obtain⟨b,rfl⟩:=Rg k;exact⟨a,b,rfl⟩
theorem Ri{l:List Value}(h:l.length=3):∃a b c,l=[a,b,c]:=by obtain⟨a,t,rfl,k⟩:=Pu h;obtain⟨b,c,rfl⟩:=Rh k;exact⟨a,b,c,rfl⟩
theorem Rj{l:List Value}(h:l.length=4):∃a b c d,l=[a,b,c,d]:=by obtain⟨a,t,rfl,k⟩:=Pu h;obtain⟨b,c,d,rfl⟩:=Ri k;exact⟨a,b,c,d,rfl⟩
theorem Rk{l:List Value}(h:l.length=5):∃a b c d e,l=[a,b,c,d,e]:=by obtain⟨a,t,rfl,k⟩:=Pu h;obtain⟨b,c,d,e,rfl⟩:=Rj k;exact⟨a,b,c,d,e,rfl⟩
theorem Se{l:List Value}(h:l.length=6):∃a b c d e f,l=[a,b,c,d,e,f]:=by obtain⟨a,t,rfl,k⟩:=Pu h;obtain⟨b,c,d,e,f,rfl⟩:=Rk k;exact⟨a,b,c,d,e,f,rfl⟩
section
variable{P:Program}{w:World}{K:Frag}{mg:Str->Option Value}{base:Heap}{k n:Nat}{x:Str}{st:Stmt}{f:Addr}{fd:FuncData}{ps:List Str}{G:List W->List ao->R W}
theorem cL(F:iw K x x st f fd)(hm:mg x=some (.ref f))(ok:cV P w K mg base (hV P w) k f fd ps (iy K mg n G))(hn:ps.length=n:=by rfl)
  (hb:∀(kV rS pm:Value) (an:Option Addr) (e_ ct:Value) (us:List Value),us.length=ps.length->bindArgs (fnOf x x (hW st) (gp st) (aP st) .none kV rS pm an e_ ct) ⟨us,[]⟩=pure (ps.zip us):=by(intro _ _ _ _ _ _ _ q;first|(obtain⟨_,rfl⟩:=Rg q;rfl)|(obtain⟨_,_,rfl⟩:=Rh q;rfl)|(obtain⟨_,_,_,rfl⟩:=Ri q;rfl)|(obtain⟨_,_,_,_,rfl⟩:=Rj q;rfl)|(obtain⟨_,_,_,_,_,rfl⟩:=Rk q;rfl)|(obtain⟨_,_,_,_,_,_,rfl⟩:=Se q;rfl))):bV P w K mg base k x n G:=xL F hm hn hb ok
end
section
variable{X:Cx}{e:Expr}{pos:Pos}{x:Str}{fe:FE}{ps:List Str}{sp scope:Scope}
theorem jz{N:List Str}(a:sp.kind=.function:=by rfl)(b:sp.isCoroutine=false:=by rfl)(c:sp.isGenerator=false:=by rfl)(d:N.Nodup:=by decide +kernel)(f:N.take ps.length=ps:=by rfl)(g:∀x∈ps,sp.names.lookup x=some .local\/sp.names.lookup x=some .cell:=by decide +kernel)(h:∀y∈sp.names,y.2≠.free:=by decide +kernel):a_ N ps sp:=⟨a,b,c,d,f,g,h⟩
theorem sS(i:Nat){ie:Pos}(sc:a_ X.N ps sp)(he:SE X e fe)(hi:X.N[i]?=some x:=by rfl)(hx:Ic X.env.scope x:=by first|exact .inl rfl|exact .inr rfl)(hs:swapsWith e (some (.Name x ie)) pos.line X.env=pure false:=by rfl)(hf:X.fn x=true\/X.env.scope.names.lookup x=some .local:=by first|exact .inl rfl|exact .inr rfl|assumption) :
  SS X (.Assign [.Name x ie] e pos) (be i fe):=Mr sc.nd hi hx he hs hf
theorem sG(i:Nat)(sc:a_ X.N ps sp)(hi:X.N[i]?=some x:=by rfl)(hx:Ic X.env.scope x:=by first|exact .inl rfl|exact .inr rfl)(hf:X.fn x=true\/X.env.scope.names.lookup x=some .local:=by first|exact .inl rfl|exact .inr rfl|assumption):SG X (.Name x pos) (jy i):=CW sc.nd hi hx hf
theorem sC{nm:List Str}{cl:List (Str×Addr)}{C s0 H0 fp}(i:Nat)(hN:nm.Nodup:=by decide +kernel)(hi:nm[i]?=some x:=by rfl)(hx:Ic (dI X nm scope cl C s0 H0 fp).env.scope x:=by first|exact .inl rfl|exact .inr rfl)(hf:(dI X nm scope cl C s0 H0 fp).fn x=true\/(dI X nm scope cl C s0 H0 fp).env.scope.names.lookup x=some .local:=by first|exact .inl rfl|exact .inr rfl|assumption) :
  SG (dI X nm scope cl C s0 H0 fp) (.Name x pos) (jy i):=CW (X:=dI X nm scope cl C s0 H0 fp) hN hi hx hf
end
section
variable{X:Cx}{qr tg dQ:Expr}{mM:List Expr}{scope:Scope}{pos:Pos}{cap:List (Option Nat)}{fi:FI}{f:FG}{t:FT}{el:FE}{m:Nat}
end
section
variable{X:Cx}
end
section
variable{X:Cx}{kk:Nat}
end
section
variable{X:Cx}{o e f:Expr}{fo fk fd fe:FE}{f9 d_:Pos}{kk:Nat}
end
section
variable{X:Cx}{a:Expr}{fa:FE}{pos:Pos}
end
section
variable{X:Cx}
end
section
variable{prog:Program}{w:World}{A:Around}{E:Value->Shared->Prop}{s:Shared}
variable{K:Type}[DecidableEq K]{TQ:KeyKind prog w K}
end
section
variable{X:Cx}
end
variable{X:Cx}
end L2
namespace L2
variable{nk:Nat}
open PySem PySem.Spec PyProof.Rows
structure Mz(K:Frag)(mg:Str->Option Value)(c:Str)(fs:List Str):Prop where
 ex:∃C,mg c=some (.ref C)/\Cls K C/\∀f∈fs,p6 K C f
def ny(st:List ao):W->Option (Nat×Str×List (Str×W))
 |.loc n=>(match st[n]? with
  |some (.obj c fs)=>some (n,c,fs)
  |_=>none)
 |_=>none
def v0(f:Str)(v:W):List (Str×W)->List (Str×W)
 |[]=>[(f,v)]
 |(g,x)::r=>if g=f then(g,v)::r else(g,x)::v0 f v r
abbrev fV(fs:List (Str×W))(vs:List V):List (Str×V):=(fs.map fun p=>p.1).zip vs
section
variable{K:Frag}{mg:Str->Option Value}{μ:List Addr}{H:Hp}{st:List ao}
theorem qM(S:jw K mg μ st H){x:W}{v:V}{n:Nat}{c:Str}{fs:List (Str×W)}(h:ny st x=some (n,c,fs))(r:bH K μ H x v) :
  x=.loc n/\st[n]?=some (.obj c fs)/\∃a C dx vs,μ[n]?=some a/\v=.ref a/\mg c=some (.ref C)/\H a=some (.ins C dx (fV fs vs))/\RelWs K μ H (fs.map fun p=>p.2) vs:=by
 cases x with
 |loc m=>
  simp only[ny]at h
  cases e:st[m]? with
  |none=>rw[e]at h;cases h
  |some cc=>
   rw[e]at h
   cases cc with
   |obj c' z=>
    cases h
    obtain⟨a,g,C,dx,vs,m1,k,rr⟩:=S.get e
    obtain⟨b,f,rfl⟩:=r.locE
    rw[g]at f;cases f
    exact⟨rfl,e,a,C,dx,vs,g,rfl,m1,k,rr⟩
   |_=>cases h
 |_=>cases h
theorem xR(f:Str):∀{fs:List (Str×W)} {vs:List V},RelWs K μ H (fs.map fun p=>p.2) vs->(∀w,fs.lookup f=some w->∃v,(fV fs vs).lookup f=some v/\bH K μ H w v)/\(fs.lookup f=none->(fV fs vs).lookup f=none)
 |[],vs,r=>⟨fun w h=>(by cases h),fun _=>rfl⟩
 |(g,x)::fs,vs,r=>by
  obtain⟨y,ys,rfl,a,b⟩:=RelWs.consE r
  have ih:=xR f (fs:=fs) b
  have e1:List.lookup f ((g,x)::fs)=(match f==g with|true=>some x|false=>fs.lookup f):=rfl
  have e2:List.lookup f (fV ((g,x)::fs) (y::ys))=(match f==g with|true=>some y|false=>(fV fs ys).lookup f):=rfl
  rw[e1,e2]
  cases f==g with
  |true=>exact⟨fun w h=>(by cases h;exact⟨y,rfl,a⟩),fun h=>(by cases h)⟩
  |false=>exact ih
theorem FD(f:Str){w:W}{v:V}(sZ:bH K μ H w v):∀{fs:List (Str×W)} {vs:List V},RelWs K μ H (fs.map fun p=>p.2) vs->∃us,nR f v (fV fs vs)=fV (v0 f w fs) us/\RelWs K μ H ((v0 f w fs).map fun p=>p.2) us
 |[],vs,r=>⟨[v],rfl,.consI sZ .nilI⟩
 |(g,x)::fs,vs,r=>by
  obtain⟨y,ys,rfl,a,b⟩:=RelWs.consE r
  obtain⟨us,e,q⟩:=FD f sZ (fs:=fs) b
  show ∃us,(if g=f then(g,v)::fV fs ys else(g,y)::nR f v (fV fs ys))=_/\_
  by_cases h:g=f
  ·refine⟨v::ys,?_,?_⟩
   ·rw[aJ h];show _=fV (if g=f then(g,w)::fs else(g,x)::v0 f w fs) _;rw[aJ h];rfl
   ·show RelWs K μ H ((if g=f then(g,w)::fs else(g,x)::v0 f w fs).map fun p=>p.2) _
    rw[aJ h];exact .consI sZ b
  ·refine⟨y::us,?_,?_⟩
   ·rw[aV h];show _=fV (if g=f then(g,w)::fs else(g,x)::v0 f w fs) _;rw[aV h,e];rfl
   ·show RelWs K μ H ((if g=f then(g,w)::fs else(g,x)::v0 f w fs).map fun p=>p.2) _
    rw[aV h];exact .consI a q
theorem gg.butI{l C dx:Addr}{xs:List (Str×V)}{H':Hp}(e:R0 l H H')(hl:H l=some (.ins C dx xs)):fj K H H':=by
 have Dj:∀{p:Addr} {o:HO},H p=some o->(∀c d zs,o≠.ins c d zs)->p≠l:=fun{p o} q hn z=>by subst z;rw[hl]at q;cases q;exact hn _ _ _ rfl
 refine⟨fun p ys h=>?_,fun b o u h=>e _ _ (Dj h (fun _ _ _ z=>by cases z)) h⟩
 rcases h with(h|⟨o,h⟩)|h
 ·exact .inl (.inl (e _ _ (Dj h (fun _ _ _ z=>by cases z)) h))
 ·exact .inl (.inr ⟨o,e _ _ (Dj h (fun _ _ _ z=>by cases z)) h⟩)
 ·exact .inr h
theorem jw.setI(S:jw K mg μ st H){n:Nat}{a C dx:Addr}{c:Str}{fs QZ:List (Str×W)}{xs:List (Str×V)}{us:List V}(hn:st[n]?=some (.obj c fs))(hm:μ[n]?=some a)(hc:mg c=some (.ref C))(ha:H a=some (.ins C dx xs))(hr:RelWs K μ H (QZ.map fun p=>p.2) us) :
  jw K mg μ (st.set n (.obj c QZ)) (gf H a (.ins C dx (fV QZ us))):=
 S.setG hn rfl hm ha (fun _ _ z=>by cases z) (fun _ z=>by cases z) (gg.butI lq ha) rfl ⟨C,dx,us,hc,iA,hr.mono (am _) (gg.butI lq ha)⟩
end
section
variable{X:Cx}{a e o value:Expr}{es:List Expr}{pos ie p f9:Pos}{c f m:Str}{fl:List Str}{fa fe fo:FE}{fs:FA}{kk:Nat}
def im(c f:Str)(fa:FE):FE:=fun ρ st=>(fa ρ st).bind fun x st=>match ny st x with
 |some (_,c',fs)=>if c'=c then sk (fs.lookup f) fun w=>.ok w st else .bad
 |none=>.bad
theorem fZ(hC:Mz X.K X.mg c fl)(ha:SE X a fa)(hf:f∈fl:=by decide)(hb:attributeBase a f X.env (eval a X.env)=eval a X.env:=by rfl):SE X (.Attribute a f pos) (im c f fa):=⟨(LW ha.h hb).imp fun σ H Q h=>by
 obtain⟨μ,ρ,st,l,h⟩:=h
 refine⟨μ,ρ,st,l,RK.bind h l fun μ1 st1 x v H1 p1 x1 l1 q1 h1=>?_⟩
 cases e0:ny st1 x with
 |none=>rw[e0]at h1;exact h1.elim
 |some nk=>
  obtain⟨n,c',fs⟩:=nk
  rw[e0]at h1
  simp only at h1
  obtain⟨rfl,hn,a,C,dx,vs,hm,rfl,hc,hI,rr⟩:=qM l1.sto e0 q1
  by_cases z:c'=c
  ·rw[aJ z]at h1
   subst z
   obtain⟨C',hc',cl,na⟩:=hC.ex
   rw[hc]at hc';cases hc'
   unfold sk at h1
   split at h1
   ·rename_i w ew
    obtain⟨v,ev,rv⟩:=(xR f rr).1 w ew
    exact⟨a,C,dx,_,v,rfl,hI,cl,na f hf,ev,h1 μ1 v H1 (am _) fj.refl l1.sto rv⟩
   ·exact h1.elim
  ·rw[aV z]at h1;exact h1.elim⟩
def oo(c f:Str)(fo fe:FE):FS:=fun ρ st=>(fe ρ st).stmt ρ fun y st=>(fo ρ st).stmt ρ fun x st=>match ny st x with
 |some (n,c',fs)=>if c'=c/\fs.length<900 then .nx ρ (st.set n (.obj c (v0 f y fs)))else .bad
 |none=>.bad
theorem jZ(hC:Mz X.K X.mg c fl)(ho:SE X o fo)(he:SE X value fe)(hf:f∈fl:=by decide)(hs:swapsWith value (some (.Attribute o f ie)) pos.line X.env=pure false:=by rfl):SS X (.Assign [.Attribute o f ie] value pos) (oo c f fo fe):=⟨(LX ho.h he.h hs).imp fun D σ H h=>by
 obtain⟨μ,ρ,st,l,h⟩:=h
 refine⟨μ,ρ,st,l,RK.stmt h l fun μ1 st1 y yv H1 p1 x1 l1 q1 h1=>⟨μ1,ρ,st1,l1,RK.stmt h1 l1 fun μ2 cX x xv H2 p2 x2 l2 q2 h2=>?_⟩⟩
 cases e0:ny cX x with
 |none=>rw[e0]at h2;exact h2.elim
 |some nk=>
  obtain⟨n,c',fs⟩:=nk
  rw[e0]at h2
  simp only at h2
  obtain⟨rfl,hn,a,C,dx,vs,hm,rfl,hc,hI,rr⟩:=qM l2.sto e0 q2
  by_cases z:c'=c/\fs.length<900
  ·rw[aJ z]at h2
   obtain⟨z,hz⟩:=z
   subst z
   obtain⟨C',hc',cl,na⟩:=hC.ex
   rw[hc]at hc';cases hc'
   obtain⟨us,e1,r1⟩:=FD f (q1.mono p2 x2) rr
   have fT:(fV fs vs).length<1000:=by
    unfold fV
    rw[List.length_zip,aE]
    omega
   refine⟨a,C,dx,_,rfl,hI,cl,na f hf,fT,?_⟩
   rw[e1]
   exact h2 μ2 σ _ (am _) (gg.butI lq hI) (l2.to (am _) (gg.butI lq hI) (l2.sto.setI hn hm hc hI r1))
  ·rw[aV z]at h2;exact h2.elim⟩
structure g_(P:Program)(w:World)(K:Frag)(mg:Str->Option Value)(base:Heap)(k:Nat)(c m:Str)(n:Nat)(F:List W->List ao->R W):Prop where
 ex:∃(C g:Addr) (fd:FuncData) (ps:List Str),mg c=some (.ref C)/\Cls K C/\OB K C m g/\ps.length=n/\pF K fd ps []/\cV P w K mg base (hV P w) k g fd ps (iy K mg n F)
theorem g_.mono{P:Program}{w:World}{K:Frag}{mg:Str->Option Value}{base:Heap}{j k:Nat}{c m:Str}{n:Nat}{F:List W->List ao->R W}(h:g_ P w K mg base j c m n F)(hj:j<=k):g_ P w K mg base k c m n F:=by
 obtain⟨C,g,fd,ps,a,b,b2,c,d,e⟩:=h.ex
 exact⟨C,g,fd,ps,a,b,b2,c,d,e.mono hj⟩
def iF(c m:Str)(n:Nat)(F:List W->List ao->R W)(fo:FE)(fs:FA):FE:=fun ρ st=>(fo ρ st).bind fun x st=>match ny st x with
 |some (_,c',fl)=>if c'=c/\fl.lookup m=none then(fs ρ st).bind fun ws st=>if ws.length+1=n then F (x::ws) st else .bad else .bad
 |none=>.bad
theorem j3{k k' n:Nat}{pl:Sem Bool}{F:List W->List ao->R W}(Fn:g_ X.prog X.w X.K X.mg X.base k c m n F)(hr:i' k' X.A)(hk:k<=k')(ho:SE X o fo)(ha:SA X (e::es) fs)
  (rJ:starEach (e::es) X.env=(false,eval e X.env)::starEach es X.env:=by rfl) (pE:(backTo pos (starEach es X.env)).any (·.1)=false:=by rfl)
  (ht:eval (.Call (.Attribute o m f9) (e::es) [] pos) X.env=(do
   let ov <- eval o X.env
   standAt f9.atName
   let (f,fst') <- holding [ov] (getMethod ov m pl)
   callWith pos f fst' (backTo pos (starEach (e::es) X.env)) (backToKw pos (keywordEach [] X.env))):=by rfl):SE X (.Call (.Attribute o m f9) (e::es) [] pos) (iF c m n F fo fs):=⟨by
 intro al s σ H Q I h
 obtain⟨C,g,fd,ps,hc,cl,hm,hn,hb,Fo⟩:=(Fn.mono hk).ex
 obtain⟨μ,ρ,st,l,h⟩:=h
 have h':tE X fo σ H fun x H1=>∃(a dx:Addr) (xs:List (Str×V)),x=.ref a/\H1 a=some (.ins C dx xs)/\xs.lookup m=none/\O6 X fs σ H1 fun vs H2=>∃μ2 cX ws,Rl X μ2 ρ cX σ H2/\RelWs X.K μ2 H2 ws (.ref a::vs)/\ws.length=n/\RK X (r_ X) μ2 σ H2 Q (F ws cX):=by
  refine⟨μ,ρ,st,l,RK.bind h l fun μ1 st1 x v H1 p1 x1 l1 q1 h1=>?_⟩
  cases e0:ny st1 x with
  |none=>rw[e0]at h1;exact h1.elim
  |some nk=>
   obtain⟨i,c',fl⟩:=nk
   rw[e0]at h1
   simp only at h1
   obtain⟨rfl,hi,a,C',dx,vs,hma,rfl,hc',hI,rr⟩:=qM l1.sto e0 q1
   by_cases z:c'=c/\fl.lookup m=none
   ·rw[aJ z]at h1
    obtain⟨z,hz⟩:=z
    subst z
    rw[hc]at hc';cases hc'
    refine⟨a,dx,_,rfl,hI,(xR m rr).2 hz,μ1,ρ,st1,l1,RK.bind h1 l1 fun μ2 cX ws vs2 H2 p2 x2 l2 q2 h2=>?_⟩
    by_cases y:ws.length+1=n
    ·rw[aJ y]at h2
     exact⟨μ2,cX,.loc i::ws,l2,.consI (q1.mono p2 x2) q2,y,h2⟩
    ·rw[aV y]at h2;exact h2.elim
   ·rw[aV z]at h1;exact h1.elim
 refine PySem.W.methodCall_KW (pl:=pl) (jq (ho.h al s σ H _ I h') fun u s1 kt1 ⟨x,H1,I1,rx,a,dx,xs,ex,ea,lk,q⟩=>?_) ht
 subst ex
 obtain rfl:u=Value.ref a:=rx
 refine uz I1 ea cl hm lk ?_
 refine PySem.W.callWith_K (first:=[.ref a]) (h₀:=X.base) I.ok.mod.kin hm.kp (jq (ha.h pos al s1 σ H1 _ I1 q) fun us s2 kt2 ⟨vs,H2,I2,r,μ2,cX,ws,l2,r2,y,q2⟩=>⟨I2.kIn,?_⟩) rJ pE
 exact Fy (us:=.ref a::us) (vs:=.ref a::vs) Fo hn hr hb I2 l2.sto r2 (.cons rfl r) y q2⟩
theorem qN{k k':Nat}{pl:Sem Bool}{F:List W->List ao->R W}(Fn:g_ X.prog X.w X.K X.mg X.base k c m 1 F)(hr:i' k' X.A)(hk:k<=k')(ho:SE X o fo)
  (ht:eval (.Call (.Attribute o m f9) [] [] pos) X.env=(do
   let ov <- eval o X.env
   standAt f9.atName
   let (f,fst') <- holding [ov] (getMethod ov m pl)
   callWith pos f fst' (backTo pos (starEach [] X.env)) (backToKw pos (keywordEach [] X.env))):=by rfl):SE X (.Call (.Attribute o m f9) [] [] pos) (iF c m 1 F fo aD):=⟨by
 intro al s σ H Q I h
 obtain⟨C,g,fd,ps,hc,cl,hm,hn,hb,Fo⟩:=(Fn.mono hk).ex
 obtain⟨μ,ρ,st,l,h⟩:=h
 have h':tE X fo σ H fun x H1=>∃(a dx:Addr) (xs:List (Str×V)),x=.ref a/\H1 a=some (.ins C dx xs)/\xs.lookup m=none/\∃μ2 cX ws,Rl X μ2 ρ cX σ H1/\RelWs X.K μ2 H1 ws [.ref a]/\ws.length=1/\RK X (r_ X) μ2 σ H1 Q (F ws cX):=by
  refine⟨μ,ρ,st,l,RK.bind h l fun μ1 st1 x v H1 p1 x1 l1 q1 h1=>?_⟩
  cases e0:ny st1 x with
  |none=>rw[e0]at h1;exact h1.elim
  |some nk=>
   obtain⟨i,c',fl⟩:=nk
   rw[e0]at h1
   simp only at h1
   obtain⟨rfl,hi,a,C',dx,vs,hma,rfl,hc',hI,rr⟩:=qM l1.sto e0 q1
   by_cases z:c'=c/\fl.lookup m=none
   ·rw[aJ z]at h1
    obtain⟨z,hz⟩:=z
    subst z
    rw[hc]at hc';cases hc'
    exact⟨a,dx,_,rfl,hI,(xR m rr).2 hz,μ1,st1,[.loc i],l1,.consI q1 .nilI,rfl,h1⟩
   ·rw[aV z]at h1;exact h1.elim
 refine PySem.W.methodCall_KW (pl:=pl) (jq (ho.h al s σ H _ I h') fun u s1 kt1 ⟨x,H1,I1,rx,a,dx,xs,ex,ea,lk,μ2,cX,ws,l2,r2,y,q2⟩=>?_) ht
 subst ex
 obtain rfl:u=Value.ref a:=rx
 refine uz I1 ea cl hm lk ?_
 exact PySem.W.callWith_K0 (first:=[.ref a]) I1.kIn hm.kp (Fy (us:=[.ref a]) (vs:=[.ref a]) Fo hn hr hb I1 l2.sto r2 (.cons rfl .nil) y q2)⟩
structure Jr(P:Program)(w:World)(K:Frag)(mg:Str->Option Value)(base:Heap)(k:Nat)(c:Str)(n:Nat)(F:List W->List ao->R W):Prop where
 ex:∃(C g:Addr) (fd:FuncData) (ps:List Str),mg c=some (.ref C)/\Mk K C g/\ps.length=n/\pF K fd ps []/\cV P w K mg base (hV P w) k g fd ps (iy K mg n F)
def C4(c:Str)(n:Nat)(F:List W->List ao->R W)(fs:FA):FE:=fun ρ st=>(fs ρ st).bind fun ws st=>if ws.length+1=n then(match F (.loc st.length::ws) (st++[.obj c []])with
  |.ok .non bh=>.ok (.loc st.length) bh
  |_=>.bad)else .bad
theorem MA{k k' n:Nat}{F:List W->List ao->R W}(Fn:Jr X.prog X.w X.K X.mg X.base k c n F)(hr:i' k' X.A)(hk:k+1<=k')(ha:SA X (e::es) fs)(hg:Gl X c:=by rfl)(HE:(c==("__debug__":Str))=false:=by decide)
  (he:starEach (e::es) X.env=(false,eval e X.env)::starEach es X.env:=by rfl) (pE:(backTo pos (starEach es X.env)).any (·.1)=false:=by rfl):SE X (.Call (.Name c p) (e::es) [] pos) (C4 c n F fs):=⟨by
 intro al s σ H Q I h
 obtain⟨C,g,fd,ps,hc,M,hn,hb,Fo⟩:=Fn.ex
 refine fz (ug I hg hc ?_ HE)
 obtain⟨μ,ρ,st,l,h⟩:=h
 have h':O6 X fs σ H fun vs H1=>∃μ1 st1 ws cX,Rl X μ1 ρ st1 σ H1/\RelWs X.K μ1 H1 ws vs/\ws.length+1=n/\F (.loc st1.length::ws) (st1++[.obj c []])=.ok .non cX/\RK X (r_ X) μ1 σ H1 Q (.ok (.loc st1.length) cX):=by
  refine⟨μ,ρ,st,l,RK.bind h l fun μ1 st1 x v H1 p1 x1 l1 q1 h1=>?_⟩
  by_cases y:x.length+1=n
  ·rw[aJ y]at h1
   split at h1
   ·rename_i cX e2
    exact⟨μ1,st1,x,cX,l1,q1,y,e2,h1⟩
   ·exact h1.elim
  ·rw[aV y]at h1;exact h1.elim
 refine PySem.W.callWith_K (h₀:=X.base) I.ok.mod.kin M.kp (jq (ha.h pos al s σ H _ I h') fun us s1 kt1 ⟨vs,H1,I1,r,μ1,st1,ws,cX,l1,r1,y,e2,q⟩=>⟨I1.kIn,?_⟩) he pE
 refine EU (dvs:=[]) (ds:=[]) (E:=fun _ _ _=>False) M Fo (hr.mono hk) hb .nil (fun al σ H s e s' I ht hq=>by obtain⟨_,_,_,_,_,_,z,_⟩:=hq;exact z.elim) I1 r fun x dx hx hdx Dj=>?_
 have hs1:uE H1 (gf H1 dx (.own x)):=du hdx _
 have hx1:(gf H1 dx (.own x)) x=none:=by rw[cZ (Ne.symm Dj)];exact hx
 have sY:uE (gf H1 dx (.own x)) (gf (gf H1 dx (.own x)) x (.ins C dx [])):=du hx1 _
 have xt:fj X.K H1 (gf (gf H1 dx (.own x)) x (.ins C dx [])):=(gg.same hs1).trans (gg.same sY)
 have S2:jw X.K X.mg (μ1++[x]) (st1++[.obj c []]) (gf (gf H1 dx (.own x)) x (.ins C dx [])):=(l1.sto.same hs1).push (c:=.obj c []) hx1 ⟨C,dx,[],hc,iA,.nilI⟩
 have hmx:(μ1++[x])[st1.length]?=some x:=by rw[l1.sto.len];simp
 refine⟨by rw[bf,bd,<- r1.len];exact y,μ1++[x],.loc st1.length::ws,st1++[.obj c []],S2,.consI (.locI hmx) (by rw[bf];exact r1.mono (a9 _ _) xt),?_⟩
 rw[e2]
 intro μ' v H' pp xx S' rv
 exact⟨rv.nonE,q μ' (.ref x) H' ((a9 _ _).trans pp) (xt.trans xx) S' (.locI (L2.pre_get pp hmx))⟩⟩
end
def hX:Stmt->List Stmt
 |.ClassDef _ _ _ b _ _ _ _ _ _ _=>b
 |_=>[]
inductive DefM(K:Frag)(C:Addr)(q m:Str)(st:Stmt):Prop
 |mk {ad:Addr} {od an:Option Addr} {sl:Array (Option Value)} {oc kV dc pm cd ct:Value} (a:findIn K (.ref C) m=some (some (.ref ad))) (i:isFn K (.ref ad)=true)
   (l:K.lookup ad=some ⟨oc,od,.func (fnOf m q (hW st) (gp st) (aP st) .none kV dc pm an cd ct),sl⟩) (c:codeIn K cd q=true) (k:keepIn K (.ref ad)=true):DefM K C q m st
section
variable{P:Program}{w:World}{K:Frag}{mg:Str->Option Value}{base:Heap}{k n:Nat}{c q m:Str}{st:Stmt}{C:Addr}{ps:List Str}{G:List W->List ao->R W}
theorem j4(d:DefM K C q m st)(hC:mg c=some (.ref C))(cl:Cls K C)(ok:∀{f:Addr} {fd:FuncData},iw K m q st f fd->cV P w K mg base (hV P w) k f fd ps (iy K mg n G))(hn:ps.length=n:=by rfl)
  (hb:∀(kV rS pm:Value) (an:Option Addr) (e_ ct:Value) (us:List Value),us.length=ps.length->bindArgs (fnOf m q (hW st) (gp st) (aP st) .none kV rS pm an e_ ct) ⟨us,[]⟩=pure (ps.zip us):=by(intro _ _ _ _ _ _ _ q;first|(obtain⟨_,rfl⟩:=Rg q;rfl)|(obtain⟨_,_,rfl⟩:=Rh q;rfl)|(obtain⟨_,_,_,rfl⟩:=Ri q;rfl)|(obtain⟨_,_,_,_,rfl⟩:=Rj q;rfl)|(obtain⟨_,_,_,_,_,rfl⟩:=Rk q;rfl)|(obtain⟨_,_,_,_,_,_,rfl⟩:=Se q;rfl))):g_ P w K mg base k c m n G:=by
 obtain⟨a,i,l,cc,kk⟩:=d
 exact⟨C,_,_,ps,hC,cl,⟨a,i,kk⟩,hn,pF.all fun us hl=>hb _ _ _ _ _ _ us hl,ok (xC (st:=st) l cc kk)⟩
theorem MB(d:DefM K C q "__init__" st)(hC:mg c=some (.ref C))(mk:makesIn K C=true)(kc:keepIn K (.ref C)=true)(ok:∀{f:Addr} {fd:FuncData},iw K "__init__" q st f fd->cV P w K mg base (hV P w) k f fd ps (iy K mg n G))(hn:ps.length=n:=by rfl)
  (hb:∀(kV rS pm:Value) (an:Option Addr) (e_ ct:Value) (us:List Value),us.length=ps.length->bindArgs (fnOf "__init__" q (hW st) (gp st) (aP st) .none kV rS pm an e_ ct) ⟨us,[]⟩=pure (ps.zip us):=by(intro _ _ _ _ _ _ _ q;first|(obtain⟨_,rfl⟩:=Rg q;rfl)|(obtain⟨_,_,rfl⟩:=Rh q;rfl)|(obtain⟨_,_,_,rfl⟩:=Ri q;rfl)|(obtain⟨_,_,_,_,rfl⟩:=Rj q;rfl)|(obtain⟨_,_,_,_,_,rfl⟩:=Rk q;rfl)|(obtain⟨_,_,_,_,_,_,rfl⟩:=Se q;rfl))):Jr P w K mg base k c n G:=by
 obtain⟨a,i,l,cc,kk⟩:=d
 exact⟨C,_,_,ps,hC,⟨mk,a,i,kc⟩,hn,pF.all fun us hl=>hb _ _ _ _ _ _ us hl,ok (xC (st:=st) l cc kk)⟩
end
end L2
namespace L2
open PySem PySem.Spec PyProof.Rows
theorem iH(st x:List ao)(k:Nat):(st++x)[st.length+k]?=x[k]?:=by rw[aW (by omega)];congr 1;omega
theorem dM(st x:List ao):(st++x)[st.length]?=x[0]?:=iH st x 0
theorem mv(st x:List ao)(k:Nat)(c:ao):(st++x).set (st.length+k) c=st++x.set k c:=by rw[nY _ _ (by omega)];congr 2;omega
theorem fE(st x:List ao)(c:ao):(st++x).set st.length c=st++x.set 0 c:=mv st x 0 c
theorem c6{st x:List ao}{n:Nat}{c:ao}(h:st[n]?=some c):(st++x)[n]?=some c:=by
 rw[aK (ar.mp h).1];exact h
theorem BF(st:List ao)(ws:List W):g9 st st ws=st:=by unfold g9;split<;>simp
theorem wT{st x:List ao}{ws:List W}(h:undWs st.length ws=true):g9 st (st++x) ws=st:=by
 unfold g9
 rw[aJ ⟨h,by simp,fun i hi=>.inl (aK hi)⟩]
 simp
theorem wU{st bh:List ao}{ws:List W}(h:undWs st.length ws=false):g9 st bh ws=bh:=by
 unfold g9
 rw[aV fun k=>by have:=k.1;rw[h]at this;cases this]
theorem jf{N:Nat}{body:FS}{ws:List W}{st bh:List ao}{w:W}(h:body (ws.map some++List.replicate (N-ws.length) none) st=.rt w bh):cY N body ws st=.ok w (g9 st bh [w]):=by
 unfold cY;rw[h]
theorem pd{N:Nat}{body:FS}{ws:List W}{st:List ao}{w:W}(h:body (ws.map some++List.replicate (N-ws.length) none) st=.rt w st):cY N body ws st=.ok w st:=by
 rw[jf h,BF]
theorem zC{N:Nat}{body:FS}{ws:List W}{st x:List ao}{w:W}(h:body (ws.map some++List.replicate (N-ws.length) none) st=.rt w (st++x))(hu:undWs st.length [w]=true):cY N body ws st=.ok w st:=by
 rw[jf h,wT hu]
theorem FF{N:Nat}{body:FS}{ws:List W}{st x:List ao}{k:Nat}(h:body (ws.map some++List.replicate (N-ws.length) none) st=.rt (.loc (st.length+k)) (st++x)):cY N body ws st=.ok (.loc (st.length+k)) (st++x):=by
 rw[jf h,wU (by simp[undWs,W.und])]
theorem FH{g g':FS}{ρ ρ':cI}{st bh:List ao}(h:g ρ st=.nx ρ' bh):aN g g' ρ st=g' ρ' bh:=by unfold aN;rw[h]
theorem C5{fi:FI}{f:FG}{body:FS}{ρ:cI}{st bh:List ao}{k:Fv}(h:fi ρ st=.ok k bh):lh fi f body ρ st=qH f body k.2 k.1 ρ bh:=by unfold lh;rw[h];rfl
theorem zD{f:FG}{body:FS}{ck:Option (Nat×List W)}(I:Nat->cI->List ao->Prop):∀{ws:List W} {ρ:cI} {st:List ao} (i0:Nat),I i0 ρ st->(∀i ρ st,I i ρ st->ku st ck) ->
  (∀i w ρ st,ws[i]?=some w->I (i0+i) ρ st->∃ρ' ρ2 cX,f w ρ=some ρ'/\body ρ' st=.nx ρ2 cX/\I (i0+i+1) ρ2 cX) ->
  ∃ρ2 cX,qH f body ck ws ρ st=.nx ρ2 cX/\I (i0+ws.length) ρ2 cX
 |[],ρ,st,i0,h0,hc,hs=>⟨ρ,st,by unfold qH;rw[aJ (hc _ _ _ h0)],h0⟩
 |w::ws,ρ,st,i0,h0,hc,hs=>by
  obtain⟨ρ',ρ2,cX,e1,e2,h1⟩:=hs 0 w ρ st rfl h0
  obtain⟨ρ3,lM,e3,h3⟩:=zD I (ws:=ws) (ρ:=ρ2) (st:=cX) (i0+1) h1 hc fun i w ρ st hw hI=>by
   obtain⟨a,b,c,d,e,g⟩:=hs (i+1) w ρ st (by simpa using hw) (by rw[show i0+(i+1)=i0+1+i by omega];exact hI)
   exact⟨a,b,c,d,e,by rw[show i0+1+i+1=i0+(i+1)+1 by omega];exact g⟩
  refine⟨ρ3,lM,?_,by rw[bd,show i0+(ws.length+1)=i0+1+ws.length by omega];exact h3⟩
  unfold qH
  rw[aJ (hc _ _ _ h0),e1]
  simp only[e2]
  exact e3
theorem D1{t:FT}{g:FS}(I:Nat->cI->List ao->Prop):∀(n:Nat) {ρ:cI} {st:List ao},I n ρ st ->
  (∀n ρ st,I n ρ st->t ρ st=.ok false st\/(t ρ st=.ok true st/\∃ρ2 cX m,g ρ st=.nx ρ2 cX/\m<n/\I m ρ2 cX)) ->
  ∃m ρ2 cX,om t g ρ st=.nx ρ2 cX/\I m ρ2 cX/\t ρ2 cX=.ok false cX:=by
 intro n ρ st h hs
 have key:∀(k n:Nat) (ρ:cI) (st:List ao),n<k->I n ρ st->∃m ρ2 cX,d8 t g k ρ st=.nx ρ2 cX/\I m ρ2 cX/\t ρ2 cX=.ok false cX:=by
  intro k
  induction k with
  |zero=>intro n _ _ h;exact absurd h (km _)
  |succ k ih=>
   intro n ρ st hk hI
   rcases hs n ρ st hI with e|⟨e,ρ2,cX,m,e2,hm,h2⟩
   ·exact⟨n,ρ,st,by unfold d8;rw[e];rfl,hI,e⟩
   ·obtain⟨m',ρ3,lM,e3,h3⟩:=ih m ρ2 cX (by omega) h2
    exact⟨m',ρ3,lM,by unfold d8;rw[e];simp only[R.stmt_ok,fX,e2];exact e3,h3⟩
 obtain⟨m,ρ2,cX,e,h2⟩:=key (n+1) n ρ st (bZ n) h
 exact⟨m,ρ2,cX,wN e (by simp),h2⟩
section
variable{ρ ρ':cI}{st st1 cX lM Rv:List ao}{fa fb fe fo fi:FE}{fs:FA}{t u:FT}{x y z w v:W}{ws xs zs:List W}{i j n m:Nat}{a b k:Bool}{g g':FS}
theorem jP(h:ρ[i]?=some (some w)):ag i ρ st=.ok w st:=by unfold ag;rw[h]
theorem bR:eC w ρ st=.ok w st:=rfl
theorem bA{f:W->W->List ao->R W}(h1:fa ρ st=.ok x st1)(h2:fb ρ st1=.ok y cX)(h3:f x y cX=.ok z lM):e2 f fa fb ρ st=.ok z lM:=by unfold e2;rw[h1];simp only[R.bind_ok];rw[h2];exact h3
theorem aX:aD ρ st=.ok [] st:=rfl
theorem aw(h1:fa ρ st=.ok x st1)(h2:fs ρ st1=.ok xs cX):ai fa fs ρ st=.ok (x::xs) cX:=by unfold ai;rw[h1];simp only[R.bind_ok];rw[h2];rfl
theorem MC{ls:List (List Nat)}:O_ ls ρ st=.ok (ls.map W.str) st:=rfl
theorem fK(h1:fs ρ st=.ok ws st1)(h2:ws.length<=mL):gB fs ρ st=.ok (.tup ws) st1:=by unfold gB;rw[h1];simp only[R.bind_ok,pJ];rw[aJ h2]
theorem nz(h1:fs ρ st=.ok ws st1)(h2:ws.length<=mL):jX fs ρ st=.ok (.loc st1.length) (st1++[.lst ws]):=by unfold jX;rw[h1];simp only[R.bind_ok,pK];rw[aJ h2]
theorem cu{F:List W->List ao->R W}(h1:fs ρ st=.ok ws st1)(h2:F ws st1=.ok w cX):bE F fs ρ st=.ok w cX:=by unfold bE;rw[h1];exact h2
theorem cz{F:List W->List ao->R W}(h1:fs ρ st=.ok ws st1)(h2:F ws st1=.ok w cX)(hn:ws.length=n):cx n F fs ρ st=.ok w cX:=by unfold cx;rw[h1];simp only[R.bind_ok];rw[aJ hn];exact h2
theorem aZ(h:fa ρ st=.ok (.bl k) st1):ef fa ρ st=.ok k st1:=by unfold ef;rw[h];rfl
theorem qR(h1:t ρ st=.ok true st1)(h2:u ρ st1=.ok k cX):HW t u ρ st=.ok k cX:=by unfold HW;rw[h1];exact h2
theorem xS(h1:t ρ st=.ok false st1):HW t u ρ st=.ok false st1:=by unfold HW;rw[h1];rfl
theorem ph(h1:t ρ st=.ok false st1)(h2:u ρ st1=.ok k cX):Ew t u ρ st=.ok k cX:=by unfold Ew;rw[h1];exact h2
theorem C6(h1:t ρ st=.ok true st1):Ew t u ρ st=.ok true st1:=by unfold Ew;rw[h1];rfl
theorem va(h1:t ρ st=.ok a st1)(h2:(!a)=k):DR t ρ st=.ok k st1:=by unfold DR;rw[h1,<- h2];rfl
theorem ul(h1:fa ρ st=.ok (.bl true) st1)(h2:fb ρ st1=.ok w cX):Bs fa fb ρ st=.ok w cX:=by unfold Bs;rw[h1];exact h2
theorem Pv(h1:fa ρ st=.ok (.bl a) st1)(h2:(!a)=k):IY fa ρ st=.ok (.bl k) st1:=by unfold IY;rw[h1,<- h2];rfl
theorem qS(h1:t ρ st=.ok true st1)(h2:fa ρ st1=.ok w cX):Ex t fa fb ρ st=.ok w cX:=by unfold Ex;rw[h1];exact h2
theorem qT(h1:t ρ st=.ok false st1)(h2:fb ρ st1=.ok w cX):Ex t fa fb ρ st=.ok w cX:=by unfold Ex;rw[h1];exact h2
theorem hZ{F:W->List W->List ao->R W}(h1:fo ρ st=.ok x st1)(hl:kP st1 x=true)(h2:fs ρ st1=.ok ws cX)(h3:F x ws cX=.ok w lM):kQ F fo fs ρ st=.ok w lM:=by unfold kQ;rw[h1];simp only[R.bind_ok];rw[aJ hl,h2];exact h3
theorem Js{F:W->List W->List ao->R W}(h1:fo ρ st=.ok x st1)(hl:wO x=true)(h2:fs ρ st1=.ok ws cX)(h3:F x ws cX=.ok w lM):HX F fo fs ρ st=.ok w lM:=by unfold HX;rw[h1];simp only[R.bind_ok];rw[aJ hl,h2];exact h3
theorem df(h:st[n]?=some (.lst ws)):kP st (.loc n)=true:=by simp only[kP,h]
theorem zE{q:Int}(h:fa ρ st=.ok (.int q) st1):zy fa ρ st=.ok (.int (-q)) st1:=by unfold zy;rw[h];rfl
theorem Pw{T c:String}(h:fa ρ st=.ok x st1)(hx:x.ty=some c)(hk:Jf c T=k):u5 T fa ρ st=.ok (.bl k) st1:=by unfold u5;rw[h];simp only[R.bind_ok,hx,hk]
theorem zF(h:fa ρ st=.ok x st1)(hk:x.isNon=k):xK fa ρ st=.ok (.bl k) st1:=by unfold xK;rw[h,<- hk];rfl
theorem eT(h:fa ρ st=.ok x st1)(hk:(!x.isNon)=k):gA fa ρ st=.ok (.bl k) st1:=by unfold gA;rw[h,<- hk];rfl
theorem sA:gC ρ st=.ok none st:=rfl
theorem mw{q:Int}(h:fa ρ st=.ok (.int q) st1):eJ fa ρ st=.ok (some q) st1:=by unfold eJ;rw[h];rfl
theorem mx{fl fh:FO}{l h:Option Int}(h1:fa ρ st=.ok x st1)(h2:fl ρ st1=.ok l cX)(h3:fh ρ cX=.ok h lM)(h4:vO x l h lM=.ok w Rv):qA fa fl fh ρ st=.ok w Rv:=by unfold qA;rw[h1];simp only[R.bind_ok];rw[h2];simp only[R.bind_ok];rw[h3];exact h4
theorem bg(h:fe ρ st=.ok w st1):be i fe ρ st=.nx (ρ.set i (some w)) st1:=by unfold be;rw[h];rfl
theorem d9(h:fe ρ st=.ok w st1):c5 fe ρ st=.nx ρ st1:=by unfold c5;rw[h];rfl
theorem qU(h:fe ρ st=.ok w st1):cU fe ρ st=.rt w st1:=by unfold cU;rw[h];rfl
theorem C7{f:W->W->W->List ao->Option (List ao)}(h1:fe ρ st=.ok v st1)(h2:fo ρ st1=.ok x cX)(h3:fi ρ cX=.ok y lM)(h4:f x y v lM=some Rv):zu fo fi fe f ρ st=.nx ρ Rv:=by
 unfold zu;rw[h1];simp only[R.stmt_ok];rw[h2];simp only[R.stmt_ok];rw[h3];simp only[R.stmt_ok];rw[h4]
theorem cQ{r:RS}(h1:t ρ st=.ok true st1)(h2:g ρ st1=r):fN t g g' ρ st=r:=by unfold fN;rw[h1];exact h2
theorem cH{r:RS}(h1:t ρ st=.ok false st1)(h2:g' ρ st1=r):fN t g g' ρ st=r:=by unfold fN;rw[h1];exact h2
theorem eM:bT ρ st=.nx ρ st:=rfl
theorem cn{r:RS}(h:g ρ st=.nx ρ' st1)(h2:g' ρ' st1=r):aN g g' ρ st=r:=by rw[FH h];exact h2
theorem qh(h:g ρ st=.rt w st1):aN g g' ρ st=.rt w st1:=by unfold aN;rw[h]
theorem et{p q:Int}:cK (.int p) (.int q) st=.ok (.int (p+q)) st:=rfl
theorem BG{p q:List Nat}(h:p.length+q.length<=mL):cK (.str p) (.str q) st=.ok (.str (p++q)) st:=by simp only[cK];rw[aJ h]
theorem i9{C:Int->Int->Prop}[∀i j,Decidable (C i j)]{f:Int->Int->Int}{p q:Int}(h:C p q):DS C f (.int p) (.int q) st=.ok (.int (f p q)) st:=by simp only[DS];rw[aJ h]
theorem qi{p q:Int}(h:Ml p q):ij (.int p) (.int q) st=.ok (.int (p*q)) st:=by simp only[ij];rw[aJ h]
theorem lG{f:Int->Int->Bool}{p q:Int}(h:f p q=k):DT f (.int p) (.int q) st=.ok (.bl k) st:=by rw[<- h];rfl
theorem FJ{p q:Int}(h:decide (p<=q)=k):Sc (.int p) (.int q) st=.ok (.bl k) st:=by rw[<- h];rfl
theorem fm{p q:Int}(h:(p==q)=k):iE (.int p) (.int q) st=.ok (.bl k) st:=by rw[<- h];rfl
theorem Px{p q:Int}(h:(!(p==q))=k):J7 (.int p) (.int q) st=.ok (.bl k) st:=by rw[<- h];rfl
theorem dH{p q:List Nat}(h:(p==q)=k):iE (.str p) (.str q) st=.ok (.bl k) st:=by rw[<- h];rfl
theorem lH{q:Int}(h:r6 ws q=some w):bu (.tup ws) (.int q) st=.ok w st:=by unfold bu;simp only[h,eG]
theorem kv(h:ρ[i]?=some (some w):=by rfl):ag i ρ st=.ok w st:=jP h
theorem ox{q:Int}(h:r6 ws q=some w:=by rfl):bu (.tup ws) (.int q) st=.ok w st:=lH h
theorem kn(h:ρ[i]?=some (some w):=by rfl):ai (ag i) aD ρ st=.ok [w] st:=aw (jP h) aX
theorem kx{q:Int}(h:ρ[i]?=some (some (.tup ws)):=by rfl)(h2:r6 ws q=some w:=by rfl):e2 bu (ag i) (eC (.int q)) ρ st=.ok w st:=bA (jP h) bR (lH h2)
theorem FK{l:List Nat}{q:Int}{c:Nat}(hl:l.length<=mL)(h:r6 l q=some c):bu (.str l) (.int q) st=.ok (.str [c]) st:=by unfold bu;simp only[h,eG];rw[aJ hl]
theorem ky{q:Int}(hl:lstOf st n=some ws)(h:r6 ws q=some w):bu (.loc n) (.int q) st=.ok w st:=by unfold bu;simp only[hl,h,eG]
theorem BH:dG [.tup ws] st=.ok (.int ws.length) st:=rfl
theorem xU{l:List Nat}(h:l.length<=mL):dG [.str l] st=.ok (.int l.length) st:=by unfold dG;simp only;rw[aJ h]
theorem l6(hl:lstOf st n=some ws):dG [.loc n] st=.ok (.int ws.length) st:=by unfold dG;simp only[hl,eG]
theorem b_(h:st[n]?=some (.lst ws)):lstOf st n=some ws:=by unfold lstOf;rw[h]
theorem qV(h:st[n]?=some (.ro ws)):lstOf st n=some ws:=by unfold lstOf;rw[h]
theorem nC(h:st[n]?=some (.lst ws))(hl:ws.length<mL):bM (.loc n) [y] st=.ok .non (st.set n (.lst (ws++[y]))):=by unfold bM;simp only[h];rw[aJ hl]
theorem vb(h:st[n]?=some (.lst (ws++[y]))):ms (.loc n) [] st=.ok y (st.set n (.lst ws)):=by unfold ms;simp only[h];simp
theorem MD{q:Int}(h:st[n]?=some (.lst ws))(hi:CC ws.length q=some j):pM (.loc n) (.int q) v st=some (st.set n (.lst (ws.set j v))):=by unfold pM;simp only[h,hi];rfl
theorem BI{sep:List Nat}{ls:List (List Nat)}(h:lstOf st n=some (ls.map W.str))(hl:(ls.map List.length).sum+ls.length*sep.length<=mL):nv (.str sep) [.loc n] st=.ok (.str (kN sep ls)) st:=by
 unfold nv;simp only[h,eG,wP];rw[aJ hl]
theorem Py{l h:Option Int}(hl:lstOf st n=some ws):vO (.loc n) l h st=.ok (.loc st.length) (st++[.lst (jc ws l h)]):=by unfold vO;simp only[hl,eG]
theorem FL{l h:Option Int}{z:List Nat}(hl:z.length<=mL):vO (.str z) l h st=.ok (.str (jc z l h)) st:=by unfold vO;simp only;rw[aJ hl]
theorem zG{l h:Option Int}:vO (.tup ws) l h st=.ok (.tup (jc ws l h)) st:=rfl
theorem xV(h:fe ρ st=.ok (.tup ws) st1):gD fe ρ st=.ok (ws,none) st1:=by unfold gD;rw[h];rfl
theorem xW(h:fe ρ st=.ok (.loc n) st1)(hl:lstOf st1 n=some ws):gD fe ρ st=.ok (ws,some (n,ws)) st1:=by unfold gD;rw[h];simp only[R.bind_ok,hl]
theorem jg{q:Int}(h:fs ρ st=.ok [.int q] st1)(hq:-(2^62)<=q/\q<2^62):dC fs ρ st=.ok (gq 0 q.toNat,none) st1:=by unfold dC;rw[h];simp only[R.bind_ok];rw[aJ hq]
theorem xX{l:List W}{q:Nat}{x:W}(h:l.reverse[q]?=some x):r6 l (-((q:Int)+1))=some x:=by
 have hq:q<l.length:=by have:=(ar.mp h).1;simpa using this
 unfold r6 CC
 rw[aV (by omega),aJ (by omega)]
 rw[gP hq]at h
 simp only[Option.bind_some]
 rw[show((-((q:Int)+1))+(l.length:Int)).toNat=l.length-1-q by omega]
 exact h
theorem f6{α:Type}{l:List α}{q:Nat}{x:α}(h:l[q]?=some x):r6 l (q:Int)=some x:=by
 have hq:q<l.length:=(ar.mp h).1
 unfold r6 CC
 rw[aJ (by omega),aJ (by omega)]
 simpa using h
def kI(P:RS->Prop)(r:RS):Prop:=P r
def Jt(I:cI->List ao->Prop):RS->Prop:=fun r=>∃ρ st,r=.nx ρ st/\I ρ st
def zH(I:W->List ao->Prop):RS->Prop:=fun r=>∃w st,r=.rt w st/\I w st
variable{P:RS->Prop}{gn:FS}
theorem dg{r r':RS}(h:r=r')(h2:P r'):kI P r:=by rw[h];exact h2
theorem aC(h:g ρ st=.nx ρ' st1)(h2:kI P (g' ρ' st1)):kI P (aN g g' ρ st):=by rw[FH h];exact h2
theorem tJ(h1:t ρ st=.ok true st1)(h2:kI P (g ρ st1)):kI P (fN t g g' ρ st):=by rw[cQ h1 rfl];exact h2
theorem lI(h1:t ρ st=.ok false st1)(h2:kI P (g' ρ st1)):kI P (fN t g g' ρ st):=by rw[cH h1 rfl];exact h2
theorem eY(h1:t ρ st=.ok true st1)(h2:kI P (aN g gn ρ st1)):kI P (aN (fN t g g') gn ρ st):=by
 unfold aN at h2 ⊢;rw[cQ h1 rfl];exact h2
theorem bw(h1:t ρ st=.ok false st1)(h2:kI P (aN g' gn ρ st1)):kI P (aN (fN t g g') gn ρ st):=by
 unfold aN at h2 ⊢;rw[cH h1 rfl];exact h2
theorem sB{h:FS}(h2:kI P (aN g (aN g' h) ρ st)):kI P (aN (aN g g') h ρ st):=by
 unfold aN at h2 ⊢
 cases e:g ρ st<;>simp only[e]at h2 ⊢ <;> exact h2
theorem bJ(h2:kI P (gn ρ st)):kI P (aN bT gn ρ st):=h2
theorem bN(h:fe ρ st=.ok w st1)(h2:P (.rt w st1)):kI P (cU fe ρ st):=by rw[qU h];exact h2
theorem d6(h:fe ρ st=.ok w st1)(h2:P (.rt w st1)):kI P (aN (cU fe) gn ρ st):=by rw[qh (qU h)];exact h2
theorem fU{fi:FI}{f:FG}{body:FS}{k:Fv}(I:Nat->cI->List ao->Prop)(h:fi ρ st=.ok k st1)(h0:I 0 ρ st1)(hc:∀i ρ st,I i ρ st->ku st k.2)
  (hs:∀i w ρ st,k.1[i]?=some w->I i ρ st->∃ρ',f w ρ=some ρ'/\kI (Jt (I (i+1))) (body ρ' st)) (he:∀ρ st,I k.1.length ρ st->kI P (gn ρ st)):kI P (aN (lh fi f body) gn ρ st):=by
 obtain⟨ρ2,cX,e,h2⟩:=zD (f:=f) (body:=body) (ck:=k.2) I (ws:=k.1) (ρ:=ρ) (st:=st1) 0 h0 hc fun i w ρ st hw hI=>by
  rw[nq]at hI ⊢
  obtain⟨ρ',e1,ρ2,cX,e2,h2⟩:=hs i w ρ st hw hI
  exact⟨ρ',ρ2,cX,e1,e2,h2⟩
 rw[nq]at h2
 exact aC (by rw[C5 h];exact e) (he _ _ h2)
theorem D2{body:FS}(I:Nat->cI->List ao->Prop)(n:Nat)(h0:I n ρ st)
  (hs:∀n ρ st,I n ρ st->t ρ st=.ok false st\/(t ρ st=.ok true st/\kI (Jt fun ρ2 cX=>∃m,m<n/\I m ρ2 cX) (body ρ st))) (he:∀m ρ st,I m ρ st->t ρ st=.ok false st->kI P (gn ρ st)):kI P (aN (om t body) gn ρ st):=by
 obtain⟨m,ρ2,cX,e,h2,h3⟩:=D1 (t:=t) (g:=body) I n h0 fun n ρ st hI=>by
  rcases hs n ρ st hI with e|⟨e,ρ2,cX,e2,m,hm,h2⟩
  ·exact .inl e
  ·exact .inr ⟨e,ρ2,cX,m,e2,hm,h2⟩
 exact aC e (he _ _ _ h2 h3)
theorem qW{N:Nat}{body:FS}{Q:W->Prop}(h:kI (zH fun w bh=>(∃x,bh=st++x)/\undWs st.length [w]=true/\Q w) (body (ws.map some++List.replicate (N-ws.length) none) st)):∃w,Q w/\cY N body ws st=.ok w st:=by
 obtain⟨w,bh,e,⟨x,rfl⟩,hu,q⟩:=h
 exact⟨w,q,zC e hu⟩
theorem fq{N:Nat}{body:FS}(h:kI (zH fun w' bh=>w'=w/\∃x,bh=st++x) (body (ws.map some++List.replicate (N-ws.length) none) st))(hu:undWs st.length [w]=true):cY N body ws st=.ok w st:=by
 obtain⟨w,bh,e,rfl,x,rfl⟩:=h
 exact zC e hu
theorem um{N:Nat}{body:FS}{Q:Nat->List ao->Prop}(h:kI (zH fun w bh=>∃j x,w=.loc (st.length+j)/\bh=st++x/\Q j x) (body (ws.map some++List.replicate (N-ws.length) none) st)):∃j x,Q j x/\cY N body ws st=.ok (.loc (st.length+j)) (st++x):=by
 obtain⟨w,bh,e,j,x,rfl,rfl,q⟩:=h
 exact⟨j,x,q,FF e⟩
theorem jA{q i:Nat}{lo:Int}{w:W}(h:(gq lo q)[i]?=some w):i<q/\w=.int (lo+i):=by
 unfold gq at h
 obtain⟨h1,h2⟩:=ar.mp h
 simp only[aE,List.length_range]at h1
 exact⟨h1,by rw[<- h2];simp⟩
theorem mR{α:Type}{l:List α}{q:Nat}(h:q<=l.length):jc l none (some (q:Int))=l.take q:=by
 unfold jc;rw[HT.sIx_none,HT.sIx_nat,gH h];simp
theorem qX{α:Type}{l:List α}{q:Nat}(h:q<=l.length):jc l (some (q:Int)) none=l.drop q:=by
 unfold jc;rw[HT.sIx_none,HT.sIx_nat,gH h];rw[bz (by simp)]
theorem h_{q:Int}{n:Nat}(h:0<n):∃m:Nat,m<n/\q%(n:Int)=m:=by
 have h0:0<=q%(n:Int):=iM _ (by omega)
 have h1:q%(n:Int)<n:=k_ _ (by omega)
 exact⟨(q%(n:Int)).toNat,by omega,by omega⟩
end
section
variable{ρ:cI}{st st1:List ao}{t u:FT}{a b k:Bool}{P:RS->Prop}{g g' gn:FS}{w:W}{ws:List W}
theorem ME(h1:t ρ st=.ok a st)(h2:u ρ st=.ok b st):HW t u ρ st=.ok (a&&b) st:=by cases a;exact xS h1;exact qR h1 h2
theorem FM(h1:t ρ st=.ok a st)(h2:u ρ st=.ok b st):Ew t u ρ st=.ok (a||b) st:=by cases a;exact ph h1 h2;exact C6 h1
theorem MF(h1:t ρ st=.ok a st):DR t ρ st=.ok (!a) st:=va h1 rfl
theorem eK{N:Nat}{body:FS}(h:kI (zH fun w' bh=>w'=w/\bh=st) (body (ws.map some++List.replicate (N-ws.length) none) st)):cY N body ws st=.ok w st:=by
 obtain⟨w,bh,e,rfl,rfl⟩:=h
 exact pd e
end
end L2
open L2
local macro_rules | `(tactic| walk_at "ev1") => `(tactic| first
 | (with_reducible apply jP) <;> rfl
 | (with_reducible apply lH) <;> rfl
 | with_reducible first
  | exact bR | exact aX | exact MC | exact sA | exact et | exact BH | exact eM | exact zG
  | apply bA | apply aw | apply fK | apply nz | apply cu | apply cz | apply aZ | apply va | apply Pv
  | apply hZ | apply Js | apply zE | apply Pw | apply zF | apply eT | apply mw | apply mx | apply bg | apply d9 | apply qU | apply C7
  | apply i9 | apply qi | apply lG | apply FJ | apply fm | apply Px | apply dH | apply BG
 | decide
 | (show List.length _ <= mL; exact au rfl)
 | (show @Eq Nat _ _; exact rfl)
 | (show @Eq Bool _ _; exact rfl)
 | (show @Eq (Option String) _ _; exact rfl)
 | (show @Eq _ _ _; with_reducible assumption))
local macro_rules | `(tactic| walk_at "evs") => `(tactic| repeat' walk_at "ev1")
local macro_rules | `(tactic| walk_at "tst") => `(tactic| first
 | (walk_at "evs"; done)
 | (apply xS; (focus walk_at "tst"); done)
 | (apply qR; (focus walk_at "tst"); (focus walk_at "tst"); done)
 | (apply C6; (focus walk_at "tst"); done)
 | (apply ph; (focus walk_at "tst"); (focus walk_at "tst"); done))
local macro_rules | `(tactic| walk_at "go1") => `(tactic| first
 | apply bJ
 | (apply d6; (focus (walk_at "evs"; done)))
 | (apply bN; (focus (walk_at "evs"; done)))
 | (apply eY; (focus walk_at "tst"))
 | (apply bw; (focus walk_at "tst"))
 | (apply tJ; (focus walk_at "tst"))
 | (apply lI; (focus walk_at "tst"))
 | (apply aC; (focus (walk_at "evs"; done))))
local macro_rules | `(tactic| walk_at "go") => `(tactic| repeat walk_at "go1")
local macro_rules | `(tactic| walk_at "tb") => `(tactic| repeat' (first | with_reducible apply ME | with_reducible apply FM | with_reducible apply MF | walk_at "ev1"))
local macro_rules | `(tactic| walk_at "len") => `(tactic| (simp only [ah, bd, nN]; show _ <= 1000000; omega))
namespace L2
open PySem PySem.Spec PyProof.Rows
section
variable{ρ ρ' ρ2:cI}{st st1 cX:List ao}{fa fe:FE}{fs:FA}{g gh gn:FS}{ws:List W}{w:W}{n i:Nat}{c:Str}{cs:List Str}{P:RS->Prop}{b:Bool}
theorem zI{N:Nat}{body:FS}(h:kI (Jt fun _ bh=>∃x,bh=st++x) (body (ws.map some++List.replicate (N-ws.length) none) st)):cY N body ws st=.ok .non st:=by
 obtain⟨ρ,bh,e,x,rfl⟩:=h
 unfold cY
 rw[e]
 simp only[wT (st:=st) (x:=x) (ws:=[]) rfl]
theorem Pz{p q:Bool}(h:(p==q)=b):iE (.bl p) (.bl q) st=.ok (.bl b) st:=by rw[<- h];rfl
theorem uo(I:cI->List ao->Prop)(h:kI (Jt I) (g ρ st))(h2:∀ρ st,I ρ st->kI P (gn ρ st)):kI P (aN g gn ρ st):=by
 obtain⟨ρ',bh,e,hi⟩:=h
 exact aC e (h2 _ _ hi)
end
section
variable{ρ:cI}{st st1:List ao}{fi:FI}{f:FG}{t:FT}{el:FE}{cap:List (Option Nat)}
theorem zJ{ck:Option (Nat×List W)}{ρ0:cI}(hc:ku st ck)(T:W->Bool)(Y:W->W):∀(ws iI:List W),(∀w∈ws,∃ρ',f w ρ0=some ρ'/\t ρ' st=.ok (T w) st/\(T w=true->el ρ' st=.ok (Y w) st)) ->
  qI f t el ck ρ0 ws iI st=.ok (iI++(ws.filter T).map Y) st
 |[],iI,_=>by unfold qI;rw[aJ hc];simp
 |w::ws,iI,h=>by
  obtain⟨ρ',e1,e2,e3⟩:=h w (by simp)
  have ih:=fun iI=>zJ hc T Y ws iI fun w' hw'=>h w' (by simp[hw'])
  unfold qI
  rw[aJ hc,e1]
  simp only[e2]
  cases hT:T w with
  |true=>
   simp only[e3 hT]
   rw[ih]
   simp[List.filter_cons,hT]
  |false=>
   simp only
   rw[ih]
   simp[List.filter_cons,hT]
theorem BJ{ws:List W}{ck:Option (Nat×List W)}(T:W->Bool)(Y:W->W)(h:fi ρ st=.ok (ws,ck) st1)(hl:ws.length<=mL)(hc:ku st1 ck)
  (hs:∀w∈ws,∃ρ',f w (su cap ρ)=some ρ'/\t ρ' st1=.ok (T w) st1/\(T w=true->el ρ' st1=.ok (Y w) st1)):jO cap fi f t el ρ st=.ok (.loc st1.length) (st1++[.lst ((ws.filter T).map Y)]):=by
 unfold jO
 rw[h]
 simp only[R.bind_ok]
 rw[aJ hl,zJ hc T Y ws [] hs]
 simp only[R.bind_ok,d7,pK]
 rw[aJ]
 rw[aE]
 exact aM (ju _ _) hl
theorem C8{ws:List W}{ck:Option (Nat×List W)}(Y:W->W)(h:fi ρ st=.ok (ws,ck) st1)(hl:ws.length<=mL)(hc:ku st1 ck)
  (hs:∀w∈ws,∃ρ',f w (su cap ρ)=some ρ'/\el ρ' st1=.ok (Y w) st1):jO cap fi f vZ el ρ st=.ok (.loc st1.length) (st1++[.lst (ws.map Y)]):=by
 have:=BJ (fi:=fi) (f:=f) (t:=vZ) (el:=el) (cap:=cap) (fun _=>true) Y h hl hc fun w hw=>by
  obtain⟨ρ',e1,e2⟩:=hs w hw
  exact⟨ρ',e1,rfl,fun _=>e2⟩
 rw[kC.mpr (fun _ _=>rfl)]at this
 exact this
theorem wV{q:Nat}{lo:Int}{w:W}(h:w∈gq lo q):∃i:Nat,i<q/\w=.int (lo+i):=by
 unfold gq at h
 obtain⟨i,hi,rfl⟩:=cS.mp h
 exact⟨i,kU.mp hi,rfl⟩
theorem mS{n:Nat}{ws:List W}(h:lstOf st n=some ws):ik [.loc n] st=.ok (.tup ws) st:=by unfold ik;simp only[h,eG]
theorem FN{ws xs:List W}(h:(ws++xs).length<=mL):cK (.tup ws) (.tup xs) st=.ok (.tup (ws++xs)) st:=by simp only[cK,pJ];rw[aJ h]
theorem PB{p q:Int}:Bv [.int p,.int q] st=.ok (.int (if q>p then q else p)) st:=rfl
theorem FP{α:Type}{l:List α}{i j:Nat}(hj:j<=l.length)(hi:i<=j):jc l (some (i:Int)) (some (j:Int))=(l.drop i).take (j-i):=by
 unfold jc;rw[HT.sIx_nat,HT.sIx_nat,gH hj,gH (by omega)]
theorem FQ{α:Type}{l:List α}:jc l none (some (-1))=l.dropLast:=by
 unfold jc
 rw[HT.sIx_none]
 have:HT.sIx l.length l.length (some (-1))=l.length-1:=by
  show(if (-1:Int)<0 then(-1+(l.length:Int)).toNat else min (-1:Int).toNat l.length)=_
  rw[aJ (by omega)]
  omega
 rw[this,nZ];simp
end
open Builtin Builtin.Str
theorem wW{c:Nat}:∀ws:List (List Nat),(∀w∈ws,c∉w)->(kN [c] ws).filter (fun d=>d != c)=ws.flatten
 |[],_=>rfl
 |[x],h=>by
  have hx:c∉x:=h x (by simp)
  show x.filter _=_
  rw[kC.mpr fun d hd=>by simp;rintro rfl;exact hx hd]
  simp
 |x::y::r,h=>by
  have hx:c∉x:=h x (by simp)
  show(x++[c]++kN [c] (y::r)).filter _=_
  rw[List.filter_append,List.filter_append,wW (y::r) fun w hw=>h w (aR _ hw),kC.mpr fun d hd=>by simp;rintro rfl;exact hx hd]
  simp
theorem Ju(l:List Nat)(c:Nat):Txt.replace (tx l) (tx [c]) (tx [])=tx (l.filter fun d=>d != c):=by
 obtain⟨f,hg,hfree⟩:=StrLaws.occ_tight (tx l) (tx [c]) (by simp[tx,Str.length])
 obtain⟨f',hc⟩:=StrLaws.occ_chain (tx l) (tx [c]) ((tx l).length+1)
 have pf:=StrLaws.parts_free (tx l) c _ 0 f hg hfree
 have pj:=StrLaws.join_partsFrom (tx l) (tx [c]) _ 0 f' hc
 rw[StrLaws.sub_whole]at pj
 unfold Txt.replace
 rw[StrLaws.partsBetween_eq]
 have pe:(occurrences (tx l) (tx [c]) 0 (tx l).length ((tx l).length+1)).isEmpty=true->StrLaws.partsFrom (tx l) (tx [c]).length 0 (occurrences (tx l) (tx [c]) 0 (tx l).length ((tx l).length+1))=[tx l]:=fun h=>by
  rw[List.isEmpty_iff.mp h]
  show[strSub (tx l) 0 (tx l).length]=_
  rw[StrLaws.sub_whole]
 generalize occurrences (tx l) (tx [c]) 0 (tx l).length ((tx l).length+1)=os at pf pj pe ⊢
 have pf:∀p∈StrLaws.partsFrom (tx l) (tx [c]).length 0 os,c∉p.cps.toList:=pf
 generalize StrLaws.partsFrom (tx l) (tx [c]).length 0 os=ps at pf pj pe ⊢
 have em:ps=(ps.map fun z=>z.cps.toList).map tx:=by
  rw[b7]
  conv=>lhs;rw[<- i8 ps]
  exact eO fun z _=>(ON z).symm
 have fr:∀w∈ps.map (fun z=>z.cps.toList),c∉w:=fun w hw=>by
  obtain⟨p,hp,rfl⟩:=cS.mp hw
  exact pf p hp
 generalize ps.map (fun z=>z.cps.toList)=ws at em fr
 subst em
 have ej:∀sep:List Nat,Str.join (tx sep) (ws.map tx)=tx (kN sep ws):=fun sep=>by
  rw[<- CJ sep ws]
  show _=glued _ _
  rw[gO]
 rw[ej]at pj
 have el:kN [c] ws=l:=Bg.mp pj
 have hfl:=wW ws fr
 rw[el]at hfl
 split
 ·rename_i h
  rw[show((tx [c]).length==0&&(tx []).length==0)=false from rfl,me]at h
  have e1:=pe h
  have:ws.flatten=l:=by
   have e2:ws=[l]:=by
    cases ws with
    |nil=>cases e1
    |cons a r=>
     cases r with
     |nil=>simp only[bn,List.map_nil,List.cons.injEq,and_true]at e1;rw[Bg.mp e1]
     |cons _ _=>simp at e1
   rw[e2];simp
  rw[hfl,this]
 ·rw[gO,ej,mq,hfl]
section
variable{X:Cx}{o e:Expr}{to te:TE}{f9 d_ p2:Pos}{j:Nat}
def PD(to te:TE):TE:=fun σ H Q=>to σ H fun x H1=>(∃l,x=.str (tx l))/\te σ H1 fun y H2=>∃l c,x=.str (tx l)/\y=.str (tx [c])/\l.length<=1000000/\Q (.str (tx (l.filter fun d=>d != c))) H2
theorem Jv(ho:PE X o to)(he:PE X e te)
  (jS:attributeBase o "replace" X.env (eval o X.env)=eval o X.env)
  (qv:((backTo d_ (starEach [e,.Constant (.str (tx [])) j p2] X.env)).all (fun x=>!x.1)&&(backToKw d_ (keywordEach [] X.env)).all (fun x=>x.1.isSome)
   && decide ([e,.Constant (.str (tx [])) j p2].length+([]:List Keyword).length+(if ([]:List Keyword).isEmpty then 0 else 1)<30))=true)
  (jR:(f9.endLine==d_.line)=true) (hs:starEach [e,.Constant (.str (tx [])) j p2] X.env=(false,eval e X.env)::starEach [.Constant (.str (tx [])) j p2] X.env) :
  PE X (.Call (.Attribute o "replace" f9) [e,.Constant (.str (tx [])) j p2] [] d_) (PD to te):=by
 intro al s σ H Q I h
 refine ni jS qv jR rfl (jq (ho al s σ H _ I h) fun v s1 kt1 ⟨x,H1,I1,r1,ty,q1⟩=>?_)
 obtain⟨h1,h2⟩:=Bc I1 r1 (CK ty)
 refine⟨"str",_,F.plainAttrs_str,F.slot_str_replace,F.type_str_replace,h1,h2,?_⟩
 rw[hs]
 refine jm rfl (jV ?_)
 show wpAny _ _ (spliced ((false,eval e X.env)::backTo d_ (starEach [.Constant (.str (tx [])) j p2] X.env))) _ _ s1
 refine fx (jq (he al s1 σ H1 _ I1 q1) fun u s2 kt2 ⟨y,H2,I2,r2,l,c,ex,ey,hl,q2⟩=>?_)
 subst ex ey
 obtain⟨t,rfl⟩:=r1.up kt2
 obtain⟨t2,rfl⟩:=r2
 show wpAny _ _ (spliced ((false,eval (.Constant (.str (tx [])) j p2) X.env)::backTo d_ (starEach [] X.env))) _ _ s2
 refine fx (Calls.Constant_str ?_)
 show wpAny _ _ (spliced []) _ _ _
 refine gW ?_
 obtain⟨p1,p2⟩:=t2.2 rfl
 have n1:t2.1≠0:=dS p1
 have n2:s2.toks≠0:=dS I2.pos
 have n3:t2.1≠s2.toks:=a7 p2
 have e0:(tx []).length=0:=rfl
 have e1:(1000000:Nat)<=sizeLine:=by decide
 refine call_gives F.slot_str_replace (k6 _ _ _) F.entry_str_replace (F.args_str_replace_3 _ _ _)
  (gives_str_replace (tx l) (tx [c]) (tx []) t.1 t2.1 s2.toks fun _=>⟨by simp[n1,n2],by simp[n3],rfl,?_⟩) ?_
 ·rw[e0,Nat.mul_zero,rM,iN]
  unfold tooLong
  exact ba (by omega)
 ·have hq:=Ju l c
  unfold Txt.replace at hq
  cases hc:((occurrences (tx l) (tx [c]) 0 (tx l).length ((tx l).length+1)).isEmpty||((tx [c]).length==0&&(tx []).length==0))
  ·rw[hc]at hq
   simp only[fy,jU]at hq ⊢
   rw[hq]
   have I3:=I2.tok (s2.toks+1)
   refine⟨?_,⟨.str _,H2,I3.tok _,I3.tkS,q2⟩⟩
   rw[iN]
   exact aM (ju _ _) (aM hl e1)
  ·rw[hc]at hq
   simp only[fX]at hq ⊢
   rw[<- hq]at q2
   exact⟨.str (tx l),H2,I2.tok _,⟨t.up (bp _),rfl⟩,q2⟩
end
section
variable{X:Cx}{o e:Expr}{fo fe:FE}{f9 d_ p2:Pos}{j:Nat}
def FR:W->W->List ao->R W
 |.str l,.str [c],st=>if l.length<=mL then .ok (.str (l.filter fun d=>d != c)) st else .bad
 |_,_,_=>.bad
def C9(fo fe:FE):FE:=fun ρ st=>(fo ρ st).bind fun x st=>if wO x then(fe ρ st).bind fun y st=>FR x y st else .bad
theorem MG{z:Str}(ho:SE X o fo)(he:SE X e fe)(hz:z=tx []:=by first|rfl|decide +kernel)
  (jS:attributeBase o "replace" X.env (eval o X.env)=eval o X.env:=by rfl)
  (qv:((backTo d_ (starEach [e,.Constant (.str z) j p2] X.env)).all (fun x=>!x.1)&&(backToKw d_ (keywordEach [] X.env)).all (fun x=>x.1.isSome)
   && decide ([e,.Constant (.str z) j p2].length+([]:List Keyword).length+(if ([]:List Keyword).isEmpty then 0 else 1)<30))=true:=by rfl)
  (jR:(f9.endLine==d_.line)=true:=by rfl) (hs:starEach [e,.Constant (.str z) j p2] X.env=(false,eval e X.env)::starEach [.Constant (.str z) j p2] X.env:=by rfl) :
  SE X (.Call (.Attribute o "replace" f9) [e,.Constant (.str z) j p2] [] d_) (C9 fo fe):=⟨by
 subst hz
 refine(Jv ho.h he.h jS qv jR hs).imp fun σ H Q h=>?_
 obtain⟨μ,ρ,st,l,h⟩:=h
 refine⟨μ,ρ,st,l,RK.bind h l fun μ1 st1 x v H1 p1 x1 l1 q1 h1=>?_⟩
 cases x with
 |str z=>
  rw[aJ (show wO (W.str z)=true from rfl)]at h1
  refine⟨⟨z,q1.strE⟩,μ1,ρ,st1,l1,RK.bind h1 l1 fun μ2 cX y u H2 p2 x2 l2 q2 h2=>?_⟩
  unfold FR at h2
  split at h2
  ·rename_i l' c e1
   cases e1
   split at h2
   ·rename_i hl
    exact⟨_,c,q1.strE,q2.strE,hl,h2 μ2 _ H2 (am _) fj.refl l2.sto .str⟩
   ·exact h2.elim
  ·exact h2.elim
 |_=>exact h1.elim⟩
theorem MH{ρ:cI}{st st1 cX:List ao}{l:List Nat}{c:Nat}(h1:fo ρ st=.ok (.str l) st1)(h2:fe ρ st1=.ok (.str [c]) cX)(hl:l.length<=mL):C9 fo fe ρ st=.ok (.str (l.filter fun d=>d != c)) cX:=by
 unfold C9
 rw[h1]
 simp only[R.bind_ok]
 rw[aJ (show wO (W.str l)=true from rfl),h2]
 simp only[R.bind_ok]
 unfold FR
 simp only
 rw[aJ hl]
end
end L2
namespace P
open PySem L2
open PyProof.Rows (boot_sorted boot_set boot_ord boot_all boot_enumerate boot_int boot_str boot_bool boot_list boot_tuple boot_isinstance boot_max boot_min boot_zip)
def iz(i:Nat):Stmt:=PySem.Challenge.pw_trunksay_k65_kept_rooms.main.body.getD i (.Pass ⟨0,0,0,0⟩)
abbrev MI:Stmt:=iz 7
abbrev BK:List Str:=["letters"]
abbrev PF:List Str:=["letters"]
theorem PH:a_ BK PF (aP MI):=jz
abbrev MJ:Stmt:=iz 8
abbrev zK:List Str:=["names","marks","number","name"]
abbrev PJ:List Str:=["names","marks"]
theorem zL:a_ zK PJ (aP MJ):=jz
abbrev MK:Stmt:=iz 11
abbrev BL:List Str:=["place"]
abbrev PK:List Str:=["place"]
theorem PL:a_ BL PK (aP MK):=jz
abbrev ML:Stmt:=iz 12
abbrev zM:List Str:=["place"]
abbrev PM:List Str:=["place"]
theorem PN:a_ zM PM (aP ML):=jz
abbrev MM:Stmt:=iz 13
abbrev BM:List Str:=["tree","links","tops","number","place","right","left"]
abbrev PP:List Str:=["tree"]
theorem vc:a_ BM PP (aP MM):=jz
abbrev MN:Stmt:=iz 14
abbrev FU:List Str:=["tree","lefts","rights","number","pair"]
abbrev PQ:List Str:=["tree"]
theorem zN:a_ FU PQ (aP MN):=jz
abbrev MO:Stmt:=iz 15
abbrev D3:List Str:=["ups","place"]
abbrev PR:List Str:=["ups","place"]
theorem PU:a_ D3 PR (aP MO):=jz
abbrev MP:Stmt:=iz 16
abbrev BN:List Str:=["tree","sizes","left","right","size"]
abbrev PV:List Str:=["tree"]
theorem vd:a_ BN PV (aP MP):=jz
abbrev MQ:Stmt:=iz 17
abbrev v3:List Str:=["tree","place"]
abbrev PX:List Str:=["tree","place"]
theorem PY:a_ v3 PX (aP MQ):=jz
abbrev FV:Stmt:=iz 18
abbrev xY:List Str:=["size"]
abbrev Kd:List Str:=["size"]
theorem MR:a_ xY Kd (aP FV):=jz
abbrev FW:Stmt:=iz 19
abbrev D4:List Str:=["tree","place"]
abbrev Ke:List Str:=["tree","place"]
theorem MS:a_ D4 Ke (aP FW):=jz
abbrev FX:Stmt:=iz 20
abbrev v5:List Str:=["tree","place","below","right_size","middle"]
abbrev Kf:List Str:=["tree","place"]
theorem ve:a_ v5 Kf (aP FX):=jz
abbrev FY:Stmt:=iz 21
abbrev BO:List Str:=["left","right","marks","branches"]
abbrev Kg:List Str:=["left","right","marks"]
theorem xZ:a_ BO Kg (aP FY):=jz
abbrev FZ:Stmt:=iz 22
abbrev x5:List Str:=["tree","place","side","other","branches","left","right","start","changed"]
abbrev Kh:List Str:=["tree","place","side","other"]
theorem sD:a_ x5 Kh (aP FZ):=jz
abbrev F0:Stmt:=iz 24
abbrev x6:List Str:=["rooms","number"]
abbrev Ki:List Str:=["rooms","number"]
theorem MU:a_ x6 Ki (aP F0):=jz
abbrev F1:Stmt:=iz 25
abbrev D5:List Str:=["machine","marks","pair","rooms","leads"]
abbrev Kj:List Str:=["machine","marks","pair","rooms"]
theorem F2:a_ D5 Kj (aP F1):=jz
abbrev F3:Stmt:=iz 26
abbrev BP:List Str:=["machine","tree","rooms","place","pair"]
abbrev Kk:List Str:=["machine","tree"]
theorem x8:a_ BP Kk (aP F3):=jz
abbrev F4:Stmt:=iz 28
abbrev F5:List Str:=["deed"]
abbrev Kl:List Str:=["deed"]
theorem MV:a_ F5 Kl (aP F4):=jz
abbrev F6:Stmt:=iz 29
abbrev x9:List Str:=["tree","place","marks"]
abbrev Km:List Str:=["tree","place","marks"]
theorem MW:a_ x9 Km (aP F6):=jz
abbrev F7:Stmt:=iz 30
abbrev vf:List Str:=["machine","rooms","deed","old","new","start","middle","fresh"]
abbrev Kn:List Str:=["machine","rooms","deed"]
theorem qj:a_ vf Kn (aP F7):=jz
abbrev F8:Stmt:=iz 31
abbrev D6:List Str:=["machine","tree","rooms","place","links","ups","fresh","many","at","room"]
abbrev Ko:List Str:=["machine","tree","rooms","place"]
theorem mT:a_ D6 Ko (aP F8):=jz
abbrev j6:Stmt:=(hX (iz 32)).getD 0 (.Pass ⟨0,0,0,0⟩)
abbrev tX:List Str:=["self","machine","tree"]
abbrev nD:List Str:=["self","machine","tree"]
theorem sE:a_ tX nD (aP j6):=jz
abbrev jB:Stmt:=(hX (iz 32)).getD 1 (.Pass ⟨0,0,0,0⟩)
abbrev sF:List Str:=["self","deed","moved","above"]
abbrev my:List Str:=["self","deed"]
theorem gQ:a_ sF my (aP jB):=jz
abbrev kR:Stmt:=(hX (iz 32)).getD 2 (.Pass ⟨0,0,0,0⟩)
abbrev vg:List Str:=["self","deed"]
abbrev oq:List Str:=["self","deed"]
theorem tY:a_ vg oq (aP kR):=jz
abbrev jC:Stmt:=(hX (iz 32)).getD 3 (.Pass ⟨0,0,0,0⟩)
abbrev sH:List Str:=["self","place","marks"]
abbrev mz:List Str:=["self","place","marks"]
theorem qY:a_ sH mz (aP jC):=jz
abbrev qk:Stmt:=(hX (iz 32)).getD 4 (.Pass ⟨0,0,0,0⟩)
abbrev BQ:List Str:=["self","place","letter"]
abbrev vh:List Str:=["self","place","letter"]
theorem zO:a_ BQ vh (aP qk):=jz
abbrev ou:Stmt:=(hX (iz 32)).getD 5 (.Pass ⟨0,0,0,0⟩)
abbrev zP:List Str:=["self","place","letter"]
abbrev tK:List Str:=["self","place","letter"]
theorem x_:a_ zP tK (aP ou):=jz
abbrev l7:Stmt:=(hX (iz 32)).getD 6 (.Pass ⟨0,0,0,0⟩)
abbrev v6:List Str:=["self","place","side","tree","changed"]
abbrev pO:List Str:=["self","place","side","tree"]
theorem oy:a_ v6 pO (aP l7):=jz
abbrev mU:Stmt:=(hX (iz 32)).getD 7 (.Pass ⟨0,0,0,0⟩)
abbrev ya:List Str:=["self","tree"]
abbrev qZ:List Str:=["self","tree"]
theorem v7:a_ ya qZ (aP mU):=jz
abbrev oz:Stmt:=(hX (iz 32)).getD 8 (.Pass ⟨0,0,0,0⟩)
abbrev zQ:List Str:=["self","deed"]
abbrev tL:List Str:=["self"]
theorem q5:a_ zQ tL (aP oz):=jz
abbrev mV:Stmt:=(hX (iz 32)).getD 9 (.Pass ⟨0,0,0,0⟩)
abbrev yb:List Str:=["self","deed"]
abbrev q9:List Str:=["self"]
theorem pR:a_ yb q9 (aP mV):=jz
abbrev j7:Stmt:=(hX (iz 32)).getD 10 (.Pass ⟨0,0,0,0⟩)
abbrev tZ:List Str:=["self"]
abbrev nE:List Str:=["self"]
theorem sI:a_ tZ nE (aP j7):=jz
abbrev jD:Stmt:=(hX (iz 32)).getD 11 (.Pass ⟨0,0,0,0⟩)
abbrev sJ:List Str:=["self"]
abbrev mB:List Str:=["self"]
theorem q_:a_ sJ mB (aP jD):=jz
abbrev j8:Stmt:=(hX (iz 32)).getD 12 (.Pass ⟨0,0,0,0⟩)
abbrev t0:List Str:=["self"]
abbrev nF:List Str:=["self"]
theorem sK:a_ t0 nF (aP j8):=jz
abbrev F9:Stmt:=iz 34
abbrev zR:List Str:=["_law_script","_law_k"]
abbrev Kp:List Str:=["_law_script","_law_k"]
theorem MX:a_ zR Kp (aP F9):=jz
abbrev F_:Stmt:=iz 35
abbrev yc:List Str:=["_law_cell_here","_law_k","_law_salt","_law_first"]
abbrev Kq:List Str:=["_law_cell_here","_law_k","_law_salt"]
theorem F':a_ yc Kq (aP F_):=jz
abbrev Ga:Stmt:=iz 36
abbrev yd:List Str:=["_law_cell_here","_law_many","_law_salt","_law_found","_law_rest","_law_k"]
abbrev Kr:List Str:=["_law_cell_here","_law_many","_law_salt"]
theorem sL:a_ yd Kr (aP Ga):=jz
abbrev Gb:Stmt:=iz 37
abbrev zS:List Str:=["_law_found","_law_due","_law_k"]
abbrev Gd:List Str:=["_law_found","_law_due"]
theorem Ge:a_ zS Gd (aP Gb):=jz
abbrev Gf:Stmt:=iz 38
abbrev zT:List Str:=["_law_cell_here","_law_many","_law_salt","_law_rest","_law_found","_law_d","_law_at"]
abbrev Ks:List Str:=["_law_cell_here","_law_many","_law_salt"]
theorem ql:a_ zT Ks (aP Gf):=jz
abbrev Gh:Stmt:=iz 39
abbrev yf:List Str:=["_law_pool_here","_law_number"]
abbrev Kt:List Str:=["_law_pool_here","_law_number"]
theorem MY:a_ yf Kt (aP Gh):=jz
abbrev Gi:Stmt:=iz 40
abbrev zU:List Str:=["_law_draws_here","_law_pool_here","_law_found","_law_high","_law_d","_law_branches"]
abbrev Ku:List Str:=["_law_draws_here","_law_pool_here"]
theorem oE:a_ zU Ku (aP Gi):=jz
abbrev Gj:Stmt:=iz 41
abbrev yg:List Str:=["_law_tree_here","_law_heap","_law_found","_law_k","_law_left","_law_right"]
abbrev Kv:List Str:=["_law_tree_here"]
theorem oF:a_ yg Kv (aP Gj):=jz
abbrev Gk:Stmt:=iz 42
abbrev vi:List Str:=["_law_names","_law_many","_law_top","_law_draws_here","_law_good","_law_table","_law_at","_law_letter_here","_law_rows","_law_l"]
abbrev Kw:List Str:=["_law_names","_law_many","_law_top","_law_draws_here"]
theorem oG:a_ vi Kw (aP Gk):=jz
abbrev Gm:Stmt:=iz 43
abbrev v8:List Str:=["_law_names","_law_marks_here","_law_found","_law_name"]
abbrev Kx:List Str:=["_law_names","_law_marks_here"]
theorem yh:a_ v8 Kx (aP Gm):=jz
abbrev Gn:Stmt:=iz 44
abbrev BR:List Str:=["_law_machine_here","_law_tree_here","_law_heap","_law_found","_law_branches","_law_marks_here","_law_left","_law_right"]
abbrev Ky:List Str:=["_law_machine_here","_law_tree_here"]
theorem mW:a_ BR Ky (aP Gn):=jz
abbrev Gp:Stmt:=iz 45
abbrev zV:List Str:=["_law_machine_here","_law_tree_here"]
abbrev Kz:List Str:=["_law_machine_here","_law_tree_here"]
theorem MZ:a_ zV Kz (aP Gp):=jz
abbrev Gq:Stmt:=iz 46
abbrev yi:List Str:=["_law_links_here","_law_found","_law_left","_law_right","_law_many"]
abbrev KA:List Str:=["_law_links_here"]
theorem qm:a_ yi KA (aP Gq):=jz
abbrev Gs:Stmt:=iz 47
abbrev v9:List Str:=["_law_tree_here","_law_place","_law_links_here","_law_sizes_here","_law_middle","_law_first"]
abbrev KB:List Str:=["_law_tree_here","_law_place"]
theorem qo:a_ v9 KB (aP Gs):=jz
abbrev Gu:Stmt:=iz 48
abbrev t5:List Str:=["_law_tree_here","_law_place","_law_side","_law_other","_law_first","_law_middle","_law_left","_law_right","_law_top"]
abbrev KC:List Str:=["_law_tree_here","_law_place","_law_side","_law_other"]
theorem oH:a_ t5 KC (aP Gu):=jz
abbrev Gv:Stmt:=iz 49
abbrev yj:List Str:=["_law_script","_law_sizes_here","_law_pool_here","_law_many","_law_names","_law_entries","_law_machine_here","_law_high"]
abbrev KD:List Str:=["_law_script"]
theorem l8:a_ yj KD (aP Gv):=jz
abbrev Gw:Stmt:=iz 50
abbrev vj:List Str:=["_law_script","_law_k","_law_most","_law_tree_here","_law_pool_here","_law_draws_here","_law_other","_law_kind","_law_place"]
abbrev KF:List Str:=["_law_script","_law_k","_law_most","_law_tree_here","_law_pool_here"]
theorem vk:a_ vj KF (aP Gw):=jz
abbrev Gx:Stmt:=iz 51
abbrev vm:List Str:=["_law_tree_here","_law_deed","_law_branches","_law_marks_here"]
abbrev KG:List Str:=["_law_tree_here","_law_deed"]
theorem yk:a_ vm KG (aP Gx):=jz
abbrev Gy:Stmt:=iz 52
abbrev yl:List Str:=["_law_kept","_law_deed"]
abbrev KH:List Str:=["_law_kept","_law_deed"]
theorem M0:a_ yl KH (aP Gy):=jz
abbrev Gz:Stmt:=iz 53
abbrev v_:List Str:=["_law_kept","_law_machine_here","_law_tree_here","_law_turn","_law_k","_law_asked"]
abbrev KI:List Str:=["_law_kept","_law_machine_here","_law_tree_here","_law_turn"]
theorem BS:a_ v_ KI (aP Gz):=jz
abbrev rd:Stmt:=iz 54
abbrev PZ:List Str:=["_law_script","_law_machine_here","_law_tree_here","_law_pool_here","_law_kept","_law_turn","_law_past","_law_later","_law_k","_law_deed","_law_other"]
abbrev GA:List Str:=["_law_script"]
theorem iP:a_ PZ GA (aP rd):=jz
structure Bl(mg:Str->Option Value):Prop where
 bool:mg "bool"=Option.none
 enumerate:mg "enumerate"=Option.none
 int:mg "int"=Option.none
 isinstance:mg "isinstance"=Option.none
 len:mg "len"=Option.none
 list:mg "list"=Option.none
 max:mg "max"=Option.none
 min:mg "min"=Option.none
 range:mg "range"=Option.none
 set:mg "set"=Option.none
 sorted:mg "sorted"=Option.none
 str:mg "str"=Option.none
 tuple:mg "tuple"=Option.none
 zip:mg "zip"=Option.none
def l9:W:=.int 100
structure Gc(K:Frag)(mg:Str->Option Value):Prop where
 MOST_PLACES:∃u v,mg "MOST_PLACES"=some u/\c_ 0 v u/\∀μ H,bH K μ H l9 v
structure Cls(K:Frag)(mg:Str->Option Value):Prop where
 NoPlace:Ji K mg "NoPlace"
 TooGreat:Ji K mg "TooGreat"
 NothingDone:Ji K mg "NothingDone"
structure Ow(K:Frag)(mg:Str->Option Value):Prop where
 Kept:Mz K mg "Kept" ["machine","many","rooms","standing","taken_back","tree"]
section
variable{P:Program}{w:World}{K:Frag}{mg:Str->Option Value}{base:Heap}{f:Addr}{fd:FuncData}
def Sf:FS:=(cU (HX nv (eC (.str [])) (ai (qK (ag 0)) aD)))
def GB:List W->List ao->R W:=cY 1 Sf
theorem P0(F:iw K "in_order" "in_order" MI f fd)(B:Bl mg) :cV P w K mg base (hV P w) 1 f fd PF (iy K mg 1 GB):=
 bP (k:=0) F PH rfl fun e_ A outer s H E hr=>(aH (bq (Jd PySem.F.slot_str_join PySem.F.type_str_join ui fQ (af (D0 B.sorted B.set (ae 0)) ax))))
def P1:FS:=(aN (be 2 (eI 0)) (aN (lh (gD (ag 0)) (jy 3) (aN (be 2 (e2 ij (ag 2) (eI 2))) (fN (ef (e2 (Ey false) (ag 3) (ag 1))) (be 2 (e2 cK (ag 2) (eI 1))) bT))) (cU (ag 2))))
def GC:List W->List ao->R W:=cY 4 P1
theorem P2(F:iw K "letter_of" "letter_of" MJ f fd)  :cV P w K mg base (hV P w) 1 f fd PJ (iy K mg 2 GC):=
 bP (k:=0) F zL rfl fun e_ A outer s H E hr=>(av (sS 2 zL aA) (av (gZ (lY (ae 0)) (sG 3 zL) (av (sS 2 zL (bD je (ae 2) aA)) (aH (cy (ca (Jb hr) (ae 3) (ae 1)) (aH (sS 2 zL (bD cD (ae 2) aA))) bO)))) (aH (bq (ae 2)))))
def Sg:FS:=(cU (e2 (Ey false) (e2 bu (ag 0) (eI 0)) (gB (ai (eI 1) (ai (eI 3) aD)))))
def ym:List W->List ao->R W:=cY 1 Sg
theorem P3(F:iw K "has_left" "has_left" MK f fd)  :cV P w K mg base (hV P w) 1 f fd PK (iy K mg 1 ym):=
 bP (k:=0) F PL rfl fun e_ A outer s H E hr=>(aH (bq (qE (Jb hr) (bb (ae 0) aA) (eW (af aA (af aA ax))))))
def Si:FS:=(cU (e2 (Ey false) (e2 bu (ag 0) (eI 0)) (gB (ai (eI 2) (ai (eI 3) aD)))))
def vn:List W->List ao->R W:=cY 1 Si
theorem P4(F:iw K "has_right" "has_right" ML f fd)  :cV P w K mg base (hV P w) 1 f fd PM (iy K mg 1 vn):=
 bP (k:=0) F PN rfl fun e_ A outer s H E hr=>(aH (bq (qE (Jb hr) (bb (ae 0) aA) (eW (af aA (af aA ax))))))
def P5:FS:=(aN (be 1 (jX aD)) (aN (be 2 (jX aD)) (aN (lh (qf (ai (ag 0) aD)) (Fu 2 (fO (jy 3) (fO (jy 4) pL))) (aN (be 5 (Ex (ef (cx 1 vn (ai (ag 4) aD))) (kQ ms (ag 2) aD) (eC .non))) (aN (be 6 (Ex (ef (cx 1 ym (ai (ag 4) aD))) (kQ ms (ag 2) aD) (eC .non))) (aN (c5 (kQ bM (ag 2) (ai (ag 3) aD))) (c5 (kQ bM (ag 1) (ai (gB (ai (ag 6) (ai (ag 5) aD))) aD))))))) (cU (bE ik (ai (ag 1) aD))))))
def vo:List W->List ao->R W:=cY 7 P5
theorem P6(F:iw K "links_of" "links_of" MM f fd)(B:Bl mg)(NS:bV P w K mg base 1 "has_left" 1 ym)(En:bV P w K mg base 1 "has_right" 1 vn):cV P w K mg base (hV P w) 2 f fd PP (iy K mg 1 vo):=
 bP (k:=1) F vc rfl fun e_ A outer s H E hr=>(av (sS 1 vc (iC ax)) (av (sS 2 vc (iC ax)) (av (gZ (CZ B.enumerate (af (ae 0) ax)) (mQ rfl (dL (sG 3 vc) (dL (sG 4 vc) kH))) (av (sS 5 vc (Bt (jx (bW En hr (by omega) (af (ae 4) ax))) (pN PySem.F.slot_list_pop PySem.F.type_list_pop lX (ae 2)) pI)) (av (sS 6 vc (Bt (jx (bW NS hr (by omega) (af (ae 4) ax))) (pN PySem.F.slot_list_pop PySem.F.type_list_pop lX (ae 2)) pI)) (av (cF (li PySem.F.slot_list_append PySem.F.type_list_append cP (ae 2) (af (ae 3) ax))) (aH (cF (li PySem.F.slot_list_append PySem.F.type_list_append cP (ae 1) (af (eW (af (ae 6) (af (ae 5) ax))) ax)))))))) (aH (bq (fJ jM B.tuple eN (af (ae 1) ax)))))))
def M1:FS:=(aN (uV (jO [none] (gD (ag 0)) (jy 0) vZ (eC .non)) (jy 1)) (aN (uV (jO [none] (gD (ag 0)) (jy 0) vZ (eC .non)) (jy 2)) (aN (lh (qf (ai (cx 1 vo (ai (ag 0) aD)) aD)) (Fu 2 (fO (jy 3) (fO (jy 4) pL))) (aN (fN (ef (gA (e2 bu (ag 4) (eI 0)))) (zu (ag 1) (e2 bu (ag 4) (eI 0)) (ag 3) pM) bT) (fN (ef (gA (e2 bu (ag 4) (eI 1)))) (zu (ag 2) (e2 bu (ag 4) (eI 1)) (ag 3) pM) bT))) (cU (gB (ai (ag 1) (ai (ag 2) aD)))))))
def GD:List W->List ao->R W:=cY 5 M1
theorem P7(F:iw K "ups_of" "ups_of" MN f fd)(B:Bl mg)(t_:bV P w K mg base 2 "links_of" 1 vo):cV P w K mg base (hV P w) 3 f fd PQ (iy K mg 1 GD):=
 bP (k:=2) F zN rfl fun e_ A outer s H E hr=>(av (qe (sG 1 zN) (m:=0) (nm:=["place"]) (cap:=[none]) (by first|rfl|kernel_rfl) rfl (lY (ae 0)) (fun _ _ _ _ _=>(sC 0)) (fun _ _ _ _ _=>uj) (fun _ _ _ _ _=>pI)) (av (qe (sG 2 zN) (m:=0) (nm:=["place"]) (cap:=[none]) (by first|rfl|kernel_rfl) rfl (lY (ae 0)) (fun _ _ _ _ _=>(sC 0)) (fun _ _ _ _ _=>uj) (fun _ _ _ _ _=>pI)) (av (gZ (CZ B.enumerate (af (bW t_ hr (by omega) (af (ae 0) ax)) ax)) (mQ rfl (dL (sG 3 zN) (dL (sG 4 zN) kH))) (av (cy (iG (bb (ae 4) aA)) (aH (Bz By (ae 3) (ae 1) (bb (ae 4) aA))) bO) (aH (cy (iG (bb (ae 4) aA)) (aH (Bz By (ae 3) (ae 2) (bb (ae 4) aA))) bO)))) (aH (bq (eW (af (ae 1) (af (ae 2) ax))))))))
def Sj:FS:=(cU (Ex (ef (gA (e2 bu (e2 bu (ag 0) (eI 0)) (ag 1)))) (e2 bu (e2 bu (ag 0) (eI 0)) (ag 1)) (e2 bu (e2 bu (ag 0) (eI 1)) (ag 1))))
def D7:List W->List ao->R W:=cY 2 Sj
theorem P8(F:iw K "up_from" "up_from" MO f fd)  :cV P w K mg base (hV P w) 1 f fd PR (iy K mg 2 D7):=
 bP (k:=0) F PU rfl fun e_ A outer s H E hr=>(aH (bq (Bt (iG (bb (bb (ae 0) aA) (ae 1))) (bb (bb (ae 0) aA) (ae 1)) (bb (bb (ae 0) aA) (ae 1)))))
def P9:FS:=(aN (be 1 (jX aD)) (aN (lh (gD (cx 1 vo (ai (ag 0) aD))) (Fu 2 (fO (jy 2) (fO (jy 3) pL))) (aN (be 4 (eI 1)) (aN (fN (ef (gA (ag 2))) (be 4 (e2 cK (ag 4) (e2 bu (ag 1) (ag 2)))) bT) (aN (fN (ef (gA (ag 3))) (be 4 (e2 cK (ag 4) (e2 bu (ag 1) (ag 3)))) bT) (c5 (kQ bM (ag 1) (ai (ag 4) aD))))))) (cU (bE ik (ai (ag 1) aD)))))
def BU:List W->List ao->R W:=cY 5 P9
theorem P_(F:iw K "sizes_of" "sizes_of" MP f fd)(B:Bl mg)(t_:bV P w K mg base 2 "links_of" 1 vo):cV P w K mg base (hV P w) 3 f fd PV (iy K mg 1 BU):=
 bP (k:=2) F vd rfl fun e_ A outer s H E hr=>(av (sS 1 vd (iC ax)) (av (gZ (lY (bW t_ hr (by omega) (af (ae 0) ax))) (mQ rfl (dL (sG 2 vd) (dL (sG 3 vd) kH))) (av (sS 4 vd aA) (av (cy (iG (ae 2)) (aH (sS 4 vd (bD cD (ae 4) (bb (ae 1) (ae 2))))) bO) (av (cy (iG (ae 3)) (aH (sS 4 vd (bD cD (ae 4) (bb (ae 1) (ae 3))))) bO) (aH (cF (li PySem.F.slot_list_append PySem.F.type_list_append cP (ae 1) (af (ae 4) ax)))))))) (aH (bq (fJ jM B.tuple eN (af (ae 1) ax))))))
def P':FS:=(fN (Ew (ef (e2 Mo (ag 1) (eI 0))) (ef (e2 Mp (ag 1) (bE dG (ai (ag 0) aD))))) (u6 "NoPlace") bT)
def yn:List W->List ao->R W:=cY 2 P'
theorem Qa(F:iw K "check_place" "check_place" MQ f fd)(B:Bl mg)(C:Cls K mg) :cV P w K mg base (hV P w) 1 f fd PX (iy K mg 2 yn):=
 bP (k:=0) F PY rfl fun e_ A outer s H E hr=>(aH (cy (Br (CP (ca w_lt (ae 1) aA) (xJ (ca I_ (ae 1) (bS dZ B.len bK (af (ae 0) ax)))))) (aH (qL C.NoPlace)) bO))
def GE:FS:=(fN (ef (e2 DU (ag 0) (eC l9))) (u6 "TooGreat") bT)
def wX:List W->List ao->R W:=cY 1 GE
theorem M2(F:iw K "check_size" "check_size" FV f fd)(G:Gc K mg)(C:Cls K mg) :cV P w K mg base (hV P w) 1 f fd Kd (iy K mg 1 wX):=
 bP (k:=0) F MR rfl fun e_ A outer s H E hr=>(aH (cy (ca vX (ae 0) (R8 G.MOST_PLACES)) (aH (qL C.TooGreat)) bO))
def KJ:FS:=(aN (c5 (cx 2 yn (ai (ag 0) (ai (ag 1) aD)))) (cU (qA (ag 0) (eJ (e2 mP (e2 cK (ag 1) (eI 1)) (e2 bu (cx 1 BU (ai (ag 0) aD)) (ag 1)))) (eJ (e2 cK (ag 1) (eI 1))))))
def zW:List W->List ao->R W:=cY 2 KJ
theorem M3(F:iw K "part_at" "part_at" FW f fd) (yH:bV P w K mg base 1 "check_place" 2 yn)(El:bV P w K mg base 3 "sizes_of" 1 BU):cV P w K mg base (hV P w) 4 f fd Ke (iy K mg 2 zW):=
 bP (k:=3) F MS rfl fun e_ A outer s H E hr=>(av (cF (bW yH hr (by omega) (af (ae 0) (af (ae 1) ax)))) (aH (bq (kO (ae 0) (de (bD lE (bD cD (ae 1) aA) (bb (bW El hr (by omega) (af (ae 0) ax)) (ae 1)))) (de (bD cD (ae 1) aA))))))
def KL:FS:=(aN (be 2 (qA (cx 2 zW (ai (ag 0) (ai (ag 1) aD))) gC (eJ (zy (eI 1))))) (aN (be 3 (eI 0)) (aN (fN (ef (cx 1 vn (ai (e2 bu (ag 0) (ag 1)) aD))) (be 3 (e2 bu (cx 1 BU (ai (ag 0) aD)) (e2 mP (ag 1) (eI 1)))) bT) (aN (be 4 (e2 mP (bE dG (ai (ag 2) aD)) (ag 3))) (cU (gB (ai (qA (ag 2) gC (eJ (ag 4))) (ai (qA (ag 2) (eJ (ag 4)) gC) aD))))))))
def pS:List W->List ao->R W:=cY 5 KL
theorem M4(F:iw K "branches_at" "branches_at" FX f fd)(B:Bl mg)(En:bV P w K mg base 1 "has_right" 1 vn)(Hz:bV P w K mg base 4 "part_at" 2 zW)(El:bV P w K mg base 3 "sizes_of" 1 BU):cV P w K mg base (hV P w) 5 f fd Kf (iy K mg 2 pS):=
 bP (k:=4) F ve rfl fun e_ A outer s H E hr=>(av (sS 2 ve (kO (bW Hz hr (by omega) (af (ae 0) (af (ae 1) ax))) eR (de (C0 aA)))) (av (sS 3 ve aA) (av (cy (jx (bW En hr (by omega) (af (bb (ae 0) (ae 1)) ax))) (aH (sS 3 ve (bb (bW El hr (by omega) (af (ae 0) ax)) (bD lE (ae 1) aA)))) bO) (av (sS 4 ve (bD lE (bS dZ B.len bK (af (ae 2) ax)) (ae 3))) (aH (bq (eW (af (kO (ae 2) eR (de (ae 4))) (af (kO (ae 2) (de (ae 4)) eR) ax)))))))))
def KM:FS:=(aN (be 3 (eI 0)) (aN (fN (ef (e2 DU (bE dG (ai (ag 0) aD)) (eI 0))) (be 3 (e2 cK (ag 3) (eI 1))) bT) (aN (fN (ef (e2 DU (bE dG (ai (ag 1) aD)) (eI 0))) (be 3 (e2 cK (ag 3) (eI 2))) bT) (cU (e2 cK (e2 cK (ag 0) (ag 1)) (gB (ai (gB (ai (ag 3) (ai (ag 2) aD))) aD)))))))
def zX:List W->List ao->R W:=cY 4 KM
theorem M5(F:iw K "with_top" "with_top" FY f fd)(B:Bl mg) :cV P w K mg base (hV P w) 1 f fd Kg (iy K mg 3 zX):=
 bP (k:=0) F xZ rfl fun e_ A outer s H E hr=>(av (sS 3 xZ aA) (av (cy (ca vX (bS dZ B.len bK (af (ae 0) ax)) aA) (aH (sS 3 xZ (bD cD (ae 3) aA))) bO) (av (cy (ca vX (bS dZ B.len bK (af (ae 1) ax)) aA) (aH (sS 3 xZ (bD cD (ae 3) aA))) bO) (aH (bq (bD cD (bD cD (ae 0) (ae 1)) (eW (af (eW (af (ae 3) (af (ae 2) ax))) ax))))))))
def GF:FS:=(aN (be 4 (cx 2 pS (ai (ag 0) (ai (ag 1) aD)))) (aN (be 5 (Ex (ef (e2 iE (ag 2) (eC (.str [108,101,102,116])))) (ag 3) (e2 bu (ag 4) (eI 0)))) (aN (be 6 (Ex (ef (e2 iE (ag 2) (eC (.str [114,105,103,104,116])))) (ag 3) (e2 bu (ag 4) (eI 1)))) (aN (be 7 (e2 mP (e2 mP (ag 1) (bE dG (ai (e2 bu (ag 4) (eI 0)) aD))) (bE dG (ai (e2 bu (ag 4) (eI 1)) aD)))) (aN (be 8 (e2 cK (e2 cK (qA (ag 0) gC (eJ (ag 7))) (cx 3 zX (ai (ag 5) (ai (ag 6) (ai (e2 bu (e2 bu (ag 0) (ag 1)) (eI 1)) aD))))) (qA (ag 0) (eJ (e2 cK (ag 1) (eI 1))) gC))) (aN (c5 (cx 1 wX (ai (bE dG (ai (ag 8) aD)) aD))) (cU (ag 8))))))))
def zY:List W->List ao->R W:=cY 9 GF
theorem M6(F:iw K "branch_put" "branch_put" FZ f fd)(B:Bl mg)(vL:bV P w K mg base 5 "branches_at" 2 pS)(Hs:bV P w K mg base 1 "check_size" 1 wX)(HH:bV P w K mg base 1 "with_top" 3 zX):cV P w K mg base (hV P w) 6 f fd Kh (iy K mg 4 zY):=
 bP (k:=5) F sD rfl fun e_ A outer s H E hr=>(av (sS 4 sD (bW vL hr (by omega) (af (ae 0) (af (ae 1) ax)))) (av (sS 5 sD (Bt (ca (gN hr) (ae 2) fQ) (ae 3) (bb (ae 4) aA))) (av (sS 6 sD (Bt (ca (gN hr) (ae 2) fQ) (ae 3) (bb (ae 4) aA))) (av (sS 7 sD (bD lE (bD lE (ae 1) (bS dZ B.len bK (af (bb (ae 4) aA) ax))) (bS dZ B.len bK (af (bb (ae 4) aA) ax)))) (av (sS 8 sD (bD cD (bD cD (kO (ae 0) eR (de (ae 7))) (bW HH hr (by omega) (af (ae 5) (af (ae 6) (af (bb (bb (ae 0) (ae 1)) aA) ax))))) (kO (ae 0) (de (bD cD (ae 1) aA)) eR))) (av (cF (bW Hs hr (by omega) (af (bS dZ B.len bK (af (ae 8) ax)) ax))) (aH (bq (ae 8)))))))))
def Qb:FS:=(cU (Ex (ef (xK (ag 1))) (eI 0) (e2 bu (ag 0) (ag 1))))
def wY:List W->List ao->R W:=cY 2 Qb
theorem M7(F:iw K "room_below" "room_below" F0 f fd)  :cV P w K mg base (hV P w) 1 f fd Ki (iy K mg 2 wY):=
 bP (k:=0) F MU rfl fun e_ A outer s H E hr=>(aH (bq (Bt (Bu (ae 1)) aA (bb (ae 0) (ae 1)))))
def Qc:FS:=(aN (be 4 (e2 bu (e2 bu (ag 0) (eI 2)) (cx 2 GC (ai (e2 bu (ag 0) (eI 0)) (ai (ag 1) aD))))) (cU (e2 bu (e2 bu (ag 4) (cx 2 wY (ai (ag 3) (ai (e2 bu (ag 2) (eI 0)) aD)))) (cx 2 wY (ai (ag 3) (ai (e2 bu (ag 2) (eI 1)) aD))))))
def re:List W->List ao->R W:=cY 5 Qc
theorem M8(F:iw K "room_at" "room_at" F1 f fd) (NX:bV P w K mg base 1 "letter_of" 2 GC)(Dn:bV P w K mg base 1 "room_below" 2 wY):cV P w K mg base (hV P w) 2 f fd Kj (iy K mg 4 re):=
 bP (k:=1) F F2 rfl fun e_ A outer s H E hr=>(av (sS 4 F2 (bb (bb (ae 0) aA) (bW NX hr (by omega) (af (bb (ae 0) aA) (af (ae 1) ax))))) (aH (bq (bb (bb (ae 4) (bW Dn hr (by omega) (af (ae 3) (af (bb (ae 2) aA) ax)))) (bW Dn hr (by omega) (af (ae 3) (af (bb (ae 2) aA) ax)))))))
def KN:FS:=(aN (be 2 (jX aD)) (aN (lh (xQ (ai (ag 1) (ai (cx 1 vo (ai (ag 1) aD)) aD))) (Fu 2 (fO (jy 3) (fO (jy 4) pL))) (c5 (kQ bM (ag 2) (ai (cx 4 re (ai (ag 0) (ai (e2 bu (ag 3) (eI 1)) (ai (ag 4) (ai (ag 2) aD))))) aD)))) (cU (bE ik (ai (ag 2) aD)))))
def nG:List W->List ao->R W:=cY 5 KN
theorem M9(F:iw K "rooms_of" "rooms_of" F3 f fd)(B:Bl mg)(t_:bV P w K mg base 2 "links_of" 1 vo)(xj:bV P w K mg base 2 "room_at" 4 re):cV P w K mg base (hV P w) 3 f fd Kk (iy K mg 2 nG):=
 bP (k:=2) F x8 rfl fun e_ A outer s H E hr=>(av (sS 2 x8 (iC ax)) (av (gZ (Jq B.zip (af (ae 1) (af (bW t_ hr (by omega) (af (ae 1) ax)) ax))) (mQ rfl (dL (sG 3 x8) (dL (sG 4 x8) kH))) (aH (cF (li PySem.F.slot_list_append PySem.F.type_list_append cP (ae 2) (af (bW xj hr (by omega) (af (ae 0) (af (bb (ae 3) aA) (af (ae 4) (af (ae 2) ax))))) ax))))) (aH (bq (fJ jM B.tuple eN (af (ae 2) ax))))))
def Qd:FS:=(cU (gB (ai (e2 bu (ag 0) (eI 2)) (ai (e2 bu (ag 0) (eI 3)) (ai (e2 bu (ag 0) (eI 0)) (ai (e2 bu (ag 0) (eI 1)) (ai (e2 bu (ag 0) (eI 4)) aD)))))))
def zZ:List W->List ao->R W:=cY 1 Qd
theorem M_(F:iw K "turned" "turned" F4 f fd)  :cV P w K mg base (hV P w) 1 f fd Kl (iy K mg 1 zZ):=
 bP (k:=0) F MV rfl fun e_ A outer s H E hr=>(aH (bq (eW (af (bb (ae 0) aA) (af (bb (ae 0) aA) (af (bb (ae 0) aA) (af (bb (ae 0) aA) (af (bb (ae 0) aA) ax))))))))
def Qe:FS:=(cU (e2 cK (e2 cK (qA (ag 0) gC (eJ (ag 1))) (gB (ai (gB (ai (e2 bu (e2 bu (ag 0) (ag 1)) (eI 0)) (ai (ag 2) aD))) aD))) (qA (ag 0) (eJ (e2 cK (ag 1) (eI 1))) gC)))
def z9:List W->List ao->R W:=cY 3 Qe
theorem M'(F:iw K "with_marks" "with_marks" F6 f fd)  :cV P w K mg base (hV P w) 1 f fd Km (iy K mg 3 z9):=
 bP (k:=0) F MW rfl fun e_ A outer s H E hr=>(aH (bq (bD cD (bD cD (kO (ae 0) eR (de (ae 1))) (eW (af (eW (af (bb (bb (ae 0) (ae 1)) aA) (af (ae 2) ax))) ax))) (kO (ae 0) (de (bD cD (ae 1) aA)) eR))))
def Qf:FS:=(aN (be 3 (cx 2 pS (ai (e2 bu (ag 2) (eI 0)) (ai (e2 bu (ag 2) (eI 1)) aD)))) (aN (be 4 (cx 2 pS (ai (e2 bu (ag 2) (eI 2)) (ai (e2 bu (ag 2) (eI 3)) aD)))) (aN (be 5 (e2 mP (e2 mP (e2 bu (ag 2) (eI 1)) (bE dG (ai (e2 bu (ag 3) (eI 0)) aD))) (bE dG (ai (e2 bu (ag 3) (eI 1)) aD)))) (aN (be 6 (e2 cK (ag 5) (bE dG (ai (e2 bu (ag 3) (eI 0)) aD)))) (aN (fN (ef (e2 iE (e2 bu (ag 2) (eI 4)) (eC (.str [108,101,102,116])))) (aN (be 7 (cx 2 nG (ai (ag 0) (ai (e2 bu (ag 4) (eI 0)) aD)))) (cU (gB (ai (e2 cK (e2 cK (qA (ag 1) gC (eJ (ag 5))) (ag 7)) (qA (ag 1) (eJ (ag 6)) gC)) (ai (bE dG (ai (ag 7) aD)) aD))))) bT) (aN (be 7 (cx 2 nG (ai (ag 0) (ai (e2 bu (ag 4) (eI 1)) aD)))) (cU (gB (ai (e2 cK (e2 cK (qA (ag 1) gC (eJ (ag 6))) (ag 7)) (qA (ag 1) (eJ (e2 bu (ag 2) (eI 1))) gC)) (ai (bE dG (ai (ag 7) aD)) aD))))))))))
def wZ:List W->List ao->R W:=cY 8 Qf
theorem Na(F:iw K "branch_rooms" "branch_rooms" F7 f fd)(B:Bl mg)(vL:bV P w K mg base 5 "branches_at" 2 pS)(pU:bV P w K mg base 3 "rooms_of" 2 nG):cV P w K mg base (hV P w) 6 f fd Kn (iy K mg 3 wZ):=
 bP (k:=5) F qj rfl fun e_ A outer s H E hr=>(av (sS 3 qj (bW vL hr (by omega) (af (bb (ae 2) aA) (af (bb (ae 2) aA) ax)))) (av (sS 4 qj (bW vL hr (by omega) (af (bb (ae 2) aA) (af (bb (ae 2) aA) ax)))) (av (sS 5 qj (bD lE (bD lE (bb (ae 2) aA) (bS dZ B.len bK (af (bb (ae 3) aA) ax))) (bS dZ B.len bK (af (bb (ae 3) aA) ax)))) (av (sS 6 qj (bD cD (ae 5) (bS dZ B.len bK (af (bb (ae 3) aA) ax)))) (av (cy (ca (gN hr) (bb (ae 2) aA) fQ) (av (sS 7 qj (bW pU hr (by omega) (af (ae 0) (af (bb (ae 4) aA) ax)))) (aH (bq (eW (af (bD cD (bD cD (kO (ae 1) eR (de (ae 5))) (ae 7)) (kO (ae 1) (de (ae 6)) eR)) (af (bS dZ B.len bK (af (ae 7) ax)) ax)))))) bO) (av (sS 7 qj (bW pU hr (by omega) (af (ae 0) (af (bb (ae 4) aA) ax)))) (aH (bq (eW (af (bD cD (bD cD (kO (ae 1) eR (de (ae 6))) (ae 7)) (kO (ae 1) (de (bb (ae 2) aA)) eR)) (af (bS dZ B.len bK (af (ae 7) ax)) ax)))))))))))
def Qg:FS:=(aN (be 4 (cx 1 vo (ai (ag 1) aD))) (aN (be 5 (cx 1 GD (ai (ag 1) aD))) (aN (be 6 (bE wL (ai (ag 2) aD))) (aN (be 7 (eI 0)) (aN (be 8 (ag 3)) (aN (om (ef (gA (ag 8))) (aN (be 9 (cx 4 re (ai (ag 0) (ai (e2 bu (e2 bu (ag 1) (ag 8)) (eI 1)) (ai (e2 bu (ag 4) (ag 8)) (ai (ag 6) aD)))))) (aN (be 7 (e2 cK (ag 7) (eI 1))) (aN (fN (ef (e2 iE (ag 9) (e2 bu (ag 6) (ag 8)))) Bw bT) (aN (zu (ag 6) (ag 8) (ag 9) pM) (be 8 (cx 2 D7 (ai (ag 5) (ai (ag 8) aD))))))))) (cU (gB (ai (bE ik (ai (ag 6) aD)) (ai (ag 7) aD))))))))))
def z_:List W->List ao->R W:=cY 10 Qg
theorem Nb(F:iw K "climbed" "climbed" F8 f fd)(B:Bl mg)(t_:bV P w K mg base 2 "links_of" 1 vo)(xj:bV P w K mg base 2 "room_at" 4 re)(N0:bV P w K mg base 1 "up_from" 2 D7)(NT:bV P w K mg base 3 "ups_of" 1 GD):cV P w K mg base (hV P w) 4 f fd Ko (iy K mg 4 z_):=
 bP (k:=3) F mT rfl fun e_ A outer s H E hr=>(av (sS 4 mT (bW t_ hr (by omega) (af (ae 1) ax))) (av (sS 5 mT (bW NT hr (by omega) (af (ae 1) ax))) (av (sS 6 mT (fJ Mq B.list boot_list (af (ae 2) ax))) (av (sS 7 mT aA) (av (sS 8 mT (ae 3)) (av (zw (iG (ae 8)) (av (sS 9 mT (bW xj hr (by omega) (af (ae 0) (af (bb (bb (ae 1) (ae 8)) aA) (af (bb (ae 4) (ae 8)) (af (ae 6) ax)))))) (av (sS 7 mT (bD cD (ae 7) aA)) (av (cy (ca (gN hr) (ae 9) (bb (ae 6) (ae 8))) (aH Ft) bO) (av (Bz By (ae 9) (ae 6) (ae 8)) (aH (sS 8 mT (bW N0 hr (by omega) (af (ae 5) (af (ae 8) ax)))))))))) (aH (bq (eW (af (fJ jM B.tuple eN (af (ae 6) ax)) (af (ae 7) ax)))))))))))
def nH:FS:=(aN (oo "Kept" "machine" (ag 0) (ag 1)) (aN (oo "Kept" "tree" (ag 0) (ag 2)) (aN (oo "Kept" "rooms" (ag 0) (cx 2 nG (ai (ag 1) (ai (ag 2) aD)))) (aN (oo "Kept" "many" (ag 0) (bE dG (ai (ag 2) aD))) (aN (oo "Kept" "standing" (ag 0) (jX aD)) (oo "Kept" "taken_back" (ag 0) (jX aD)))))))
def gE:List W->List ao->R W:=cY 3 nH
theorem sM(F:iw K "__init__" "Kept.__init__" j6 f fd)(B:Bl mg)(O:Ow K mg)(pU:bV P w K mg base 3 "rooms_of" 2 nG):cV P w K mg base (hV P w) 4 f fd nD (iy K mg 3 gE):=
 bP (k:=3) F sE rfl fun e_ A outer s H E hr=>(av (jZ O.Kept (ae 0) (ae 1)) (av (jZ O.Kept (ae 0) (ae 2)) (av (jZ O.Kept (ae 0) (bW pU hr (by omega) (af (ae 1) (af (ae 2) ax)))) (av (jZ O.Kept (ae 0) (bS dZ B.len bK (af (ae 2) ax))) (av (jZ O.Kept (ae 0) (iC ax)) (aH (jZ O.Kept (ae 0) (iC ax))))))))
def jE:FS:=(aN (fN (ef (xK (e2 bu (ag 1) (eI 1)))) (aN (oo "Kept" "rooms" (ag 0) (cx 2 nG (ai (im "Kept" "machine" (ag 0)) (ai (e2 bu (ag 1) (eI 2)) aD)))) (oo "Kept" "many" (ag 0) (bE dG (ai (e2 bu (ag 1) (eI 2)) aD)))) (aN (be 2 (gB (ai (im "Kept" "rooms" (ag 0)) (ai (eI 0) aD)))) (aN (fN (ef (gA (e2 bu (ag 1) (eI 4)))) (be 2 (cx 3 wZ (ai (im "Kept" "machine" (ag 0)) (ai (im "Kept" "rooms" (ag 0)) (ai (ag 1) aD))))) bT) (aN (be 3 (cx 4 z_ (ai (im "Kept" "machine" (ag 0)) (ai (e2 bu (ag 1) (eI 2)) (ai (e2 bu (ag 2) (eI 0)) (ai (e2 bu (ag 1) (eI 3)) aD)))))) (aN (oo "Kept" "rooms" (ag 0) (e2 bu (ag 3) (eI 0))) (oo "Kept" "many" (ag 0) (e2 cK (e2 bu (ag 2) (eI 1)) (e2 bu (ag 3) (eI 1))))))))) (oo "Kept" "tree" (ag 0) (e2 bu (ag 1) (eI 2))))
def dh:List W->List ao->R W:=cY 4 jE
theorem rh(F:iw K "carry_out" "Kept.carry_out" jB f fd)(B:Bl mg)(O:Ow K mg)(Ht:bV P w K mg base 6 "branch_rooms" 3 wZ)(Hj:bV P w K mg base 4 "climbed" 4 z_)(pU:bV P w K mg base 3 "rooms_of" 2 nG):cV P w K mg base (hV P w) 7 f fd my (iy K mg 2 dh):=
 bP (k:=6) F gQ rfl fun e_ A outer s H E hr=>(av (cy (Bu (bb (ae 1) aA)) (av (jZ O.Kept (ae 0) (bW pU hr (by omega) (af (fZ O.Kept (ae 0)) (af (bb (ae 1) aA) ax)))) (aH (jZ O.Kept (ae 0) (bS dZ B.len bK (af (bb (ae 1) aA) ax))))) (av (sS 2 gQ (eW (af (fZ O.Kept (ae 0)) (af aA ax)))) (av (cy (iG (bb (ae 1) aA)) (aH (sS 2 gQ (bW Ht hr (by omega) (af (fZ O.Kept (ae 0)) (af (fZ O.Kept (ae 0)) (af (ae 1) ax)))))) bO) (av (sS 3 gQ (bW Hj hr (by omega) (af (fZ O.Kept (ae 0)) (af (bb (ae 1) aA) (af (bb (ae 2) aA) (af (bb (ae 1) aA) ax)))))) (av (jZ O.Kept (ae 0) (bb (ae 3) aA)) (aH (jZ O.Kept (ae 0) (bD cD (bb (ae 2) aA) (bb (ae 3) aA))))))))) (aH (jZ O.Kept (ae 0) (bb (ae 1) aA))))
def oI:FS:=(aN (c5 (iF "Kept" "carry_out" 2 dh (ag 0) (ai (ag 1) aD))) (aN (c5 (kQ bM (im "Kept" "standing" (ag 0)) (ai (ag 1) aD))) (oo "Kept" "taken_back" (ag 0) (jX aD))))
def dN:List W->List ao->R W:=cY 2 oI
theorem t6(F:iw K "do_deed" "Kept.do_deed" kR f fd)(O:Ow K mg)(dq:g_ P w K mg base 7 "Kept" "carry_out" 2 dh):cV P w K mg base (hV P w) 8 f fd oq (iy K mg 2 dN):=
 bP (k:=7) F tY rfl fun e_ A outer s H E hr=>(av (cF (j3 dq hr (by omega) (ae 0) (af (ae 1) ax))) (av (cF (li PySem.F.slot_list_append PySem.F.type_list_append cP (fZ O.Kept (ae 0)) (af (ae 1) ax))) (aH (jZ O.Kept (ae 0) (iC ax)))))
def sN:FS:=(c5 (iF "Kept" "do_deed" 2 dN (ag 0) (ai (gB (ai (im "Kept" "tree" (ag 0)) (ai (ag 1) (ai (cx 3 z9 (ai (im "Kept" "tree" (ag 0)) (ai (ag 1) (ai (ag 2) aD)))) (ai (ag 1) (ai (eC .non) aD)))))) aD)))
def eu:List W->List ao->R W:=cY 3 sN
theorem rj(F:iw K "mark_deed" "Kept.mark_deed" jC f fd)(O:Ow K mg)(dR:g_ P w K mg base 8 "Kept" "do_deed" 2 dN)(Hy:bV P w K mg base 1 "with_marks" 3 z9):cV P w K mg base (hV P w) 9 f fd mz (iy K mg 3 eu):=
 bP (k:=8) F qY rfl fun e_ A outer s H E hr=>(aH (cF (j3 dR hr (by omega) (ae 0) (af (eW (af (fZ O.Kept (ae 0)) (af (ae 1) (af (bW Hy hr (by omega) (af (fZ O.Kept (ae 0)) (af (ae 1) (af (ae 2) ax)))) (af (ae 1) (af pI ax)))))) ax))))
def BV:FS:=(aN (c5 (cx 2 yn (ai (im "Kept" "tree" (ag 0)) (ai (ag 1) aD)))) (c5 (iF "Kept" "mark_deed" 3 eu (ag 0) (ai (ag 1) (ai (cx 1 GB (ai (e2 cK (e2 bu (e2 bu (im "Kept" "tree" (ag 0)) (ag 1)) (eI 1)) (ag 2)) aD)) aD)))))
def jF:List W->List ao->R W:=cY 3 BV
theorem Aa(F:iw K "put" "Kept.put" qk f fd)(O:Ow K mg)(eZ:g_ P w K mg base 9 "Kept" "mark_deed" 3 eu)(yH:bV P w K mg base 1 "check_place" 2 yn)(NU:bV P w K mg base 1 "in_order" 1 GB):cV P w K mg base (hV P w) 10 f fd vh (iy K mg 3 jF):=
 bP (k:=9) F zO rfl fun e_ A outer s H E hr=>(av (cF (bW yH hr (by omega) (af (fZ O.Kept (ae 0)) (af (ae 1) ax)))) (aH (cF (j3 eZ hr (by omega) (ae 0) (af (ae 1) (af (bW NU hr (by omega) (af (bD cD (bb (bb (fZ O.Kept (ae 0)) (ae 1)) aA) (ae 2)) ax)) ax))))))
def Ab:FS:=(aN (c5 (cx 2 yn (ai (im "Kept" "tree" (ag 0)) (ai (ag 1) aD)))) (c5 (iF "Kept" "mark_deed" 3 eu (ag 0) (ai (ag 1) (ai (C9 (e2 bu (e2 bu (im "Kept" "tree" (ag 0)) (ag 1)) (eI 1)) (ag 2)) aD)))))
def iY:List W->List ao->R W:=cY 3 Ab
theorem yo(F:iw K "take" "Kept.take" ou f fd)(O:Ow K mg)(eZ:g_ P w K mg base 9 "Kept" "mark_deed" 3 eu)(yH:bV P w K mg base 1 "check_place" 2 yn):cV P w K mg base (hV P w) 10 f fd tK (iy K mg 3 iY):=
 bP (k:=9) F x_ rfl fun e_ A outer s H E hr=>(av (cF (bW yH hr (by omega) (af (fZ O.Kept (ae 0)) (af (ae 1) ax)))) (aH (cF (j3 eZ hr (by omega) (ae 0) (af (ae 1) (af (MG (bb (bb (fZ O.Kept (ae 0)) (ae 1)) aA) (ae 2)) ax))))))
def wa:FS:=(aN (be 4 (cx 4 zY (ai (im "Kept" "tree" (ag 0)) (ai (ag 1) (ai (ag 2) (ai (ag 3) aD)))))) (c5 (iF "Kept" "do_deed" 2 dN (ag 0) (ai (gB (ai (im "Kept" "tree" (ag 0)) (ai (ag 1) (ai (ag 4) (ai (e2 mP (e2 cK (ag 1) (bE dG (ai (ag 4) aD))) (bE dG (ai (im "Kept" "tree" (ag 0)) aD))) (ai (ag 2) aD)))))) aD))))
def gK:List W->List ao->R W:=cY 5 wa
theorem vp(F:iw K "branch" "Kept.branch" l7 f fd)(B:Bl mg)(O:Ow K mg)(dR:g_ P w K mg base 8 "Kept" "do_deed" 2 dN)(Hq:bV P w K mg base 6 "branch_put" 4 zY):cV P w K mg base (hV P w) 9 f fd pO (iy K mg 4 gK):=
 bP (k:=8) F oy rfl fun e_ A outer s H E hr=>(av (sS 4 oy (bW Hq hr (by omega) (af (fZ O.Kept (ae 0)) (af (ae 1) (af (ae 2) (af (ae 3) ax)))))) (aH (cF (j3 dR hr (by omega) (ae 0) (af (eW (af (fZ O.Kept (ae 0)) (af (ae 1) (af (ae 4) (af (bD lE (bD cD (ae 1) (bS dZ B.len bK (af (ae 4) ax))) (bS dZ B.len bK (af (fZ O.Kept (ae 0)) ax))) (af (ae 2) ax)))))) ax)))))
def yp:FS:=(c5 (iF "Kept" "do_deed" 2 dN (ag 0) (ai (gB (ai (im "Kept" "tree" (ag 0)) (ai (eC .non) (ai (ag 1) (ai (eC .non) (ai (eC .non) aD)))))) aD)))
def ia:List W->List ao->R W:=cY 2 yp
theorem wb(F:iw K "whole" "Kept.whole" mU f fd)(O:Ow K mg)(dR:g_ P w K mg base 8 "Kept" "do_deed" 2 dN):cV P w K mg base (hV P w) 9 f fd qZ (iy K mg 2 ia):=
 bP (k:=8) F v7 rfl fun e_ A outer s H E hr=>(aH (cF (j3 dR hr (by omega) (ae 0) (af (eW (af (fZ O.Kept (ae 0)) (af pI (af (ae 1) (af pI (af pI ax)))))) ax))))
def tM:FS:=(aN (fN (ef (e2 iE (bE dG (ai (im "Kept" "standing" (ag 0)) aD)) (eI 0))) (u6 "NothingDone") bT) (aN (be 1 (kQ ms (im "Kept" "standing" (ag 0)) aD)) (aN (c5 (iF "Kept" "carry_out" 2 dh (ag 0) (ai (cx 1 zZ (ai (ag 1) aD)) aD))) (c5 (kQ bM (im "Kept" "taken_back" (ag 0)) (ai (ag 1) aD))))))
def iZ:List W->List ao->R W:=cY 2 tM
theorem yq(F:iw K "back" "Kept.back" oz f fd)(B:Bl mg)(C:Cls K mg)(O:Ow K mg)(dq:g_ P w K mg base 7 "Kept" "carry_out" 2 dh)(Hm:bV P w K mg base 1 "turned" 1 zZ):cV P w K mg base (hV P w) 8 f fd tL (iy K mg 1 iZ):=
 bP (k:=7) F q5 rfl fun e_ A outer s H E hr=>(av (cy (ca (gN hr) (bS dZ B.len bK (af (fZ O.Kept (ae 0)) ax)) aA) (aH (qL C.NothingDone)) bO) (av (sS 1 q5 (pN PySem.F.slot_list_pop PySem.F.type_list_pop lX (fZ O.Kept (ae 0)))) (av (cF (j3 dq hr (by omega) (ae 0) (af (bW Hm hr (by omega) (af (ae 1) ax)) ax))) (aH (cF (li PySem.F.slot_list_append PySem.F.type_list_append cP (fZ O.Kept (ae 0)) (af (ae 1) ax)))))))
def rk:FS:=(aN (fN (ef (e2 iE (bE dG (ai (im "Kept" "taken_back" (ag 0)) aD)) (eI 0))) (u6 "NothingDone") bT) (aN (be 1 (kQ ms (im "Kept" "taken_back" (ag 0)) aD)) (aN (c5 (iF "Kept" "carry_out" 2 dh (ag 0) (ai (ag 1) aD))) (c5 (kQ bM (im "Kept" "standing" (ag 0)) (ai (ag 1) aD))))))
def ib:List W->List ao->R W:=cY 2 rk
theorem wc(F:iw K "again" "Kept.again" mV f fd)(B:Bl mg)(C:Cls K mg)(O:Ow K mg)(dq:g_ P w K mg base 7 "Kept" "carry_out" 2 dh):cV P w K mg base (hV P w) 8 f fd q9 (iy K mg 1 ib):=
 bP (k:=7) F pR rfl fun e_ A outer s H E hr=>(av (cy (ca (gN hr) (bS dZ B.len bK (af (fZ O.Kept (ae 0)) ax)) aA) (aH (qL C.NothingDone)) bO) (av (sS 1 pR (pN PySem.F.slot_list_pop PySem.F.type_list_pop lX (fZ O.Kept (ae 0)))) (av (cF (j3 dq hr (by omega) (ae 0) (af (ae 1) ax))) (aH (cF (li PySem.F.slot_list_append PySem.F.type_list_append cP (fZ O.Kept (ae 0)) (af (ae 1) ax)))))))
def t7:FS:=(cU (im "Kept" "tree" (ag 0)))
def gF:List W->List ao->R W:=cY 1 t7
theorem sO(F:iw K "tree_now" "Kept.tree_now" j7 f fd)(O:Ow K mg) :cV P w K mg base (hV P w) 1 f fd nE (iy K mg 1 gF):=
 bP (k:=0) F sI rfl fun e_ A outer s H E hr=>(aH (bq (fZ O.Kept (ae 0))))
def sP:FS:=(cU (im "Kept" "rooms" (ag 0)))
def f7:List W->List ao->R W:=cY 1 sP
theorem rq(F:iw K "rooms_now" "Kept.rooms_now" jD f fd)(O:Ow K mg) :cV P w K mg base (hV P w) 1 f fd mB (iy K mg 1 f7):=
 bP (k:=0) F q_ rfl fun e_ A outer s H E hr=>(aH (bq (fZ O.Kept (ae 0))))
def t8:FS:=(cU (e2 bu (e2 bu (im "Kept" "machine" (ag 0)) (eI 1)) (Ex (ef (e2 DU (bE dG (ai (im "Kept" "rooms" (ag 0)) aD)) (eI 0))) (e2 bu (im "Kept" "rooms" (ag 0)) (zy (eI 1))) (eI 0))))
def gG:List W->List ao->R W:=cY 1 t8
theorem sQ(F:iw K "lets_now" "Kept.lets_now" j8 f fd)(B:Bl mg)(O:Ow K mg) :cV P w K mg base (hV P w) 1 f fd nF (iy K mg 1 gG):=
 bP (k:=0) F sK rfl fun e_ A outer s H E hr=>(aH (bq (bb (bb (fZ O.Kept (ae 0)) aA) (Bt (ca vX (bS dZ B.len bK (af (fZ O.Kept (ae 0)) ax)) aA) (bb (fZ O.Kept (ae 0)) (C0 aA)) aA))))
def Qh:FS:=(aN (fN (ef (e2 iE (bE dG (ai (ag 0) aD)) (eI 0))) (cU (eI 0)) bT) (cU (e2 bu (ag 0) (e2 iD (ag 1) (bE dG (ai (ag 0) aD))))))
def lJ:List W->List ao->R W:=cY 2 Qh
theorem Nc(F:iw K "_law_cell" "_law_cell" F9 f fd)(B:Bl mg) :cV P w K mg base (hV P w) 1 f fd Kp (iy K mg 2 lJ):=
 bP (k:=0) F MX rfl fun e_ A outer s H E hr=>(av (cy (ca (gN hr) (bS dZ B.len bK (af (ae 0) ax)) aA) (aH (bq aA)) bO) (aH (bq (bb (ae 0) (bD gY (ae 1) (bS dZ B.len bK (af (ae 0) ax)))))))
def Qi:FS:=(aN (be 3 (e2 iD (e2 ij (e2 cK (e2 cK (e2 cK (ag 0) (e2 ij (e2 ij (eI 7) (ag 1)) (ag 1))) (e2 ij (eI 13) (ag 1))) (ag 2)) (eI 69621)) (eI 2147483647))) (cU (e2 iD (e2 ij (e2 iD (e2 cK (e2 cK (e2 ij (ag 3) (e2 cK (e2 tD (ag 3) (eI 1009)) (eI 3))) (e2 ij (eI 31) (ag 1))) (ag 2)) (eI 2147483629)) (eI 48271)) (eI 1000000007))))
def tN:List W->List ao->R W:=cY 4 Qi
theorem Nd(F:iw K "_law_mixed" "_law_mixed" F_ f fd)  :cV P w K mg base (hV P w) 1 f fd Kq (iy K mg 3 tN):=
 bP (k:=0) F F' rfl fun e_ A outer s H E hr=>(av (sS 3 F' (bD gY (bD je (bD cD (bD cD (bD cD (ae 0) (bD je (bD je aA (ae 1)) (ae 1))) (bD je aA (ae 1))) (ae 2)) aA) aA)) (aH (bq (bD gY (bD je (bD gY (bD cD (bD cD (bD je (ae 3) (bD cD (bD sg (ae 3) aA) aA)) (bD je aA (ae 1))) (ae 2)) aA) aA) aA))))
def KO:FS:=(aN (be 3 (jX aD)) (aN (be 4 (eI 0)) (aN (fN (ef (e2 Mp (ag 0) (e2 Pc (eI 10) (eI 18)))) (be 4 (ag 0)) bT) (aN (lh (dC (ai (ag 1) aD)) (jy 5) (fN (ef (e2 DU (ag 4) (eI 0))) (aN (c5 (kQ bM (ag 3) (ai (e2 iD (ag 4) (eI 64)) aD))) (be 4 (e2 tD (ag 4) (eI 64)))) (c5 (kQ bM (ag 3) (ai (cx 3 tN (ai (ag 0) (ai (ag 5) (ai (ag 2) aD)))) aD))))) (cU (ag 3))))))
def kS:List W->List ao->R W:=cY 6 KO
theorem Nf(F:iw K "_law_draws" "_law_draws" Ga f fd)(B:Bl mg)(xn:bV P w K mg base 1 "_law_mixed" 3 tN):cV P w K mg base (hV P w) 2 f fd Kr (iy K mg 3 kS):=
 bP (k:=1) F sL rfl fun e_ A outer s H E hr=>(av (sS 3 sL (iC ax)) (av (sS 4 sL aA) (av (cy (ca I_ (ae 0) (bD Pe aA aA)) (aH (sS 4 sL (ae 0))) bO) (av (gZ (gJ B.range (af (ae 1) ax)) (sG 5 sL) (aH (cy (ca vX (ae 4) aA) (av (cF (li PySem.F.slot_list_append PySem.F.type_list_append cP (ae 3) (af (bD gY (ae 4) aA) ax))) (aH (sS 4 sL (bD sg (ae 4) aA)))) (aH (cF (li PySem.F.slot_list_append PySem.F.type_list_append cP (ae 3) (af (bW xn hr (by omega) (af (ae 0) (af (ae 5) (af (ae 2) ax)))) ax))))))) (aH (bq (ae 3)))))))
def Ac(QH:List W->List ao->R W):FS:=(aN (fN (ef (u5 "tuple" (ag 1))) (aN (fN (Ew (DR (ef (u5 "tuple" (ag 0)))) (ef (e2 J7 (bE dG (ai (ag 0) aD)) (bE dG (ai (ag 1) aD))))) (cU (eC (.bl false))) bT) (aN (lh (dC (ai (bE dG (ai (ag 1) aD)) aD)) (jy 2) (fN (DR (ef (cx 2 QH (ai (e2 bu (ag 0) (ag 2)) (ai (e2 bu (ag 1) (ag 2)) aD))))) (cU (eC (.bl false))) bT)) (cU (eC (.bl true))))) bT) (aN (fN (ef (xK (ag 1))) (cU (xK (ag 0))) bT) (aN (fN (ef (u5 "bool" (ag 1))) (cU (Bs (u5 "bool" (ag 0)) (e2 iE (ag 0) (ag 1)))) bT) (aN (fN (ef (u5 "int" (ag 1))) (cU (Bs (u5 "int" (ag 0)) (Bs (IY (u5 "bool" (ag 0))) (e2 iE (ag 0) (ag 1))))) bT) (cU (Bs (u5 "str" (ag 0)) (e2 iE (ag 0) (ag 1))))))))
def kz:Nat->List W->List ao->R W
 |0=>fun _ _=>.bad
 |k+1=>cY 3 (Ac (kz k))
theorem C_{HB:Addr}{NV:FuncData}(xk:iw K "_law_same" "_law_same" Gb HB NV)(AO:mg "_law_same"=some (.ref HB))(B:Bl mg) :∀k:Nat,bV P w K mg base (0+k) "_law_same" 2 (kz k)
 |0=>FB (ps:=Gd) xk AO rfl (fun _ _ _ _ _ _ us hl=>match us,hl with|[_,_],_=>rfl)
 |k+1=>by
  have vK:=C_ xk AO B  k
  exact xL (ps:=Gd) xk AO rfl (fun _ _ _ _ _ _ us hl=>match us,hl with|[_,_],_=>rfl) (bP (k:=0+k) xk Ge rfl fun e_ A outer s H E hr=>(av (cy (jx (tI B.isinstance B.tuple eN (ae 1))) (av (cy (Br (CP (p_ (jx (tI B.isinstance B.tuple eN (ae 0)))) (xJ (ca (Pg hr) (bS dZ B.len bK (af (ae 0) ax)) (bS dZ B.len bK (af (ae 1) ax)))))) (aH (bq vV)) bO) (av (gZ (gJ B.range (af (bS dZ B.len bK (af (ae 1) ax)) ax)) (sG 2 Ge) (aH (cy (p_ (jx (bW vK hr (by omega) (af (bb (ae 0) (ae 2)) (af (bb (ae 1) (ae 2)) ax))))) (aH (bq vV)) bO))) (aH (bq vV)))) bO) (av (cy (Bu (ae 1)) (aH (bq (O9 (ae 0)))) bO) (av (cy (jx (tI B.isinstance B.bool tj (ae 1))) (aH (bq (CQ (tI B.isinstance B.bool tj (ae 0)) (Fh (qE (gN hr) (ae 0) (ae 1)))))) bO) (av (cy (jx (tI B.isinstance B.int oX (ae 1))) (aH (bq (CQ (tI B.isinstance B.int oX (ae 0)) (CQ (O8 (tI B.isinstance B.bool tj (ae 0))) (Fh (qE (gN hr) (ae 0) (ae 1))))))) bO) (aH (bq (CQ (tI B.isinstance B.str boot_str (ae 0)) (Fh (qE (gN hr) (ae 0) (ae 1)))))))))))
def KP:FS:=(aN (be 3 (eC (.str [65,66,67,68,69,70,71,72,73,74,75,76,77,78,79,80,81,82,83,84,85,86,87,88,89,90,97,98,99,100,101,102,103,104,105,106,107,108,109,110,111,112,113,114,115,116,117,118,119,120,121,122]))) (aN (be 4 (eC (.str []))) (aN (lh (gD (cx 3 kS (ai (ag 0) (ai (ag 1) (ai (ag 2) aD))))) (jy 5) (aN (be 6 (e2 iD (ag 5) (bE dG (ai (ag 3) aD)))) (aN (be 4 (e2 cK (ag 4) (e2 bu (ag 3) (ag 6)))) (be 3 (e2 cK (qA (ag 3) gC (eJ (ag 6))) (qA (ag 3) (eJ (e2 cK (ag 6) (eI 1))) gC)))))) (cU (ag 4)))))
def w4:List W->List ao->R W:=cY 7 KP
theorem Ng(F:iw K "_law_pool" "_law_pool" Gf f fd)(B:Bl mg)(oN:bV P w K mg base 2 "_law_draws" 3 kS):cV P w K mg base (hV P w) 3 f fd Ks (iy K mg 3 w4):=
 bP (k:=2) F ql rfl fun e_ A outer s H E hr=>(av (sS 3 ql fQ) (av (sS 4 ql fQ) (av (gZ (lY (bW oN hr (by omega) (af (ae 0) (af (ae 1) (af (ae 2) ax))))) (sG 5 ql) (av (sS 6 ql (bD gY (ae 5) (bS dZ B.len bK (af (ae 3) ax)))) (av (sS 4 ql (bD cD (ae 4) (bb (ae 3) (ae 6)))) (aH (sS 3 ql (bD cD (kO (ae 3) eR (de (ae 6))) (kO (ae 3) (de (bD cD (ae 6) aA)) eR))))))) (aH (bq (ae 4))))))
def KQ:FS:=(cU (HX nv (eC (.str [])) (ai (bE jY (ai (jO [none,some 0,some 1] (dC (ai (bE dG (ai (ag 0) aD)) aD)) (jy 0) (ef (e2 iE (e2 Fk (e2 Mm (ag 2) (ag 0)) (eI 1)) (eI 1))) (e2 bu (ag 1) (ag 0))) aD)) aD)))
def Ad:List W->List ao->R W:=cY 2 KQ
theorem Nh(F:iw K "_law_marks" "_law_marks" Gh f fd)(B:Bl mg) :cV P w K mg base (hV P w) 1 f fd Kt (iy K mg 2 Ad):=
 bP (k:=0) F MY rfl fun e_ A outer s H E hr=>(aH (bq (Jd PySem.F.slot_str_join PySem.F.type_str_join ui fQ (af (bS xP B.sorted oV (af (BC (nm:=["_law_k","_law_pool_here","_law_number"]) (cap:=[none,some 0,some 1]) (by first|rfl|kernel_rfl) rfl (gJ B.range (af (bS dZ B.len bK (af (ae 0) ax)) ax)) (fun _ _ _ _ _=>(sC 0)) (fun _ _ _ _ _=>(CY (ca (gN hr) (bD Mn (bD Pf (ae 2) (ae 0)) aA) aA))) (fun _ _ _ _ _=>(bb (ae 1) (ae 0)))) ax)) ax))))
def KR:FS:=(aN (be 2 (jX aD)) (aN (be 3 (eI 0)) (aN (lh (gD (ag 0)) (jy 4) (aN (be 5 (e2 iD (ag 4) (eI 4))) (aN (fN (ef (e2 DU (e2 tD (e2 cK (ag 5) (eI 1)) (eI 2)) (ag 3))) (be 5 (eI 0)) bT) (aN (c5 (kQ bM (ag 2) (ai (gB (ai (ag 5) (ai (cx 2 Ad (ai (ag 1) (ai (e2 iD (e2 tD (ag 4) (eI 4)) (eI 16)) aD))) aD))) aD))) (be 3 (e2 mP (e2 cK (ag 3) (eI 1)) (e2 tD (e2 cK (ag 5) (eI 1)) (eI 2)))))))) (aN (om (ef (e2 DU (ag 3) (eI 1))) (aN (c5 (kQ bM (ag 2) (ai (gB (ai (eI 3) (ai (e2 bu (e2 bu (ag 2) (e2 mP (ag 3) (eI 1))) (eI 1)) aD))) aD))) (be 3 (e2 mP (ag 3) (eI 1))))) (cU (bE ik (ai (ag 2) aD)))))))
def vq:List W->List ao->R W:=cY 6 KR
theorem Ni(F:iw K "_law_tree" "_law_tree" Gi f fd)(B:Bl mg)(Ho:bV P w K mg base 1 "_law_marks" 2 Ad):cV P w K mg base (hV P w) 2 f fd Ku (iy K mg 2 vq):=
 bP (k:=1) F oE rfl fun e_ A outer s H E hr=>(av (sS 2 oE (iC ax)) (av (sS 3 oE aA) (av (gZ (lY (ae 0)) (sG 4 oE) (av (sS 5 oE (bD gY (ae 4) aA)) (av (cy (ca vX (bD sg (bD cD (ae 5) aA) aA) (ae 3)) (aH (sS 5 oE aA)) bO) (av (cF (li PySem.F.slot_list_append PySem.F.type_list_append cP (ae 2) (af (eW (af (ae 5) (af (bW Ho hr (by omega) (af (ae 1) (af (bD gY (bD sg (ae 4) aA) aA) ax))) ax))) ax))) (aH (sS 3 oE (bD lE (bD cD (ae 3) aA) (bD sg (bD cD (ae 5) aA) aA)))))))) (av (zw (ca vX (ae 3) aA) (av (cF (li PySem.F.slot_list_append PySem.F.type_list_append cP (ae 2) (af (eW (af aA (af (bb (bb (ae 2) (bD lE (ae 3) aA)) aA) ax))) ax))) (aH (sS 3 oE (bD lE (ae 3) aA))))) (aH (bq (fJ jM B.tuple eN (af (ae 2) ax))))))))
def KS:FS:=(aN (be 1 (jX aD)) (aN (be 2 (jX aD)) (aN (lh (dC (ai (bE dG (ai (ag 0) aD)) aD)) (jy 3) (aN (be 4 (eC .non)) (aN (be 5 (eC .non)) (aN (fN (ef (e2 Mp (e2 bu (e2 bu (ag 0) (ag 3)) (eI 0)) (eI 2))) (be 5 (kQ ms (ag 1) aD)) bT) (aN (fN (ef (e2 iE (e2 iD (e2 bu (e2 bu (ag 0) (ag 3)) (eI 0)) (eI 2)) (eI 1))) (be 4 (kQ ms (ag 1) aD)) bT) (aN (c5 (kQ bM (ag 2) (ai (gB (ai (ag 4) (ai (ag 5) aD))) aD))) (c5 (kQ bM (ag 1) (ai (ag 3) aD))))))))) (cU (ag 2)))))
def Ae:List W->List ao->R W:=cY 6 KS
theorem Nj(F:iw K "_law_links" "_law_links" Gj f fd)(B:Bl mg) :cV P w K mg base (hV P w) 1 f fd Kv (iy K mg 1 Ae):=
 bP (k:=0) F oF rfl fun e_ A outer s H E hr=>(av (sS 1 oF (iC ax)) (av (sS 2 oF (iC ax)) (av (gZ (gJ B.range (af (bS dZ B.len bK (af (ae 0) ax)) ax)) (sG 3 oF) (av (sS 4 oF pI) (av (sS 5 oF pI) (av (cy (ca I_ (bb (bb (ae 0) (ae 3)) aA) aA) (aH (sS 5 oF (pN PySem.F.slot_list_pop PySem.F.type_list_pop lX (ae 1)))) bO) (av (cy (ca (gN hr) (bD gY (bb (bb (ae 0) (ae 3)) aA) aA) aA) (aH (sS 4 oF (pN PySem.F.slot_list_pop PySem.F.type_list_pop lX (ae 1)))) bO) (av (cF (li PySem.F.slot_list_append PySem.F.type_list_append cP (ae 2) (af (eW (af (ae 4) (af (ae 5) ax))) ax))) (aH (cF (li PySem.F.slot_list_append PySem.F.type_list_append cP (ae 1) (af (ae 3) ax)))))))))) (aH (bq (ae 2))))))
def KT:FS:=(aN (be 4 (bE ik (ai (jO [none,some 3] (dC (ai (ag 1) aD)) (jy 0) vZ (e2 iE (e2 iD (e2 bu (ag 1) (ag 0)) (eI 2)) (eI 1))) aD))) (aN (be 5 (jX aD)) (aN (be 6 (ag 1)) (aN (lh (dC (ai (e2 zo (eI 1) (bE dG (ai (ag 0) aD))) aD)) (jy 7) (aN (be 8 (jX aD)) (aN (lh (dC (ai (ag 1) aD)) (jy 9) (aN (c5 (kQ bM (ag 8) (ai (bE ik (ai (jO [none,some 2,some 3,some 6] (dC (ai (ag 1) aD)) (jy 0) vZ (e2 iD (e2 bu (ag 2) (e2 cK (ag 3) (ag 0))) (ag 1))) aD)) aD))) (be 6 (e2 cK (ag 6) (ag 1))))) (c5 (kQ bM (ag 5) (ai (bE ik (ai (ag 8) aD)) aD)))))) (cU (gB (ai (ag 0) (ai (ag 4) (ai (bE ik (ai (ag 5) aD)) aD)))))))))
def Af:List W->List ao->R W:=cY 10 KT
theorem Nk(F:iw K "_law_machine" "_law_machine" Gk f fd)(B:Bl mg) :cV P w K mg base (hV P w) 1 f fd Kw (iy K mg 4 Af):=
 bP (k:=0) F oG rfl fun e_ A outer s H E hr=>(av (sS 4 oG (fJ jM B.tuple eN (af (BC (nm:=["_law_k","_law_draws_here"]) (cap:=[none,some 3]) (by first|rfl|kernel_rfl) rfl (gJ B.range (af (ae 1) ax)) (fun _ _ _ _ _=>(sC 0)) (fun _ _ _ _ _=>uj) (fun _ _ _ _ _=>(qE (gN hr) (bD gY (bb (ae 1) (ae 0)) aA) aA))) ax))) (av (sS 5 oG (iC ax)) (av (sS 6 oG (ae 1)) (av (gZ (gJ B.range (af (bD J6 aA (bS dZ B.len bK (af (ae 0) ax))) ax)) (sG 7 oG) (av (sS 8 oG (iC ax)) (av (gZ (gJ B.range (af (ae 1) ax)) (sG 9 oG) (av (cF (li PySem.F.slot_list_append PySem.F.type_list_append cP (ae 8) (af (fJ jM B.tuple eN (af (BC (nm:=["_law_r","_law_top","_law_draws_here","_law_at"]) (cap:=[none,some 2,some 3,some 6]) (by first|rfl|kernel_rfl) rfl (gJ B.range (af (ae 1) ax)) (fun _ _ _ _ _=>(sC 0)) (fun _ _ _ _ _=>uj) (fun _ _ _ _ _=>(bD gY (bb (ae 2) (bD cD (ae 3) (ae 0))) (ae 1)))) ax)) ax))) (aH (sS 6 oG (bD cD (ae 6) (ae 1)))))) (aH (cF (li PySem.F.slot_list_append PySem.F.type_list_append cP (ae 5) (af (fJ jM B.tuple eN (af (ae 8) ax)) ax))))))) (aH (bq (eW (af (ae 0) (af (ae 4) (af (fJ jM B.tuple eN (af (ae 5) ax)) ax))))))))))
def KU:FS:=(aN (be 2 (eI 0)) (aN (lh (gD (ag 0)) (jy 3) (be 2 (e2 cK (e2 ij (eI 2) (ag 2)) (bE wS (ai (e2 (Ey false) (ag 3) (ag 1)) aD))))) (cU (ag 2))))
def w5:List W->List ao->R W:=cY 4 KU
theorem Nl(F:iw K "_law_letter" "_law_letter" Gm f fd)(B:Bl mg) :cV P w K mg base (hV P w) 1 f fd Kx (iy K mg 2 w5):=
 bP (k:=0) F yh rfl fun e_ A outer s H E hr=>(av (sS 2 yh aA) (av (gZ (lY (ae 0)) (sG 3 yh) (aH (sS 2 yh (bD cD (bD je aA (ae 2)) (fJ BE B.int oX (af (qE (Jb hr) (ae 3) (ae 1)) ax)))))) (aH (bq (ae 2)))))
def KW:FS:=(aN (be 2 (jX aD)) (aN (be 3 (jX aD)) (aN (lh (gD (ag 1)) (Fu 2 (fO (jy 4) (fO (jy 5) pL))) (aN (be 6 (eI 0)) (aN (be 7 (eI 0)) (aN (fN (ef (e2 Mp (ag 4) (eI 2))) (be 7 (kQ ms (ag 2) aD)) bT) (aN (fN (ef (e2 iE (e2 iD (ag 4) (eI 2)) (eI 1))) (be 6 (kQ ms (ag 2) aD)) bT) (aN (c5 (kQ bM (ag 2) (ai (e2 bu (e2 bu (e2 bu (e2 bu (ag 0) (eI 2)) (cx 2 w5 (ai (e2 bu (ag 0) (eI 0)) (ai (ag 5) aD)))) (ag 6)) (ag 7)) aD))) (c5 (kQ bM (ag 3) (ai (e2 bu (ag 2) (zy (eI 1))) aD))))))))) (cU (ag 3)))))
def vt:List W->List ao->R W:=cY 8 KW
theorem Nm(F:iw K "_law_run" "_law_run" Gn f fd) (HQ:bV P w K mg base 1 "_law_letter" 2 w5):cV P w K mg base (hV P w) 2 f fd Ky (iy K mg 2 vt):=
 bP (k:=1) F mW rfl fun e_ A outer s H E hr=>(av (sS 2 mW (iC ax)) (av (sS 3 mW (iC ax)) (av (gZ (lY (ae 1)) (mQ rfl (dL (sG 4 mW) (dL (sG 5 mW) kH))) (av (sS 6 mW aA) (av (sS 7 mW aA) (av (cy (ca I_ (ae 4) aA) (aH (sS 7 mW (pN PySem.F.slot_list_pop PySem.F.type_list_pop lX (ae 2)))) bO) (av (cy (ca (gN hr) (bD gY (ae 4) aA) aA) (aH (sS 6 mW (pN PySem.F.slot_list_pop PySem.F.type_list_pop lX (ae 2)))) bO) (av (cF (li PySem.F.slot_list_append PySem.F.type_list_append cP (ae 2) (af (bb (bb (bb (bb (ae 0) aA) (bW HQ hr (by omega) (af (bb (ae 0) aA) (af (ae 5) ax)))) (ae 6)) (ae 7)) ax))) (aH (cF (li PySem.F.slot_list_append PySem.F.type_list_append cP (ae 3) (af (bb (ae 2) (C0 aA)) ax)))))))))) (aH (bq (ae 3))))))
def KY:FS:=(aN (fN (ef (e2 iE (bE dG (ai (ag 1) aD)) (eI 0))) (cU (e2 bu (e2 bu (ag 0) (eI 1)) (eI 0))) bT) (cU (e2 bu (e2 bu (ag 0) (eI 1)) (e2 bu (cx 2 vt (ai (ag 0) (ai (ag 1) aD))) (zy (eI 1))))))
def Ag:List W->List ao->R W:=cY 2 KY
theorem Nn(F:iw K "_law_lets" "_law_lets" Gp f fd)(B:Bl mg)(xi:bV P w K mg base 2 "_law_run" 2 vt):cV P w K mg base (hV P w) 3 f fd Kz (iy K mg 2 Ag):=
 bP (k:=2) F MZ rfl fun e_ A outer s H E hr=>(av (cy (ca (gN hr) (bS dZ B.len bK (af (ae 1) ax)) aA) (aH (bq (bb (bb (ae 0) aA) aA))) bO) (aH (bq (bb (bb (ae 0) aA) (bb (bW xi hr (by omega) (af (ae 0) (af (ae 1) ax))) (C0 aA))))))
def KZ:FS:=(aN (be 1 (jX aD)) (aN (lh (gD (ag 0)) (Fu 2 (fO (jy 2) (fO (jy 3) pL))) (aN (be 4 (eI 1)) (aN (fN (ef (gA (ag 2))) (be 4 (e2 cK (ag 4) (e2 bu (ag 1) (ag 2)))) bT) (aN (fN (ef (gA (ag 3))) (be 4 (e2 cK (ag 4) (e2 bu (ag 1) (ag 3)))) bT) (c5 (kQ bM (ag 1) (ai (ag 4) aD))))))) (cU (ag 1))))
def Ah:List W->List ao->R W:=cY 5 KZ
theorem No(F:iw K "_law_sizes" "_law_sizes" Gq f fd)  :cV P w K mg base (hV P w) 1 f fd KA (iy K mg 1 Ah):=
 bP (k:=0) F qm rfl fun e_ A outer s H E hr=>(av (sS 1 qm (iC ax)) (av (gZ (lY (ae 0)) (mQ rfl (dL (sG 2 qm) (dL (sG 3 qm) kH))) (av (sS 4 qm aA) (av (cy (iG (ae 2)) (aH (sS 4 qm (bD cD (ae 4) (bb (ae 1) (ae 2))))) bO) (av (cy (iG (ae 3)) (aH (sS 4 qm (bD cD (ae 4) (bb (ae 1) (ae 3))))) bO) (aH (cF (li PySem.F.slot_list_append PySem.F.type_list_append cP (ae 1) (af (ae 4) ax)))))))) (aH (bq (ae 1)))))
def Qj:FS:=(aN (be 2 (cx 1 Ae (ai (ag 0) aD))) (aN (be 3 (cx 1 Ah (ai (ag 2) aD))) (aN (be 4 (ag 1)) (aN (fN (ef (gA (e2 bu (e2 bu (ag 2) (ag 1)) (eI 1)))) (be 4 (e2 mP (ag 1) (e2 bu (ag 3) (e2 bu (e2 bu (ag 2) (ag 1)) (eI 1))))) bT) (aN (be 5 (ag 4)) (aN (fN (ef (gA (e2 bu (e2 bu (ag 2) (ag 1)) (eI 0)))) (be 5 (e2 mP (ag 4) (e2 bu (ag 3) (e2 bu (e2 bu (ag 2) (ag 1)) (eI 0))))) bT) (cU (gB (ai (ag 5) (ai (ag 4) aD))))))))))
def Ai:List W->List ao->R W:=cY 6 Qj
theorem Np(F:iw K "_law_bounds" "_law_bounds" Gs f fd) (HK:bV P w K mg base 1 "_law_links" 1 Ae)(Hl:bV P w K mg base 1 "_law_sizes" 1 Ah):cV P w K mg base (hV P w) 2 f fd KB (iy K mg 2 Ai):=
 bP (k:=1) F qo rfl fun e_ A outer s H E hr=>(av (sS 2 qo (bW HK hr (by omega) (af (ae 0) ax))) (av (sS 3 qo (bW Hl hr (by omega) (af (ae 2) ax))) (av (sS 4 qo (ae 1)) (av (cy (iG (bb (bb (ae 2) (ae 1)) aA)) (aH (sS 4 qo (bD lE (ae 1) (bb (ae 3) (bb (bb (ae 2) (ae 1)) aA))))) bO) (av (sS 5 qo (ae 4)) (av (cy (iG (bb (bb (ae 2) (ae 1)) aA)) (aH (sS 5 qo (bD lE (ae 4) (bb (ae 3) (bb (bb (ae 2) (ae 1)) aA))))) bO) (aH (bq (eW (af (ae 5) (af (ae 4) ax)))))))))))
def Ql:FS:=(aN (uV (cx 2 Ai (ai (ag 0) (ai (ag 1) aD))) (Fu 2 (fO (jy 4) (fO (jy 5) pL)))) (aN (be 6 (qA (ag 0) (eJ (ag 4)) (eJ (ag 5)))) (aN (be 7 (qA (ag 0) (eJ (ag 5)) (eJ (ag 1)))) (aN (fN (ef (e2 iE (ag 2) (eC (.str [108,101,102,116])))) (be 6 (ag 3)) (be 7 (ag 3))) (aN (be 8 (gB (ai (e2 cK (bE wS (ai (e2 DU (bE dG (ai (ag 6) aD)) (eI 0)) aD)) (e2 ij (eI 2) (bE wS (ai (e2 DU (bE dG (ai (ag 7) aD)) (eI 0)) aD)))) (ai (e2 bu (e2 bu (ag 0) (ag 1)) (eI 1)) aD)))) (cU (e2 cK (e2 cK (e2 cK (e2 cK (qA (ag 0) gC (eJ (ag 4))) (ag 6)) (ag 7)) (gB (ai (ag 8) aD))) (qA (ag 0) (eJ (e2 cK (ag 1) (eI 1))) gC))))))))
def Aj:List W->List ao->R W:=cY 9 Ql
theorem Nq(F:iw K "_law_branched" "_law_branched" Gu f fd)(B:Bl mg)(HN:bV P w K mg base 2 "_law_bounds" 2 Ai):cV P w K mg base (hV P w) 3 f fd KC (iy K mg 4 Aj):=
 bP (k:=2) F oH rfl fun e_ A outer s H E hr=>(av (Bx (bW HN hr (by omega) (af (ae 0) (af (ae 1) ax))) (mQ rfl (dL (sG 4 oH) (dL (sG 5 oH) kH)))) (av (sS 6 oH (kO (ae 0) (de (ae 4)) (de (ae 5)))) (av (sS 7 oH (kO (ae 0) (de (ae 5)) (de (ae 1)))) (av (cy (ca (gN hr) (ae 2) fQ) (aH (sS 6 oH (ae 3))) (aH (sS 7 oH (ae 3)))) (av (sS 8 oH (eW (af (bD cD (fJ BE B.int oX (af (qE vX (bS dZ B.len bK (af (ae 6) ax)) aA) ax)) (bD je aA (fJ BE B.int oX (af (qE vX (bS dZ B.len bK (af (ae 7) ax)) aA) ax)))) (af (bb (bb (ae 0) (ae 1)) aA) ax)))) (aH (bq (bD cD (bD cD (bD cD (bD cD (kO (ae 0) eR (de (ae 4))) (ae 6)) (ae 7)) (eW (af (ae 8) ax))) (kO (ae 0) (de (bD cD (ae 1) aA)) eR)))))))))
def K0:FS:=(aN (be 1 (cx 3 kS (ai (cx 2 lJ (ai (ag 0) (ai (eI 0) aD))) (ai (eI 4) (ai (eI 100003) aD))))) (aN (be 2 (cx 3 w4 (ai (cx 2 lJ (ai (ag 0) (ai (eI 1) aD))) (ai (eI 4) (ai (eI 200017) aD))))) (aN (be 3 (e2 cK (eI 1) (e2 iD (e2 bu (ag 1) (eI 0)) (eI 4)))) (aN (be 4 (HX nv (eC (.str [])) (ai (bE jY (ai (qA (ag 2) gC (eJ (e2 iD (e2 bu (ag 1) (eI 1)) (eI 3)))) aD)) aD))) (aN (fN (ef (e2 iE (ag 3) (eI 4))) (be 4 (qA (ag 4) gC (eJ (eI 1)))) bT) (aN (be 5 (e2 cK (ag 3) (e2 ij (e2 ij (ag 3) (ag 3)) (e2 zo (eI 1) (bE dG (ai (ag 4) aD)))))) (aN (be 6 (cx 4 Af (ai (ag 4) (ai (ag 3) (ai (ag 3) (ai (cx 3 kS (ai (cx 2 lJ (ai (ag 0) (ai (eI 2) aD))) (ai (ag 5) (ai (eI 300007) aD)))) aD)))))) (aN (be 7 (e2 iD (e2 bu (ag 1) (eI 2)) (eI 8))) (aN (fN (ef (e2 iE (e2 iD (e2 bu (ag 1) (eI 3)) (eI 4)) (eI 1))) (be 7 (e2 iD (e2 bu (ag 1) (eI 2)) (eI 41))) bT) (cU (gB (ai (ag 6) (ai (cx 2 vq (ai (cx 3 kS (ai (cx 2 lJ (ai (ag 0) (ai (eI 3) aD))) (ai (ag 7) (ai (eI 400009) aD)))) (ai (ag 2) aD))) (ai (ag 2) aD))))))))))))))
def Ak:List W->List ao->R W:=cY 8 K0
theorem Nr(F:iw K "_law_start" "_law_start" Gv f fd)(B:Bl mg)(nI:bV P w K mg base 1 "_law_cell" 2 lJ)(oN:bV P w K mg base 2 "_law_draws" 3 kS)(HS:bV P w K mg base 1 "_law_machine" 4 Af)(Hu:bV P w K mg base 3 "_law_pool" 3 w4)(xo:bV P w K mg base 2 "_law_tree" 2 vq):cV P w K mg base (hV P w) 4 f fd KD (iy K mg 1 Ak):=
 bP (k:=3) F l8 rfl fun e_ A outer s H E hr=>(av (sS 1 l8 (bW oN hr (by omega) (af (bW nI hr (by omega) (af (ae 0) (af aA ax))) (af aA (af aA ax))))) (av (sS 2 l8 (bW Hu hr (by omega) (af (bW nI hr (by omega) (af (ae 0) (af aA ax))) (af aA (af aA ax))))) (av (sS 3 l8 (bD cD aA (bD gY (bb (ae 1) aA) aA))) (av (sS 4 l8 (Jd PySem.F.slot_str_join PySem.F.type_str_join ui fQ (af (bS xP B.sorted oV (af (kO (ae 2) eR (de (bD gY (bb (ae 1) aA) aA))) ax)) ax))) (av (cy (ca (gN hr) (ae 3) aA) (aH (sS 4 l8 (kO (ae 4) eR (de aA)))) bO) (av (sS 5 l8 (bD cD (ae 3) (bD je (bD je (ae 3) (ae 3)) (bD J6 aA (bS dZ B.len bK (af (ae 4) ax)))))) (av (sS 6 l8 (bW HS hr (by omega) (af (ae 4) (af (ae 3) (af (ae 3) (af (bW oN hr (by omega) (af (bW nI hr (by omega) (af (ae 0) (af aA ax))) (af (ae 5) (af aA ax)))) ax)))))) (av (sS 7 l8 (bD gY (bb (ae 1) aA) aA)) (av (cy (ca (gN hr) (bD gY (bb (ae 1) aA) aA) aA) (aH (sS 7 l8 (bD gY (bb (ae 1) aA) aA))) bO) (aH (bq (eW (af (ae 6) (af (bW xo hr (by omega) (af (bW oN hr (by omega) (af (bW nI hr (by omega) (af (ae 0) (af aA ax))) (af (ae 7) (af aA ax)))) (af (ae 2) ax))) (af (ae 2) ax)))))))))))))))
def K1:FS:=(aN (be 5 (cx 3 kS (ai (cx 2 lJ (ai (ag 0) (ai (e2 cK (eI 4) (ag 1)) aD))) (ai (eI 12) (ai (e2 cK (eI 500009) (e2 ij (eI 101) (ag 1))) aD))))) (aN (be 6 (cx 2 vq (ai (qA (ag 5) (eJ (eI 6)) (eJ (e2 cK (eI 6) (e2 iD (e2 bu (ag 5) (eI 5)) (eI 6))))) (ai (ag 4) aD)))) (aN (be 7 (e2 iD (e2 bu (ag 5) (eI 0)) (ag 2))) (aN (fN (ef (e2 iE (ag 7) (eI 8))) (cU (gB (ai (eC (.str [98,97,99,107])) aD))) bT) (aN (fN (ef (e2 iE (ag 7) (eI 9))) (cU (gB (ai (eC (.str [97,103,97,105,110])) aD))) bT) (aN (fN (Ew (ef (e2 iE (ag 7) (eI 7))) (ef (e2 iE (bE dG (ai (ag 3) aD)) (eI 0)))) (cU (gB (ai (eC (.str [119,104,111,108,101])) (ai (ag 6) aD)))) bT) (aN (be 8 (e2 iD (e2 cK (e2 ij (eI 64) (e2 bu (ag 5) (eI 1))) (e2 bu (ag 5) (eI 2))) (bE dG (ai (ag 3) aD)))) (aN (fN (ef (e2 Mo (ag 7) (eI 4))) (cU (gB (ai (e2 bu (jX (ai (eC (.str [112,117,116])) (ai (eC (.str [116,97,107,101])) aD))) (e2 tD (ag 7) (eI 2))) (ai (ag 8) (ai (e2 bu (ag 4) (e2 iD (e2 bu (ag 5) (eI 3)) (eI 4))) aD))))) bT) (cU (gB (ai (eC (.str [98,114,97,110,99,104])) (ai (ag 8) (ai (e2 bu (jX (ai (eC (.str [108,101,102,116])) (ai (eC (.str [114,105,103,104,116])) aD))) (e2 iD (e2 bu (ag 5) (eI 4)) (eI 2))) (ai (ag 6) aD))))))))))))))
def mC:List W->List ao->R W:=cY 9 K1
theorem Nt(F:iw K "_law_planned" "_law_planned" Gw f fd)(B:Bl mg)(nI:bV P w K mg base 1 "_law_cell" 2 lJ)(oN:bV P w K mg base 2 "_law_draws" 3 kS)(xo:bV P w K mg base 2 "_law_tree" 2 vq):cV P w K mg base (hV P w) 3 f fd KF (iy K mg 5 mC):=
 bP (k:=2) F vk rfl fun e_ A outer s H E hr=>(av (sS 5 vk (bW oN hr (by omega) (af (bW nI hr (by omega) (af (ae 0) (af (bD cD aA (ae 1)) ax))) (af aA (af (bD cD aA (bD je aA (ae 1))) ax))))) (av (sS 6 vk (bW xo hr (by omega) (af (kO (ae 5) (de aA) (de (bD cD aA (bD gY (bb (ae 5) aA) aA)))) (af (ae 4) ax)))) (av (sS 7 vk (bD gY (bb (ae 5) aA) (ae 2))) (av (cy (ca (gN hr) (ae 7) aA) (aH (bq (eW (af fQ ax)))) bO) (av (cy (ca (gN hr) (ae 7) aA) (aH (bq (eW (af fQ ax)))) bO) (av (cy (Br (CP (ca (gN hr) (ae 7) aA) (xJ (ca (gN hr) (bS dZ B.len bK (af (ae 3) ax)) aA)))) (aH (bq (eW (af fQ (af (ae 6) ax))))) bO) (av (sS 8 vk (bD gY (bD cD (bD je aA (bb (ae 5) aA)) (bb (ae 5) aA)) (bS dZ B.len bK (af (ae 3) ax)))) (av (cy (ca w_lt (ae 7) aA) (aH (bq (eW (af (bb (iC (af fQ (af fQ ax))) (bD sg (ae 7) aA)) (af (ae 8) (af (bb (ae 4) (bD gY (bb (ae 5) aA) aA)) ax)))))) bO) (aH (bq (eW (af fQ (af (ae 8) (af (bb (iC (af fQ (af fQ ax))) (bD gY (bb (ae 5) aA) aA)) (af (ae 6) ax)))))))))))))))
def Qm:FS:=(aN (fN (ef (e2 iE (e2 bu (ag 1) (eI 0)) (eC (.str [119,104,111,108,101])))) (cU (e2 bu (ag 1) (eI 1))) bT) (aN (fN (ef (e2 iE (e2 bu (ag 1) (eI 0)) (eC (.str [98,114,97,110,99,104])))) (cU (cx 4 Aj (ai (ag 0) (ai (e2 bu (ag 1) (eI 1)) (ai (e2 bu (ag 1) (eI 2)) (ai (e2 bu (ag 1) (eI 3)) aD)))))) bT) (aN (uV (e2 bu (ag 0) (e2 bu (ag 1) (eI 1))) (Fu 2 (fO (jy 2) (fO (jy 3) pL)))) (aN (uV (jO [none,some 1] (gD (ag 3)) (jy 0) (ef (e2 J7 (ag 0) (e2 bu (ag 1) (eI 2)))) (ag 0)) (jy 3)) (aN (fN (ef (e2 iE (e2 bu (ag 1) (eI 0)) (eC (.str [112,117,116])))) (c5 (kQ bM (ag 3) (ai (e2 bu (ag 1) (eI 2)) aD))) bT) (cU (e2 cK (e2 cK (qA (ag 0) gC (eJ (e2 bu (ag 1) (eI 1)))) (gB (ai (gB (ai (ag 2) (ai (HX nv (eC (.str [])) (ai (bE jY (ai (ag 3) aD)) aD)) aD))) aD))) (qA (ag 0) (eJ (e2 cK (e2 bu (ag 1) (eI 1)) (eI 1))) gC))))))))
def pT:List W->List ao->R W:=cY 4 Qm
theorem Nu(F:iw K "_law_changed" "_law_changed" Gx f fd)(B:Bl mg)(HC:bV P w K mg base 3 "_law_branched" 4 Aj):cV P w K mg base (hV P w) 4 f fd KG (iy K mg 2 pT):=
 bP (k:=3) F yk rfl fun e_ A outer s H E hr=>(av (cy (ca (gN hr) (bb (ae 1) aA) fQ) (aH (bq (bb (ae 1) aA))) bO) (av (cy (ca (gN hr) (bb (ae 1) aA) fQ) (aH (bq (bW HC hr (by omega) (af (ae 0) (af (bb (ae 1) aA) (af (bb (ae 1) aA) (af (bb (ae 1) aA) ax))))))) bO) (av (Bx (bb (ae 0) (bb (ae 1) aA)) (mQ rfl (dL (sG 2 yk) (dL (sG 3 yk) kH)))) (av (qe (sG 3 yk) (nm:=["_law_letter_here","_law_deed"]) (cap:=[none,some 1]) (by first|rfl|kernel_rfl) rfl (lY (ae 3)) (fun _ _ _ _ _=>(sC 0)) (fun _ _ _ _ _=>(CY (ca (Pg hr) (ae 0) (bb (ae 1) aA)))) (fun _ _ _ _ _=>(ae 0))) (av (cy (ca (gN hr) (bb (ae 1) aA) fQ) (aH (cF (li PySem.F.slot_list_append PySem.F.type_list_append cP (ae 3) (af (bb (ae 1) aA) ax)))) bO) (aH (bq (bD cD (bD cD (kO (ae 0) eR (de (bb (ae 1) aA))) (eW (af (eW (af (ae 2) (af (Jd PySem.F.slot_str_join PySem.F.type_str_join ui fQ (af (bS xP B.sorted oV (af (ae 3) ax)) ax)) ax))) ax))) (kO (ae 0) (de (bD cD (bb (ae 1) aA) aA)) eR)))))))))
def Qn:FS:=(aN (fN (ef (e2 iE (e2 bu (ag 1) (eI 0)) (eC (.str [112,117,116])))) (cU (iF "Kept" "put" 3 jF (ag 0) (ai (e2 bu (ag 1) (eI 1)) (ai (e2 bu (ag 1) (eI 2)) aD)))) bT) (aN (fN (ef (e2 iE (e2 bu (ag 1) (eI 0)) (eC (.str [116,97,107,101])))) (cU (iF "Kept" "take" 3 iY (ag 0) (ai (e2 bu (ag 1) (eI 1)) (ai (e2 bu (ag 1) (eI 2)) aD)))) bT) (aN (fN (ef (e2 iE (e2 bu (ag 1) (eI 0)) (eC (.str [98,114,97,110,99,104])))) (cU (iF "Kept" "branch" 4 gK (ag 0) (ai (e2 bu (ag 1) (eI 1)) (ai (e2 bu (ag 1) (eI 2)) (ai (e2 bu (ag 1) (eI 3)) aD))))) bT) (aN (fN (ef (e2 iE (e2 bu (ag 1) (eI 0)) (eC (.str [119,104,111,108,101])))) (cU (iF "Kept" "whole" 2 ia (ag 0) (ai (e2 bu (ag 1) (eI 1)) aD))) bT) (aN (fN (ef (e2 iE (e2 bu (ag 1) (eI 0)) (eC (.str [98,97,99,107])))) (cU (iF "Kept" "back" 1 iZ (ag 0) aD)) bT) (cU (iF "Kept" "again" 1 ib (ag 0) aD)))))))
def mD:List W->List ao->R W:=cY 2 Qn
theorem Nv(F:iw K "_law_doing" "_law_doing" Gy f fd) (m8:g_ P w K mg base 8 "Kept" "again" 1 ib)(oP:g_ P w K mg base 8 "Kept" "back" 1 iZ)(md:g_ P w K mg base 9 "Kept" "branch" 4 gK)(qs:g_ P w K mg base 10 "Kept" "put" 3 jF)(oO:g_ P w K mg base 10 "Kept" "take" 3 iY)(m7:g_ P w K mg base 9 "Kept" "whole" 2 ia):cV P w K mg base (hV P w) 11 f fd KH (iy K mg 2 mD):=
 bP (k:=10) F M0 rfl fun e_ A outer s H E hr=>(av (cy (ca (gN hr) (bb (ae 1) aA) fQ) (aH (bq (j3 qs hr (by omega) (ae 0) (af (bb (ae 1) aA) (af (bb (ae 1) aA) ax))))) bO) (av (cy (ca (gN hr) (bb (ae 1) aA) fQ) (aH (bq (j3 oO hr (by omega) (ae 0) (af (bb (ae 1) aA) (af (bb (ae 1) aA) ax))))) bO) (av (cy (ca (gN hr) (bb (ae 1) aA) fQ) (aH (bq (j3 md hr (by omega) (ae 0) (af (bb (ae 1) aA) (af (bb (ae 1) aA) (af (bb (ae 1) aA) ax)))))) bO) (av (cy (ca (gN hr) (bb (ae 1) aA) fQ) (aH (bq (j3 m7 hr (by omega) (ae 0) (af (bb (ae 1) aA) ax)))) bO) (av (cy (ca (gN hr) (bb (ae 1) aA) fQ) (aH (bq (qN oP hr (by omega) (ae 0)))) bO) (aH (bq (qN m8 hr (by omega) (ae 0)))))))))
def Qo:FS:=(aN (lh (dC (ai (eI 3) aD)) (jy 4) (aN (be 5 (e2 iD (e2 cK (ag 3) (ag 4)) (eI 3))) (aN (fN (HW (ef (e2 iE (ag 5) (eI 0))) (DR (ef (cx 2 (kz 40) (ai (iF "Kept" "rooms_now" 1 f7 (ag 0) aD) (ai (bE ik (ai (cx 2 vt (ai (ag 1) (ai (ag 2) aD))) aD)) aD)))))) (cU (eC (.bl false))) bT) (aN (fN (HW (ef (e2 iE (ag 5) (eI 1))) (DR (ef (cx 2 (kz 40) (ai (iF "Kept" "lets_now" 1 gG (ag 0) aD) (ai (cx 2 Ag (ai (ag 1) (ai (ag 2) aD))) aD)))))) (cU (eC (.bl false))) bT) (fN (HW (ef (e2 iE (ag 5) (eI 2))) (DR (ef (cx 2 (kz 40) (ai (iF "Kept" "tree_now" 1 gF (ag 0) aD) (ai (ag 2) aD)))))) (cU (eC (.bl false))) bT))))) (cU (eC (.bl true))))
def tO:List W->List ao->R W:=cY 6 Qo
theorem Nw(F:iw K "_law_stands" "_law_stands" Gz f fd)(B:Bl mg)(j':g_ P w K mg base 1 "Kept" "lets_now" 1 gG)(jG:g_ P w K mg base 1 "Kept" "rooms_now" 1 f7)(j_:g_ P w K mg base 1 "Kept" "tree_now" 1 gF)(HP:bV P w K mg base 3 "_law_lets" 2 Ag)(xi:bV P w K mg base 2 "_law_run" 2 vt)(vK:bV P w K mg base 40 "_law_same" 2 (kz 40)):cV P w K mg base (hV P w) 41 f fd KI (iy K mg 4 tO):=
 bP (k:=40) F BS rfl fun e_ A outer s H E hr=>(av (gZ (gJ B.range (af aA ax)) (sG 4 BS) (av (sS 5 BS (bD gY (bD cD (ae 3) (ae 4)) aA)) (av (cy (Br (Bq (ca (gN hr) (ae 5) aA) (xI (p_ (jx (bW vK hr (by omega) (af (qN jG hr (by omega) (ae 0)) (af (fJ jM B.tuple eN (af (bW xi hr (by omega) (af (ae 1) (af (ae 2) ax))) ax)) ax)))))))) (aH (bq vV)) bO) (av (cy (Br (Bq (ca (gN hr) (ae 5) aA) (xI (p_ (jx (bW vK hr (by omega) (af (qN j' hr (by omega) (ae 0)) (af (bW HP hr (by omega) (af (ae 1) (af (ae 2) ax))) ax)))))))) (aH (bq vV)) bO) (aH (cy (Br (Bq (ca (gN hr) (ae 5) aA) (xI (p_ (jx (bW vK hr (by omega) (af (qN j_ hr (by omega) (ae 0)) (af (ae 2) ax)))))))) (aH (bq vV)) bO)))))) (aH (bq vV)))
def K2:FS:=(aN (uV (cx 1 Ak (ai (ag 0) aD)) (Fu 3 (fO (jy 1) (fO (jy 2) (fO (jy 3) pL))))) (aN (be 4 (C4 "Kept" 3 gE (ai (ag 1) (ai (ag 2) aD)))) (aN (be 5 (cx 3 tN (ai (cx 2 lJ (ai (ag 0) (ai (eI 0) aD))) (ai (eI 0) (ai (eI 600011) aD))))) (aN (fN (DR (ef (cx 4 tO (ai (ag 4) (ai (ag 1) (ai (ag 2) (ai (ag 5) aD))))))) (cU (eC (.bl false))) bT) (aN (be 6 (jX aD)) (aN (be 7 (jX aD)) (aN (lh (dC (ai (bE DW (ai (eI 59) (ai (bE Bv (ai (eI 3) (ai (e2 mP (bE dG (ai (ag 0) aD)) (eI 4)) aD))) aD))) aD)) (jy 8) (aN (be 9 (cx 5 mC (ai (ag 0) (ai (ag 8) (ai (eI 10) (ai (ag 2) (ai (ag 3) aD))))))) (aN (fN (ef (e2 iE (e2 bu (ag 9) (eI 0)) (eC (.str [98,97,99,107])))) (aN (fN (ef (e2 iE (bE dG (ai (ag 6) aD)) (eI 0))) uU bT) (aN (c5 (kQ bM (ag 7) (ai (ag 2) aD))) (be 2 (kQ ms (ag 6) aD)))) (fN (ef (e2 iE (e2 bu (ag 9) (eI 0)) (eC (.str [97,103,97,105,110])))) (aN (fN (ef (e2 iE (bE dG (ai (ag 7) aD)) (eI 0))) uU bT) (aN (c5 (kQ bM (ag 6) (ai (ag 2) aD))) (be 2 (kQ ms (ag 7) aD)))) (aN (be 10 (cx 2 pT (ai (ag 2) (ai (ag 9) aD)))) (aN (fN (ef (e2 DU (bE dG (ai (ag 10) aD)) (eI 100))) uU bT) (aN (c5 (kQ bM (ag 6) (ai (ag 2) aD))) (aN (be 7 (jX aD)) (be 2 (ag 10)))))))) (fN (Ew (ef (gA (cx 2 mD (ai (ag 4) (ai (ag 9) aD))))) (DR (ef (cx 4 tO (ai (ag 4) (ai (ag 1) (ai (ag 2) (ai (e2 cK (ag 5) (ag 8)) aD)))))))) (cU (eC (.bl false))) bT)))) (cU (eC (.bl true))))))))))
def f_q42:List W->List ao->R W:=cY 11 K2
theorem Nx(F:iw K "law" "law" rd f fd)(B:Bl mg)(ke:Jr P w K mg base 4 "Kept" 3 gE)(nI:bV P w K mg base 1 "_law_cell" 2 lJ)(Hv:bV P w K mg base 4 "_law_changed" 2 pT)(Hr:bV P w K mg base 11 "_law_doing" 2 mD)(xn:bV P w K mg base 1 "_law_mixed" 3 tN)(Hk:bV P w K mg base 3 "_law_planned" 5 mC)(Dk:bV P w K mg base 41 "_law_stands" 4 tO)(HM:bV P w K mg base 4 "_law_start" 1 Ak):cV P w K mg base (hV P w) 42 f fd GA (iy K mg 1 f_q42):=
 bP (k:=41) F iP rfl fun e_ A outer s H E hr=>(av (Bx (bW HM hr (by omega) (af (ae 0) ax)) (mQ rfl (dL (sG 1 iP) (dL (sG 2 iP) (dL (sG 3 iP) kH))))) (av (sS 4 iP (MA ke hr (by omega) (af (ae 1) (af (ae 2) ax)))) (av (sS 5 iP (bW xn hr (by omega) (af (bW nI hr (by omega) (af (ae 0) (af aA ax))) (af aA (af aA ax))))) (av (cy (p_ (jx (bW Dk hr (by omega) (af (ae 4) (af (ae 1) (af (ae 2) (af (ae 5) ax))))))) (aH (bq vV)) bO) (av (sS 6 iP (iC ax)) (av (sS 7 iP (iC ax)) (av (gZ (gJ B.range (af (bS Pk B.min boot_min (af aA (af (bS Pj B.max boot_max (af aA (af (bD lE (bS dZ B.len bK (af (ae 0) ax)) aA) ax))) ax))) ax)) (sG 8 iP) (av (sS 9 iP (bW Hk hr (by omega) (af (ae 0) (af (ae 8) (af aA (af (ae 2) (af (ae 3) ax))))))) (av (cy (ca (gN hr) (bb (ae 9) aA) fQ) (av (cy (ca (gN hr) (bS dZ B.len bK (af (ae 6) ax)) aA) (aH ol) bO) (av (cF (li PySem.F.slot_list_append PySem.F.type_list_append cP (ae 7) (af (ae 2) ax))) (aH (sS 2 iP (pN PySem.F.slot_list_pop PySem.F.type_list_pop lX (ae 6)))))) (aH (cy (ca (gN hr) (bb (ae 9) aA) fQ) (av (cy (ca (gN hr) (bS dZ B.len bK (af (ae 7) ax)) aA) (aH ol) bO) (av (cF (li PySem.F.slot_list_append PySem.F.type_list_append cP (ae 6) (af (ae 2) ax))) (aH (sS 2 iP (pN PySem.F.slot_list_pop PySem.F.type_list_pop lX (ae 7)))))) (av (sS 10 iP (bW Hv hr (by omega) (af (ae 2) (af (ae 9) ax)))) (av (cy (ca vX (bS dZ B.len bK (af (ae 10) ax)) aA) (aH ol) bO) (av (cF (li PySem.F.slot_list_append PySem.F.type_list_append cP (ae 6) (af (ae 2) ax))) (av (sS 7 iP (iC ax)) (aH (sS 2 iP (ae 10)))))))))) (aH (cy (Br (CP (iG (bW Hr hr (by omega) (af (ae 4) (af (ae 9) ax)))) (xJ (p_ (jx (bW Dk hr (by omega) (af (ae 4) (af (ae 1) (af (ae 2) (af (bD cD (ae 5) (ae 8)) ax)))))))))) (aH (bq vV)) bO))))) (aH (bq vV)))))))))
end
abbrev lO(n:Nat):Option W:=some (.loc n)
abbrev iO(q:Int):Option W:=some (.int q)
theorem Ny{α:Type}(ns:List α)(hl:0<ns.length)(k:Int):∃c∈ns,r6 ns (k%((ns.length:Nat):Int))=some c:=by
 have h0:0<=k%((ns.length:Nat):Int):=iM _ (by omega)
 have h1:k%((ns.length:Nat):Int)<ns.length:=k_ _ (by omega)
 obtain⟨m,hm⟩:=Int.eq_ofNat_of_zero_le h0
 rw[hm]at h1 ⊢
 have h2:m<ns.length:=by omega
 exact⟨ns[m],dD _,f6 (by simp[h2])⟩
theorem pi{n:Nat}{st:List ao}{ns:List Int}(h:st[n]?=some (.ro (ns.map W.int)))(k:Int):∃c,lJ [.loc n,.int k] st=.ok (.int c) st:=by
 by_cases hn:ns=[]
 ·subst hn
  refine⟨0,?_⟩
  apply pd;apply qh;apply cQ
  ·(repeat' (first|with_reducible exact l6 (qV h)|walk_at "ev1"))
  ·(walk_at "evs")
 ·have hl:0<ns.length:=List.length_pos_iff.mpr hn
  obtain⟨c,hc,e⟩:=Ny (ns.map W.int) (by simpa using hl) k
  obtain⟨c,_,rfl⟩:=cS.mp hc
  refine⟨c,?_⟩
  apply pd;apply cn
  ·apply cH
   ·(repeat' (first|with_reducible exact l6 (qV h)|walk_at "ev1"))
    rw[bj,aE];omega
   ·(walk_at "evs")
  ·(repeat' (first|with_reducible exact l6 (qV h)|with_reducible exact ky (qV h) e|walk_at "ev1"))
   rw[aE];omega
theorem Al(c k s:Int)(hk:-(2^64)<k/\k<2^64)(st:List ao):∃r,0<=r/\tN [.int c,.int k,.int s] st=.ok (.int r) st:=by
 have big:∀q:Int,0<=q%2147483647/\q%2147483647<2147483647:=fun q=>⟨iM _ (by decide),k_ _ (by decide)⟩
 refine⟨(((c+7*k*k+13*k+s)*69621%2147483647*((c+7*k*k+13*k+s)*69621%2147483647/1009+3)+31*k+s)%2147483629*48271)%1000000007,iM _ (by decide),?_⟩
 apply pd;apply cn
 ·(walk_at "evs")<;>first|exact .inl (by decide)|exact .inr (by decide)|exact .inr hk
 ·(walk_at "evs")<;>first|exact .inl (by decide)|exact .inr (by decide)|exact .inl (by have:=big ((c+7*k*k+13*k+s)*69621);omega)
theorem oJ(c s:Int)(m:Nat)(hm:m<=1000)(st:List ao):∃ds:List Int,ds.length=m/\(∀d∈ds,0<=d)/\kS [.int c,.int m,.int s] st=.ok (.loc st.length) (st++[.lst (ds.map W.int)]):=by
 suffices hh:kI (zH fun w bh=>∃j x,w=.loc (st.length+j)/\bh=st++x/\j=0/\∃ds:List Int,x=[.lst (ds.map W.int)]/\ds.length=m/\∀d∈ds,0<=d) (KO ([W.int c,.int m,.int s].map some++List.replicate (6-3) none) st) by
  obtain⟨j,x,⟨rfl,ds,rfl,h1,h2⟩,e⟩:=um hh
  exact⟨ds,h1,h2,e⟩
 apply aC
 ·(walk_at "evs")
 apply aC
 ·(walk_at "evs")
 have main:∀r0:Int,kI (zH fun w bh=>∃j x,w=.loc (st.length+j)/\bh=st++x/\j=0/\∃ds:List Int,x=[.lst (ds.map W.int)]/\ds.length=m/\∀d∈ds,0<=d)
   (aN (lh (dC (ai (ag 1) aD)) (jy 5) (fN (ef (e2 DU (ag 4) (eI 0))) (aN (c5 (kQ bM (ag 3) (ai (e2 iD (ag 4) (eI 64)) aD))) (be 4 (e2 tD (ag 4) (eI 64)))) (c5 (kQ bM (ag 3) (ai (cx 3 tN (ai (ag 0) (ai (ag 5) (ai (ag 2) aD)))) aD))))) (cU (ag 3))
   [some (.int c),some (.int m),some (.int s),some (.loc st.length),some (.int r0),none] (st++[.lst []])):=by
  intro r0
  refine fU (fun i ρ bh=>∃(r:Int) (o:Option W) (ds:List Int),ρ=[some (.int c),some (.int m),some (.int s),some (.loc st.length),some (.int r),o]/\bh=st++[.lst (ds.map W.int)]/\ds.length=i/\∀d∈ds,0<=d) (jg (by(walk_at "evs");rfl) (by omega))
   ⟨r0,none,[],rfl,rfl,rfl,by simp⟩ (fun _ _ _ _=>trivial) ?_ ?_
  ·rintro i w ρ bh hw ⟨r,o,ds,rfl,rfl,hd,h⟩
   obtain⟨hi,rfl⟩:=jA hw
   refine⟨_,rfl,?_⟩
   have gR:(st++[ao.lst (ds.map W.int)])[st.length]?=some (.lst (ds.map W.int)):=by rw[dM];rfl
   have hsh:(ds.map W.int).length<mL:=by rw[aE,hd];show i<1000000;omega
   by_cases hr:0<r
   ·apply tJ
    ·(walk_at "evs");simpa using hr
    apply aC
    ·(repeat' (first|with_reducible exact df gR|with_reducible exact nC gR hsh|walk_at "ev1"))
    rw[fE]
    apply dg
    ·(walk_at "evs")
    ·refine⟨_,_,rfl,r/64,_,ds++[r%64],rfl,by simp,by simp[hd],fun d hd'=>?_⟩
     rcases aU.mp hd' with hd'|hd'
     ·exact h d hd'
     ·rw[aY.mp hd'];exact iM _ (by decide)
   ·obtain⟨q,hq,e⟩:=Al c (0+i) s (by omega) (st++[ao.lst (ds.map W.int)])
    apply lI
    ·(walk_at "evs");simpa using hr
    apply dg
    ·(repeat' (first|with_reducible exact df gR|with_reducible exact nC gR hsh|with_reducible exact e|walk_at "ev1"))
    ·refine⟨_,_,rfl,r,_,ds++[q],rfl,by rw[fE];simp,by simp[hd],fun d hd'=>?_⟩
     rcases aU.mp hd' with hd'|hd'
     ·exact h d hd'
     ·rw[aY.mp hd'];exact hq
  ·rintro ρ bh ⟨r,o,ds,rfl,rfl,hd,h⟩
   apply bN
   ·(walk_at "evs")
   ·exact⟨_,_,rfl,0,_,rfl,rfl,rfl,ds,rfl,by rw[hd];simpa using fP 0 m,h⟩
 by_cases hc:(10:Int)^18<=c
 ·apply aC
  ·apply cQ
   ·(walk_at "evs")<;>simpa using hc
   ·(walk_at "evs")
  ·exact main c
 ·apply aC
  ·apply cH
   ·(walk_at "evs")<;>simpa using hc
   ·(walk_at "evs")
  ·exact main 0
abbrev LL:List Nat:=[65,66,67,68,69,70,71,72,73,74,75,76,77,78,79,80,81,82,83,84,85,86,87,88,89,90,97,98,99,100,101,102,103,104,105,106,107,108,109,110,111,112,113,114,115,116,117,118,119,120,121,122]
theorem Jw(c s:Int)(m:Nat)(hm:m<=52)(st:List ao):∃l:List Nat,l.length=m/\l.Nodup/\(∀d∈l,d∈LL)/\w4 [.int c,.int m,.int s] st=.ok (.str l) st:=by
 suffices hh:kI (zH fun w bh=>(∃x,bh=st++x)/\undWs st.length [w]=true/\∃l:List Nat,w=.str l/\l.length=m/\l.Nodup/\∀d∈l,d∈LL) (KP ([W.int c,.int m,.int s].map some++List.replicate (7-3) none) st) by
  obtain⟨w,⟨l,rfl,h1,h2,h3⟩,e⟩:=qW hh
  exact⟨l,h1,h2,h3,e⟩
 obtain⟨ds,h1,h2,e⟩:=oJ c s m (by omega) st
 apply aC
 ·(walk_at "evs")
 apply aC
 ·(walk_at "evs")
 have gR:lstOf (st++[ao.lst (ds.map W.int)]) st.length=some (ds.map W.int):=b_ (by rw[dM];rfl)
 refine fU (fun i ρ bh=>∃(r f:List Nat) (o o2:Option W),ρ=[iO c,iO m,iO s,some (.str r),some (.str f),o,o2]/\bh=st++[.lst (ds.map W.int)]/\f.length=i/\r.length+i=52/\(f++r).Perm LL) (xW (by(repeat' (first|with_reducible exact e|walk_at "ev1"))) gR)
  ⟨LL,[],none,none,rfl,rfl,rfl,rfl,.refl _⟩ (fun i ρ bh h=>?_) ?_ ?_
 ·obtain⟨r,f,o,o2,rfl,rfl,_⟩:=h
  exact gR
 ·rintro i w ρ bh hw ⟨r,f,o,o2,rfl,rfl,hf,hr,hfl⟩
  obtain⟨d,hd,rfl⟩:∃d,ds[i]?=some d/\w=.int d:=by
   simp only[aG,eV]at hw
   obtain⟨d,h1,rfl⟩:=hw
   exact⟨d,h1,rfl⟩
  have hi:i<m:=by rw[<- h1];exact(ar.mp hd).1
  obtain⟨q,hq,eq⟩:=h_ (q:=d) (n:=r.length) (by omega)
  have hL:r.length<=mL:=by show _<=1000000;omega
  have hLf:f.length<=mL:=by show _<=1000000;omega
  have hat:r6 r (d%(r.length:Int))=some r[q]:=by rw[eq];exact f6 (by simp[hq])
  refine⟨_,rfl,?_⟩
  apply aC
  ·(repeat' (first|with_reducible exact xU hL|walk_at "ev1"))
   show 0<(r.length:Int);omega
  apply aC
  ·have ha:f.length+[r[q]].length<=mL:=by show _+1<=1000000;omega
   (repeat' (first|with_reducible exact FK hL hat|with_reducible exact BG ha|walk_at "ev1"))
  apply dg
  ·(repeat' (first|with_reducible exact FL hL|walk_at "ev1"))
   rw[eq,mR (by omega),show((q:Int)+1)=((q+1:Nat):Int)from rfl,qX (by omega),aL,cm]
   show _<=1000000;omega
  ·refine⟨_,_,rfl,_,_,_,_,rfl,rfl,by simp[hf],?_,?_⟩
   ·rw[eq,mR (by omega),show((q:Int)+1)=((q+1:Nat):Int)from rfl,qX (by omega),ah,aL,cm]
    omega
   ·rw[eq,mR (by omega),show((q:Int)+1)=((q+1:Nat):Int)from rfl,qX (by omega)]
    refine List.Perm.trans ?_ hfl
    rw[ak]
    refine nX f ?_
    have e:r=r.take q++r[q]::r.drop (q+1):=by rw[<- fD hq,List.take_append_drop]
    have e2:(r[q]::(r.take q++r.drop (q+1))).Perm r:=(List.perm_middle.symm).trans (by rw[<- e])
    exact e2
 ·rintro ρ bh ⟨r,f,o,o2,rfl,rfl,hf,hr,hfl⟩
  apply bN
  ·(walk_at "evs")
  ·exact⟨_,_,rfl,⟨_,rfl⟩,rfl,f,rfl,by rw[hf];simpa using h1,(lT.mp (hfl.nodup_iff.mpr (by decide))).1,fun d hd=>hfl.mem_iff.mp (bX _ hd)⟩
structure Pl where
 b:Nat
 m:List Nat
def Pl.w(p:Pl):W:=.tup [.int p.b,.str p.m]
def bG(t:List Pl):W:=.tup (t.map Pl.w)
inductive St(n:Nat):List Nat->Nat->List Nat->Nat->Option Nat×Option Nat->Prop
 |z {S:List Nat}:St n S 0 (1::S) 1 (none,none)
 |l {a:Nat} {S:List Nat}:St n (a::S) 1 ((1+a)::S) (1+a) (some (n-1),none)
 |r {a:Nat} {S:List Nat}:St n (a::S) 2 ((1+a)::S) (1+a) (none,some (n-1))
 |b {c a:Nat} {S:List Nat}:St n (c::a::S) 3 ((1+c+a)::S) (1+c+a) (some (n-1-c),some (n-1))
inductive Gr:List Pl->List Nat->List Nat->List (Option Nat×Option Nat)->Prop
 |nil:Gr [] [] [] []
 |snoc {ps:List Pl} {S S' sz:List Nat} {lk:List (Option Nat×Option Nat)} {b k:Nat} {m:List Nat} {x:Option Nat×Option Nat}:Gr ps S sz lk->St ps.length S b S' k x->Gr (ps++[⟨b,m⟩]) S' (sz++[k]) (lk++[x])
def At(sz:List Nat):List Nat->Nat->Prop
 |[],n=>n=0
 |a::S,n=>sz[n-1]?=some a/\a<=n/\1<=a/\At sz S (n-a)
theorem At.app{sz x:List Nat}:∀{S:List Nat} {n:Nat},n<=sz.length->At sz S n->At (sz++x) S n
 |[],_,_,h=>h
 |a::S,n,hn,⟨h1,h2,h3,h4⟩=>⟨by rw[aK (by omega)];exact h1,h2,h3,At.app (by omega) h4⟩
theorem St.at'{n:Nat}{sz S S':List Nat}{b k:Nat}{x:Option Nat×Option Nat}(h:St n S b S' k x)(hn:sz.length=n)(ha:At sz S n):At (sz++[k]) S' (n+1):=by
 have hk:(sz++[k])[n+1-1]?=some k:=by rw[Nat.add_sub_cancel,<- hn];simp
 cases h with
 |z=>exact⟨hk,by omega,by omega,by rw[Nat.add_sub_cancel];exact ha.app (by omega)⟩
 |@l a S=>exact⟨hk,by have:=ha.2.1;omega,by omega,by rw[show n+1-(1+a)=n-a by omega];exact ha.2.2.2.app (by omega)⟩
 |@r a S=>exact⟨hk,by have:=ha.2.1;omega,by omega,by rw[show n+1-(1+a)=n-a by omega];exact ha.2.2.2.app (by omega)⟩
 |@b c a S=>exact⟨hk,by have:=ha.2.1;have:=ha.2.2.2.2.1;omega,by omega,by rw[show n+1-(1+c+a)=n-c-a by omega];exact ha.2.2.2.2.2.2.app (by omega)⟩
theorem Gr.ok{ps:List Pl}{S sz:List Nat}{lk:List (Option Nat×Option Nat)}(h:Gr ps S sz lk):sz.length=ps.length/\lk.length=ps.length/\At sz S ps.length:=by
 induction h with
 |nil=>exact⟨rfl,rfl,rfl⟩
 |snoc _ hs ih=>
  obtain⟨h1,h2,h3⟩:=ih
  exact⟨by simp[h1],by simp[h2],by rw[ah];exact hs.at' h1 h3⟩
theorem Gr.step{ps:List Pl}{S sz:List Nat}{lk:List (Option Nat×Option Nat)}(h:Gr ps S sz lk):∀i,i<ps.length->∃S1 S2 p k x,Gr (ps.take i) S1 (sz.take i) (lk.take i)/\ps[i]?=some p/\sz[i]?=some k/\lk[i]?=some x/\St i S1 p.b S2 k x/\Gr (ps.take (i+1)) S2 (sz.take (i+1)) (lk.take (i+1)):=by
 induction h with
 |nil=>intro i hi;simp at hi
 |@snoc ps S S' sz lk b k m x hg hs ih=>
  intro i hi
  obtain⟨l1,l2,_⟩:=hg.ok
  by_cases e:i=ps.length
  ·subst e
   refine⟨S,S',⟨b,m⟩,k,x,?_,by simp,by rw[<- l1];simp,by rw[<- l2];simp,hs,?_⟩
   ·rw[gc,<- l1,gc]
    rw[l1,<- l2,gc];exact hg
   ·rw[bz (by simp),bz (by simp[l1]),bz (by simp[l2])]
    exact .snoc hg hs
  ·have hi':i<ps.length:=by simp at hi;omega
   obtain⟨S1,S2,p,k1,x1,g1,q1,q2,q3,hs1,g2⟩:=ih i hi'
   refine⟨S1,S2,p,k1,x1,?_,by rw[aK hi'];exact q1,by rw[aK (by omega)];exact q2,by rw[aK (by omega)];exact q3,hs1,?_⟩
   ·rw[cw (by omega),cw (by omega),cw (by omega)];exact g1
   ·rw[cw (by omega),cw (by omega),cw (by omega)];exact g2
theorem Gr.cut{ps:List Pl}{S sz:List Nat}{lk:List (Option Nat×Option Nat)}(h:Gr ps S sz lk){i:Nat}(hi:i<ps.length):∃(p:Pl) (L R:Nat),ps[i]?=some p/\sz[i]?=some (1+L+R)/\L+R<=i/\p.b<=3/\(0<L↔p.b%2=1)/\(0<R↔2<=p.b)/\(2<=p.b->1<=i/\sz[i-1]?=some R):=by
 obtain⟨S1,S2,p,k,x,g1,q1,q2,q3,hs,_⟩:=h.step i hi
 obtain⟨l1,l2,ha⟩:=g1.ok
 have fT:(ps.take i).length=i:=by rw[aL];omega
 rw[fT]at ha
 obtain⟨b,m⟩:=p
 have get:∀j a,1<=i->j=i-1->(sz.take i)[j]?=some a->sz[j]?=some a:=fun j a hi1 hj e=>by
  rw[cE (by omega)]at e;exact e
 cases hs with
 |z=>exact⟨⟨0,m⟩,0,0,q1,q2,by omega,by simp,by simp,by simp,by simp⟩
 |@l a S=>
  have ha1:(sz.take i)[i-1]?=some a:=ha.1
  have ha2:a<=i:=ha.2.1
  have ha3:1<=a:=ha.2.2.1
  exact⟨⟨1,m⟩,a,0,q1,q2,by omega,by simp,by simp;omega,by simp,by simp⟩
 |@r a S=>
  have ha1:(sz.take i)[i-1]?=some a:=ha.1
  have ha2:a<=i:=ha.2.1
  have ha3:1<=a:=ha.2.2.1
  exact⟨⟨2,m⟩,0,a,q1,by rw[q2],by omega,by simp,by simp,by simp;omega,fun _=>⟨by omega,get _ _ (by omega) rfl ha1⟩⟩
 |@b c a S=>
  have ha1:(sz.take i)[i-1]?=some c:=ha.1
  have ha2:c<=i:=ha.2.1
  have ha3:1<=c:=ha.2.2.1
  have hb2:a<=i-c:=ha.2.2.2.2.1
  have hb3:1<=a:=ha.2.2.2.2.2.1
  exact⟨⟨3,m⟩,a,c,q1,by rw[q2];congr 1<;>omega,by omega,by simp,by simp;omega,by simp;omega,fun _=>⟨by omega,get _ _ (by omega) rfl ha1⟩⟩
theorem Qp{b:Nat}(h:b<=3)(st:List ao):Ey false (.int b) (.tup [.int 1,.int 3]) st=.ok (.bl (decide (b%2=1))) st:=by
 obtain rfl|rfl|rfl|rfl:b=0\/b=1\/b=2\/b=3:=by omega
 all_goals rfl
theorem Qq{b:Nat}(h:b<=3)(st:List ao):Ey false (.int b) (.tup [.int 2,.int 3]) st=.ok (.bl (decide (2<=b))) st:=by
 obtain rfl|rfl|rfl|rfl:b=0\/b=1\/b=2\/b=3:=by omega
 all_goals rfl
theorem Jx{p:Pl}(h:p.b<=3)(st:List ao):ym [p.w] st=.ok (.bl (decide (p.b%2=1))) st:=by
 have:=Qp h st
 have i0:bu p.w (.int 0) st=.ok (.int p.b) st:=rfl
 apply eK
 apply bN
 ·(walk_at "evs")
 ·exact⟨_,_,rfl,rfl,rfl⟩
theorem Am{p:Pl}(h:p.b<=3)(st:List ao):vn [p.w] st=.ok (.bl (decide (2<=p.b))) st:=by
 have:=Qq h st
 have i0:bu p.w (.int 0) st=.ok (.int p.b) st:=rfl
 apply eK
 apply bN
 ·(walk_at "evs")
 ·exact⟨_,_,rfl,rfl,rfl⟩
def oW:Option Nat->W
 |none=>.non
 |some k=>.int k
def iQ(x:Option Nat×Option Nat):W:=.tup [oW x.1,oW x.2]
def i_:List Nat->Nat->List Nat
 |[],_=>[]
 |a::S,n=>(n-1)::i_ S (n-a)
theorem ic:∀(S:List Nat) (n:Nat),(i_ S n).length=S.length
 |[],_=>rfl
 |a::S,n=>by simp[i_,ic S]
theorem At.le{sz:List Nat}:∀{S:List Nat} {n:Nat},At sz S n->S.length<=n
 |[],_,_=>ce _
 |a::S,n,⟨_,h2,h3,h4⟩=>by have:=At.le h4;simp;omega
theorem St.det{n:Nat}{S S1 S2:List Nat}{b k1 k2:Nat}{x1 x2:Option Nat×Option Nat}(h1:St n S b S1 k1 x1)(h2:St n S b S2 k2 x2):S1=S2/\k1=k2/\x1=x2:=by
 cases h1<;>cases h2<;>exact⟨rfl,rfl,rfl⟩
theorem Gr.det{ps:List Pl}{S sz:List Nat}{lk:List (Option Nat×Option Nat)}(h:Gr ps S sz lk):∀{Rp:List Pl} {S' SH:List Nat} {N_:List (Option Nat×Option Nat)},Gr Rp S' SH N_->ps=Rp->S=S':=by
 induction h with
 |nil=>
  intro Rp S' SH N_ h' e
  cases h' with
  |nil=>rfl
  |snoc _ _=>simp at e
 |snoc hg hs ih=>
  intro Rp S' SH N_ h' e
  cases h' with
  |nil=>simp at e
  |snoc hg' hs'=>
   have e2:=List.append_inj' e rfl
   have:=ih hg' e2.1
   subst this
   have e3:Pl.mk _ _=Pl.mk _ _:=List.head_eq_of_cons_eq e2.2
   injection e3 with eb em
   subst eb
   rw[<- e2.1]at hs'
   exact(hs.det hs').1
def cM(l:List Nat):List W:=l.map fun k:Nat=>W.int k
section
variable{ps:List Pl}{S sz:List Nat}{lk:List (Option Nat×Option Nat)}
theorem rC(h:Gr ps S sz lk)(hn:ps.length<=1000)(st:List ao):vo [bG ps] st=.ok (.tup (lk.map iQ)) st:=by
 obtain⟨l1,l2,_⟩:=h.ok
 have hu:∀(l:List (Option Nat×Option Nat)) (n:Nat),undWs n (l.map iQ)=true:=by
  intro l n
  induction l with
  |nil=>rfl
  |cons x r ih=>
   obtain⟨a,b⟩:=x
   simp only[bn,undWs,ih,dA,iQ,W.und]
   cases a<;>cases b<;>rfl
 refine fq (N:=7) (ws:=[bG ps]) (body:=P5) ?_ (by simp[undWs,W.und,hu])
 apply aC
 ·(walk_at "evs")
 apply aC
 ·(walk_at "evs")
 rw[show(st++[ao.lst []]).length=st.length+1 by simp,show st++[ao.lst []]++[ao.lst []]=st++[ao.lst [],ao.lst []] by simp]
 refine fU (fun i ρ bh=>∃(S1:List Nat) (o3 o4 o5 o6:Option W),ρ=[some (bG ps),some (.loc st.length),some (.loc (st.length+1)),o3,o4,o5,o6]/\bh=st++[.lst ((lk.take i).map iQ),.lst (cM (i_ S1 i).reverse)]/\Gr (ps.take i) S1 (sz.take i) (lk.take i)/\i<=ps.length) (k:=(lF (ps.map Pl.w),none))
  (by show qf (ai (ag 0) aD) _ _=_;unfold qf;rfl) ⟨[],none,none,none,none,rfl,rfl,.nil,ce _⟩ (fun _ _ _ _=>trivial) ?_ ?_
 ·rintro i w ρ bh hw ⟨S1,o3,o4,o5,o6,rfl,rfl,hg,hi⟩
  obtain⟨y,hy,rfl⟩:=sw hw
  have hip:i<ps.length:=by have:=(ar.mp hy).1;simpa using this
  obtain⟨S1',S2,p,k,x,g1,q1,q2,q3,hs,g2⟩:=h.step i hip
  rw[aG,q1]at hy
  cases hy
  refine⟨_,rfl,?_⟩
  have hS:=hg.det g1 rfl
  subst hS
  obtain⟨lz,ll,ha⟩:=g1.ok
  have hti:(ps.take i).length=i:=by rw[aL];omega
  rw[hti]at ha lz ll
  have hSl:=ha.le
  obtain⟨p',L,R,q1',q2',_,hb3,hL,hR,_⟩:=h.cut hip
  rw[q1]at q1';cases q1'
  have hlk:lk.take (i+1)=lk.take i++[x]:=by rw[jp,q3];rfl
  have hrt:=fun st=>Am (p:=p) hb3 st
  have hlf:=fun st=>Jx (p:=p) hb3 st
  have pop:∀(A:List W) (B:List Nat) (q:Nat),ms (.loc (st.length+1)) [] (st++[.lst A,.lst (cM (q::B).reverse)])=.ok (.int q) (st++[.lst A,.lst (cM B.reverse)]):=fun A B q=>by
   have hc:(st++[ao.lst A,.lst (cM (q::B).reverse)])[st.length+1]?=some (.lst (cM B.reverse++[.int q])):=by rw[iH];simp[cM]
   rw[vb hc,mv];rfl
  have isl:∀(A:List W) (B:List W),kP (st++[.lst A,.lst B]) (.loc (st.length+1))=true:=fun A B=>df (by rw[iH];rfl)
  have isl0:∀(A:List W) (B:List W),kP (st++[.lst A,.lst B]) (.loc st.length)=true:=fun A B=>df (by rw[dM];rfl)
  have app:∀(A:List W) (B:List Nat) (q:Nat),B.length<1000->bM (.loc (st.length+1)) [.int q] (st++[.lst A,.lst (cM B.reverse)])=.ok .non (st++[.lst A,.lst (cM (q::B).reverse)]):=fun A B q hB=>by
   have hc:(st++[ao.lst A,.lst (cM B.reverse)])[st.length+1]?=some (.lst (cM B.reverse)):=by rw[iH];rfl
   rw[nC hc (by simp[cM];show _<1000000;omega),mv]
   simp[cM]
  have app0:∀(B:List W) (w:W),bM (.loc st.length) [w] (st++[.lst ((lk.take i).map iQ),.lst B])=.ok .non (st++[.lst ((lk.take i).map iQ++[w]),.lst B]):=fun B w=>by
   have hc:(st++[ao.lst ((lk.take i).map iQ),.lst B])[st.length]?=some (.lst ((lk.take i).map iQ)):=by rw[dM];rfl
   rw[nC hc (by simp;show _<1000000;omega),fE];rfl
  have kA:∀(o3 o4 o5 o6:Option W) (B:List Nat),B=i_ S2 (i+1)->Jt (fun ρ bh=>∃(S1:List Nat) (o3 o4 o5 o6:Option W),ρ=[some (bG ps),some (.loc st.length),some (.loc (st.length+1)),o3,o4,o5,o6]/\bh=st++[.lst ((lk.take (i+1)).map iQ),.lst (cM (i_ S1 (i+1)).reverse)]/\Gr (ps.take (i+1)) S1 (sz.take (i+1)) (lk.take (i+1))/\i+1<=ps.length)
    (.nx [some (bG ps),some (.loc st.length),some (.loc (st.length+1)),o3,o4,o5,o6] (st++[.lst ((lk.take i).map iQ++[iQ x]),.lst (cM B.reverse)])):=by
   rintro o3 o4 o5 o6 B rfl
   exact⟨_,_,rfl,S2,_,_,_,_,rfl,by rw[hlk];simp,g2,by omega⟩
  obtain⟨b,m⟩:=p
  have hiS:∀T:List Nat,T.length<=i->(i_ T i).length<1000:=fun T hT=>by rw[ic];omega
  cases hs with
  |@z=>
   have hr:vn [(Pl.mk 0 m).w]=fun st=>.ok (.bl false) st:=funext hrt
   have hl:ym [(Pl.mk 0 m).w]=fun st=>.ok (.bl false) st:=funext hlf
   have a1:=app ((lk.take i).map iQ) (i_ S1 i) i (hiS _ hSl)
   have a2:=app0 (cM (i::i_ S1 i).reverse) (.tup [.non,.non])
   apply aC
   ·apply bg
    apply qT
    ·(repeat' (first|with_reducible exact lc hr _|walk_at "ev1"))
    ·(walk_at "evs")
   apply aC
   ·apply bg
    apply qT
    ·(repeat' (first|with_reducible exact lc hl _|walk_at "ev1"))
    ·(walk_at "evs")
   apply aC
   ·(repeat' (first|with_reducible exact isl _ _|walk_at "ev1"))
   apply dg
   ·(repeat' (first|with_reducible exact isl0 _ _|walk_at "ev1"))
   ·exact kA _ _ _ _ (i::i_ S1 i) rfl
  |@l a S=>
   have hr:vn [(Pl.mk 1 m).w]=fun st=>.ok (.bl false) st:=funext hrt
   have hl:ym [(Pl.mk 1 m).w]=fun st=>.ok (.bl true) st:=funext hlf
   have hSl':S.length<=i:=by simp at hSl;omega
   have p1:=pop ((lk.take i).map iQ) (i_ S (i-a)) (i-1)
   have a1:=app ((lk.take i).map iQ) (i_ S (i-a)) i (by rw[ic];omega)
   have a2:=app0 (cM (i::i_ S (i-a)).reverse) (.tup [.int (i-1:Nat),.non])
   apply aC
   ·apply bg
    apply qT
    ·(repeat' (first|with_reducible exact lc hr _|walk_at "ev1"))
    ·(walk_at "evs")
   apply aC
   ·apply bg
    apply qS
    ·(repeat' (first|with_reducible exact lc hl _|walk_at "ev1"))
    ·exact hZ kv (isl _ _) aX p1
   apply aC
   ·(repeat' (first|with_reducible exact isl _ _|walk_at "ev1"))
   apply dg
   ·(repeat' (first|with_reducible exact isl0 _ _|walk_at "ev1"))
   ·exact kA _ _ _ _ (i::i_ S (i-a)) (by simp only[i_];congr 1;congr 1;omega)
  |@r a S=>
   have hr:vn [(Pl.mk 2 m).w]=fun st=>.ok (.bl true) st:=funext hrt
   have hl:ym [(Pl.mk 2 m).w]=fun st=>.ok (.bl false) st:=funext fun st=>(hlf st).trans (by rw[show decide ((Pl.mk 2 m).b%2=1)=false from by simp])
   have hSl':S.length<=i:=by simp at hSl;omega
   have p1:=pop ((lk.take i).map iQ) (i_ S (i-a)) (i-1)
   have a1:=app ((lk.take i).map iQ) (i_ S (i-a)) i (by rw[ic];omega)
   have a2:=app0 (cM (i::i_ S (i-a)).reverse) (.tup [.non,.int (i-1:Nat)])
   apply aC
   ·apply bg
    apply qS
    ·(repeat' (first|with_reducible exact lc hr _|walk_at "ev1"))
    ·exact hZ kv (isl _ _) aX p1
   apply aC
   ·apply bg
    apply qT
    ·(repeat' (first|with_reducible exact lc hl _|walk_at "ev1"))
    ·(walk_at "evs")
   apply aC
   ·(repeat' (first|with_reducible exact isl _ _|walk_at "ev1"))
   apply dg
   ·(repeat' (first|with_reducible exact isl0 _ _|walk_at "ev1"))
   ·exact kA _ _ _ _ (i::i_ S (i-a)) (by simp only[i_];congr 1;congr 1;omega)
  |@b c a S=>
   have hr:vn [(Pl.mk 3 m).w]=fun st=>.ok (.bl true) st:=funext hrt
   have hl:ym [(Pl.mk 3 m).w]=fun st=>.ok (.bl true) st:=funext fun st=>(hlf st).trans (by rw[show decide ((Pl.mk 3 m).b%2=1)=true from by simp])
   have hSl':S.length<=i:=by simp at hSl;omega
   have hca:(i-c-1)=(i-1-c):=by omega
   have p1:=pop ((lk.take i).map iQ) ((i-1-c)::i_ S (i-c-a)) (i-1)
   have p2:=pop ((lk.take i).map iQ) (i_ S (i-c-a)) (i-1-c)
   have a1:=app ((lk.take i).map iQ) (i_ S (i-c-a)) i (by rw[ic];omega)
   have a2:=app0 (cM (i::i_ S (i-c-a)).reverse) (.tup [.int (i-1-c:Nat),.int (i-1:Nat)])
   have ht:i_ (c::a::S) i=(i-1)::(i-1-c)::i_ S (i-c-a):=by simp only[i_,hca]
   rw[ht]
   apply aC
   ·apply bg
    apply qS
    ·(repeat' (first|with_reducible exact lc hr _|walk_at "ev1"))
    ·exact hZ kv (isl _ _) aX p1
   apply aC
   ·apply bg
    apply qS
    ·(repeat' (first|with_reducible exact lc hl _|walk_at "ev1"))
    ·exact hZ kv (isl _ _) aX p2
   apply aC
   ·(repeat' (first|with_reducible exact isl _ _|walk_at "ev1"))
   apply dg
   ·(repeat' (first|with_reducible exact isl0 _ _|walk_at "ev1"))
   ·exact kA _ _ _ _ (i::i_ S (i-c-a)) (by simp only[i_];congr 1;congr 1;omega)
 ·rintro ρ bh ⟨S1,o3,o4,o5,o6,rfl,rfl,hg,hi⟩
  have fT:(lF (ps.map Pl.w)).length=ps.length:=by simp[lF]
  have hc:(st++[ao.lst ((lk.take (lF (ps.map Pl.w),(none:Option (Nat×List W))).1.length).map iQ),.lst (cM (i_ S1 (lF (ps.map Pl.w),(none:Option (Nat×List W))).1.length).reverse)])[st.length]?=some (.lst (lk.map iQ)):=by
   rw[dM]
   show some (ao.lst ((lk.take (lF (ps.map Pl.w)).length).map iQ))=_
   rw[fT,bz (by omega)]
  apply bN
  ·(repeat' (first|with_reducible exact mS (b_ hc)|walk_at "ev1"))
  ·exact⟨_,_,rfl,rfl,_,rfl⟩
end
theorem kT(t:List Pl)(n:Nat):(bG t).und n=true:=by
 unfold bG W.und
 induction t with
 |nil=>rfl
 |cons x r ih=>simp only[bn,undWs,ih,dA];simp[Pl.w,W.und,undWs]
theorem gu(a:List Pl)(st:List ao):dG [bG a] st=.ok (.int a.length) st:=by
 unfold bG
 rw[BH,aE]
theorem rD{a:List Pl}{q:Nat}{p:Pl}(h:a[q]?=some p)(st:List ao):bu (bG a) (.int q) st=.ok p.w st:=lH (f6 (by simp[h]))
theorem BW(p:Pl)(st:List ao):bu p.w (.int 1) st=.ok (.str p.m) st:=rfl
theorem Nz(p:Pl)(st:List ao):bu p.w (.int 0) st=.ok (.int p.b) st:=rfl
section
variable{ps:List Pl}{S sz:List Nat}{lk:List (Option Nat×Option Nat)}
theorem D8(h:Gr ps S sz lk)(hn:ps.length<=1000)(st:List ao):∃x,(∃A,x=[ao.lst A,.lst (lk.map iQ)])/\Ae [bG ps] st=.ok (.loc (st.length+1)) (st++x):=by
 obtain⟨l1,l2,_⟩:=h.ok
 suffices hh:kI (zH fun w bh=>∃j x,w=.loc (st.length+j)/\bh=st++x/\j=1/\∃A,x=[ao.lst A,.lst (lk.map iQ)]) (KS ([bG ps].map some++List.replicate (6-1) none) st) by
  obtain⟨j,x,⟨rfl,h1⟩,e⟩:=um hh
  exact⟨x,h1,e⟩
 apply aC
 ·(walk_at "evs")
 apply aC
 ·(walk_at "evs")
 rw[show(st++[ao.lst []]).length=st.length+1 by simp,show st++[ao.lst []]++[ao.lst []]=st++[ao.lst [],ao.lst []] by simp]
 refine fU (fun i ρ bh=>∃(S1:List Nat) (o3 o4 o5:Option W),ρ=[some (bG ps),some (.loc st.length),some (.loc (st.length+1)),o3,o4,o5]/\bh=st++[.lst (cM (i_ S1 i).reverse),.lst ((lk.take i).map iQ)]/\Gr (ps.take i) S1 (sz.take i) (lk.take i)/\i<=ps.length)
  (jg (q:=(ps.length:Int)) (st1:=st++[ao.lst [],ao.lst []]) (aw (cu kn (gu ps _)) aX) (by omega)) ⟨[],none,none,none,rfl,rfl,.nil,ce _⟩ (fun _ _ _ _=>trivial) ?_ ?_
 ·rintro i w ρ bh hw ⟨S1,o3,o4,o5,rfl,rfl,hg,hi⟩
  obtain⟨hip,rfl⟩:=jA hw
  rw[cq]at hip
  obtain⟨S1',S2,p,k,x,g1,q1,q2,q3,hs,g2⟩:=h.step i hip
  refine⟨_,rfl,?_⟩
  have hS:=hg.det g1 rfl
  subst hS
  obtain⟨lz,ll,ha⟩:=g1.ok
  have hti:(ps.take i).length=i:=by rw[aL];omega
  rw[hti]at ha lz ll
  have hSl:=ha.le
  have hlk:lk.take (i+1)=lk.take i++[x]:=by rw[jp,q3];rfl
  have it:∀s:List ao,bu (bG ps) (.int (0+(i:Int))) s=.ok p.w s:=fun s=>by rw[rP];exact rD q1 s
  have pop:∀(A:List W) (B:List Nat) (q:Nat),ms (.loc st.length) [] (st++[.lst (cM (q::B).reverse),.lst A])=.ok (.int q) (st++[.lst (cM B.reverse),.lst A]):=fun A B q=>by
   have hc:(st++[ao.lst (cM (q::B).reverse),.lst A])[st.length]?=some (.lst (cM B.reverse++[.int q])):=by rw[dM];simp[cM]
   rw[vb hc,fE];rfl
  have isl:∀(A:List W) (B:List W),kP (st++[.lst A,.lst B]) (.loc (st.length+1))=true:=fun A B=>df (by rw[iH];rfl)
  have isl0:∀(A:List W) (B:List W),kP (st++[.lst A,.lst B]) (.loc st.length)=true:=fun A B=>df (by rw[dM];rfl)
  have app:∀(A:List W) (B:List Nat),B.length<1001->bM (.loc st.length) [.int (0+(i:Int))] (st++[.lst (cM B.reverse),.lst A])=.ok .non (st++[.lst (cM (i::B).reverse),.lst A]):=fun A B hB=>by
   have hc:(st++[ao.lst (cM B.reverse),.lst A])[st.length]?=some (.lst (cM B.reverse)):=by rw[dM];rfl
   rw[nC hc (by simp[cM];show _<1000000;omega),fE]
   simp[cM]
  have app1:∀(B:List W) (w:W),bM (.loc (st.length+1)) [w] (st++[.lst B,.lst ((lk.take i).map iQ)])=.ok .non (st++[.lst B,.lst ((lk.take i).map iQ++[w])]):=fun B w=>by
   have hc:(st++[ao.lst B,.lst ((lk.take i).map iQ)])[st.length+1]?=some (.lst ((lk.take i).map iQ)):=by rw[iH];rfl
   rw[nC hc (by simp;show _<1000000;omega),mv];rfl
  have T1:∀(k:Bool) (ρ:cI) (s:List ao),decide ((2:Int)<=(p.b:Int))=k->ρ[0]?=some (some (bG ps))->ρ[3]?=some (some (.int (0+(i:Int))))->ef (e2 Mp (e2 bu (e2 bu (ag 0) (ag 3)) (eI 0)) (eI 2)) ρ s=.ok k s:=fun k ρ s e h0 h3=>aZ (bA (bA (bA (jP h0) (jP h3) (it s)) bR (Nz p s)) bR (FJ e))
  have T2:∀(k:Bool) (ρ:cI) (s:List ao),(((p.b:Int)%2)==1)=k->ρ[0]?=some (some (bG ps))->ρ[3]?=some (some (.int (0+(i:Int))))->ef (e2 iE (e2 iD (e2 bu (e2 bu (ag 0) (ag 3)) (eI 0)) (eI 2)) (eI 1)) ρ s=.ok k s:=fun k ρ s e h0 h3=>aZ (bA (bA (bA (bA (jP h0) (jP h3) (it s)) bR (Nz p s)) bR (i9 (by decide))) bR (fm e))
  have kA:∀(o3 o4 o5:Option W) (B:List Nat),i::B=i_ S2 (i+1)->Jt (fun ρ bh=>∃(S1:List Nat) (o3 o4 o5:Option W),ρ=[some (bG ps),some (.loc st.length),some (.loc (st.length+1)),o3,o4,o5]/\bh=st++[.lst (cM (i_ S1 (i+1)).reverse),.lst ((lk.take (i+1)).map iQ)]/\Gr (ps.take (i+1)) S1 (sz.take (i+1)) (lk.take (i+1))/\i+1<=ps.length)
    (.nx [some (bG ps),some (.loc st.length),some (.loc (st.length+1)),o3,o4,o5] (st++[.lst (cM (i::B).reverse),.lst ((lk.take i).map iQ++[iQ x])])):=by
   rintro o3 o4 o5 B e
   exact⟨_,_,rfl,S2,_,_,_,rfl,by rw[hlk,e];simp,g2,by omega⟩
  have put:∀(lw sZ:W) (o3:Option W) (B:List Nat),o3=some (.int (0+(i:Int)))->B.length<1001->iQ x=.tup [lw,sZ]->i::B=i_ S2 (i+1) ->
    kI (Jt (fun ρ bh=>∃(S1:List Nat) (o3 o4 o5:Option W),ρ=[some (bG ps),some (.loc st.length),some (.loc (st.length+1)),o3,o4,o5]/\bh=st++[.lst (cM (i_ S1 (i+1)).reverse),.lst ((lk.take (i+1)).map iQ)]/\Gr (ps.take (i+1)) S1 (sz.take (i+1)) (lk.take (i+1))/\i+1<=ps.length))
     (aN (c5 (kQ bM (ag 2) (ai (gB (ai (ag 4) (ai (ag 5) aD))) aD))) (c5 (kQ bM (ag 1) (ai (ag 3) aD))) [some (bG ps),some (.loc st.length),some (.loc (st.length+1)),o3,some lw,some sZ] (st++[.lst (cM B.reverse),.lst ((lk.take i).map iQ)])):=by
   intro lw sZ o3 B e3 hB hx hT
   subst e3
   have a1:=app1 (cM B.reverse) (.tup [lw,sZ])
   have a2:=app ((lk.take i).map iQ++[.tup [lw,sZ]]) B hB
   have ff:=kA (some (.int (0+(i:Int)))) (some lw) (some sZ) B hT
   rw[hx]at ff
   apply aC
   ·exact d9 (hZ kv (isl _ _) (aw (fK (aw kv kn) (au rfl)) aX) a1)
   apply dg
   ·exact d9 (hZ kv (isl0 _ _) kn a2)
   ·exact ff
  apply aC
  ·exact bg bR
  apply aC
  ·exact bg bR
  obtain⟨b,m⟩:=p
  cases hs with
  |@z=>
   apply bw
   ·exact T1 false _ _ rfl rfl rfl
   apply bJ
   apply bw
   ·exact T2 false _ _ rfl rfl rfl
   apply bJ
   exact put _ _ _ (i_ S1 i) rfl (by rw[ic];omega) rfl rfl
  |@l a S=>
   apply bw
   ·exact T1 false _ _ rfl rfl rfl
   apply bJ
   apply aC
   ·exact cQ (T2 true _ _ rfl rfl rfl) (bg (hZ kv (isl0 _ _) aX (pop _ (i_ S (i-a)) (i-1))))
   exact put _ _ _ (i_ S (i-a)) rfl (by rw[ic];simp at hSl;omega) rfl (by simp only[i_];congr 1;congr 1;omega)
  |@r a S=>
   apply aC
   ·exact cQ (T1 true _ _ rfl rfl rfl) (bg (hZ kv (isl0 _ _) aX (pop _ (i_ S (i-a)) (i-1))))
   apply bw
   ·exact T2 false _ _ (by show((2:Int)%2==1)=false;decide) rfl rfl
   apply bJ
   exact put _ _ _ (i_ S (i-a)) rfl (by rw[ic];simp at hSl;omega) rfl (by simp only[i_];congr 1;congr 1;omega)
  |@b c a S=>
   apply aC
   ·exact cQ (T1 true _ _ rfl rfl rfl) (bg (hZ kv (isl0 _ _) aX (pop _ (i_ (a::S) (i-c)) (i-1))))
   apply aC
   ·exact cQ (T2 true _ _ (by show((3:Int)%2==1)=true;decide) rfl rfl) (bg (hZ kv (isl0 _ _) aX (pop _ (i_ S (i-c-a)) (i-c-1))))
   exact put _ _ _ (i_ S (i-c-a)) rfl (by rw[ic];simp at hSl;omega) (by show W.tup [.int ((i-1-c:Nat):Int),_]=_;rw[show i-1-c=i-c-1 by omega];rfl) (by simp only[i_];congr 1;congr 1;omega)
 ·rintro ρ bh ⟨S1,o3,o4,o5,rfl,rfl,hg,hi⟩
  rw[show(gq 0 (ps.length:Int).toNat,(none:Option (Nat×List W))).fst.length=lk.length by rw[l2];simp[fP],dE]
  apply bN
  ·(walk_at "evs")
  ·exact⟨_,_,rfl,1,_,rfl,rfl,rfl,_,rfl⟩
end
theorem rE{st s:List ao}{p:Nat}{c:ao}(h:st <+: s)(hp:st.length<=p):st <+: s.set p c:=by
 obtain⟨x,rfl⟩:=h
 rw[show p=st.length+(p-st.length) by omega,mv]
 exact a9 _ _
theorem yr{st s y:List ao}(h:st <+: s):st <+: s++y:=h.trans (a9 _ _)
theorem pre_get{st s:List ao}{i:Nat}{c:ao}(h:st <+: s)(e:st[i]?=some c):s[i]?=some c:=by
 obtain⟨x,rfl⟩:=h
 exact c6 e
theorem dO{s:List ao}{p:Nat}{c d:ao}(h:s[p]?=some d):(s.set p c)[p]?=some c:=by
 rw[cb (ar.mp h).1]
theorem bC{s:List ao}{p q:Nat}{c:ao}(h:p≠q):(s.set p c)[q]?=s[q]?:=cN h
theorem fC{s:List ao}{p:Nat}{c:ao}(h:s[p]?=some c):p<s.length:=(ar.mp h).1
theorem dm{s:List ao}{c:ao}:(s++[c])[s.length]?=some c:=by rw[dM];rfl
def yt(l:List Int):List W:=l.map W.int
theorem uq{s:List ao}{p i:Nat}{ds:List Int}{d:Int}(h:s[p]?=some (.lst (yt ds)))(e:ds[i]?=some d):bu (.loc p) (.int i) s=.ok (.int d) s:=ky (b_ h) (f6 (by rw[yt,aG,e];rfl))
theorem GG{st:List ao}{n:Nat}{ls:List (List Nat)}(h:lstOf st n=some (ls.map W.str))(hl:ls.length<64):jY [.loc n] st=.ok (.loc st.length) (st++[.lst ((iX ls).map W.str)]):=by
 show pc [.loc n] st=_
 unfold pc
 simp only[h,eG,wP]
 rw[aJ hl]
theorem vw{a b:List (List Nat)}(h:a.Perm b):(a.map List.length).sum=(b.map List.length).sum:=by
 induction h with
 |nil=>rfl
 |cons x _ ih=>simp only[bn,p5,ih]
 |swap x y l=>simp only[bn,p5];omega
 |trans _ _ ih1 ih2=>rw[ih1,ih2]
theorem rF(l:List Nat):(((l.map fun c=>[c])).map List.length).sum=l.length:=by
 induction l with
 |nil=>rfl
 |cons a r ih=>simp only[bn,p5,bd,ih,nN];omega
def BX(l:List Nat):List Nat:=kN [] (iX (l.map fun c=>[c]))
theorem Da(l:List Nat):(BX l).length=l.length:=by
 unfold BX;rw[mq,List.length_flatten,vw (gs _),rF]
theorem GH(l:List Nat):(BX l).Perm l:=by
 unfold BX;rw[mq]
 have h:(iX (l.map fun c=>[c])).flatten.Perm (l.map fun c=>[c]).flatten:=(gs _).flatten
 refine h.trans (.of_eq ?_)
 induction l with
 |nil=>rfl
 |cons a r ih=>
  have ih':=ih ((gs _).flatten)
  simp only[bn,lU,ih',List.cons_append,d7]
theorem Db{fe:FE}{ρ:cI}{st s1:List ao}{n:Nat}{l:List Nat}(h:fe ρ st=.ok (.loc n) s1)(hc:lstOf s1 n=some ((l.map fun c=>[c]).map W.str))(hl:l.length<64) :
  HX nv (eC (.str [])) (ai (bE jY (ai fe aD)) aD) ρ st=.ok (.str (BX l)) (s1++[.lst ((iX (l.map fun c=>[c])).map W.str)]):=by
 have hs:=GG hc (by simpa using hl)
 have hcell2:lstOf (s1++[ao.lst ((iX (l.map fun c=>[c])).map W.str)]) s1.length=some ((iX (l.map fun c=>[c])).map W.str):=b_ dm
 have hj:=BI (sep:=[]) hcell2 (by rw[vw (gs _),rF];show _<=1000000;simp;omega)
 exact Js bR rfl (aw (cu (aw h aX) hs) aX) hj
section
variable{cap:List (Option Nat)}{ρ:cI}{st:List ao}{el:FE}{fs:FA}{n:Nat}
theorem Jy{β:Type}(V:β->W)(Pb:Nat->β->Prop)(hr:fs ρ st=.ok [.int n] st)(hn:n<=100000)(h:∀i:Nat,i<n->∃b,Pb i b/\el ((su cap ρ).set 0 (some (.int i))) st=.ok (V b) st) :
  ∃r:List β,r.length=n/\(∀i b,r[i]?=some b->Pb i b)/\jO cap (dC fs) (jy 0) vZ el ρ st=.ok (.loc st.length) (st++[.lst (r.map V)]):=by
 let f:Fin n->β:=fun i=>Classical.choose (h i i.2)
 have hf:∀i:Fin n,Pb i (f i)/\el ((su cap ρ).set 0 (some (.int (i:Nat)))) st=.ok (V (f i)) st:=fun i=>Classical.choose_spec (h i i.2)
 let Y:W->W:=fun w=>match w with
  |.int z=>if hz:z.toNat<n then V (f ⟨z.toNat,hz⟩)else .non
  |_=>.non
 have ir:dC fs ρ st=.ok (gq 0 n,none) st:=by
  have:=jg hr (by omega)
  rw[cq]at this
  exact this
 have hc:=C8 (fi:=dC fs) (f:=jy 0) (el:=el) (cap:=cap) (ρ:=ρ) Y ir (by rw[fP];show _<=1000000;omega) trivial fun w hw=>by
  obtain⟨i,hi,rfl⟩:=wV hw
  refine⟨_,rfl,?_⟩
  rw[show((0:Int)+(i:Int))=(i:Int) by omega]
  show _=R.ok (if hz:(i:Int).toNat<n then V (f ⟨(i:Int).toNat,hz⟩)else .non) st
  rw[dif_pos (show(i:Int).toNat<n by omega)]
  exact(hf ⟨i,hi⟩).2
 refine⟨List.ofFn f,by simp,fun i b hb=>?_,?_⟩
 ·obtain⟨h1,h2⟩:=ar.mp hb
  rw[List.getElem_ofFn]at h2
  rw[<- h2]
  exact(hf ⟨i,by simpa using h1⟩).1
 ·rw[hc]
  have e:(gq 0 n).map Y=(List.ofFn f).map V:=by
   refine List.ext_getElem (by simp[fP]) fun i h1 h2=>?_
   have hi:i<n:=by simpa[fP]using h1
   rw[mK,mK,List.getElem_ofFn]
   unfold gq
   rw[mK,List.getElem_range,show((0:Int)+(i:Int))=(i:Int) by omega]
   show(if hz:(i:Int).toNat<n then V (f ⟨(i:Int).toNat,hz⟩)else .non)=_
   rw[dif_pos (show(i:Int).toNat<n by omega)]
  rw[e]
theorem GI{β:Type}(V:β->W)(Pb:Nat->β->Prop)(hr:fs ρ st=.ok [.int n] st)(hn:n<=100000)(h:∀i:Nat,i<n->∃b,Pb i b/\el ((su cap ρ).set 0 (some (.int i))) st=.ok (V b) st) :
  ∃r:List β,r.length=n/\(∀i b,r[i]?=some b->Pb i b)/\bE ik (ai (jO cap (dC fs) (jy 0) vZ el) aD) ρ st=.ok (.tup (r.map V)) (st++[.lst (r.map V)]):=by
 obtain⟨r,h1,h2,e⟩:=Jy (cap:=cap) (el:=el) V Pb hr hn h
 exact⟨r,h1,h2,cu (aw e aX) (mS (b_ dm))⟩
end
structure Mc where
 nm:List Nat
 gd:List Bool
 tb:List (List (List Nat))
def fS(r:List Nat):W:=.tup (r.map fun k=>W.int (k:Nat))
def we(t:List (List Nat)):W:=.tup (t.map fS)
def Mc.w(M:Mc):W:=.tup [.str M.nm,.tup (M.gd.map W.bl),.tup (M.tb.map we)]
def S7(n:Nat)(t:List (List Nat)):Prop:=t.length=n/\∀r∈t,r.length=n/\∀k∈r,k<n
structure lK(M:Mc)(n:Nat):Prop where
 gd:M.gd.length=n
 tb:M.tb.length=2^M.nm.length
 t:∀t∈M.tb,S7 n t
theorem ur(r:List Nat)(n:Nat):(fS r).und n=true:=by
 unfold fS W.und
 induction r with
 |nil=>rfl
 |cons x r ih=>simp only[bn,undWs,ih,dA];rfl
theorem Jz(t:List (List Nat))(n:Nat):(we t).und n=true:=by
 unfold we W.und
 induction t with
 |nil=>rfl
 |cons x r ih=>simp only[bn,undWs,ih,dA];exact ur x n
theorem GJ(t:List (List (List Nat)))(n:Nat):undWs n (t.map we)=true:=by
 induction t with
 |nil=>rfl
 |cons x r ih=>simp only[bn,undWs,ih,dA];exact Jz x n
theorem JA(t:List Bool)(n:Nat):undWs n (t.map W.bl)=true:=by
 induction t with
 |nil=>rfl
 |cons x r ih=>simp only[bn,undWs,ih,dA];rfl
theorem GK(M:Mc)(n:Nat):M.w.und n=true:=by
 unfold Mc.w
 simp[W.und,undWs,GJ,JA]
theorem E6{c:Nat}{st:List ao}(h:c<=100):zo (.int 1) (.int c) st=.ok (.int ((2^c:Nat):Int)) st:=by
 have:=i9 (C:=fun i j=>0<=j/\j<=1000000/\i.natAbs<2^64) (f:=fun i j=>i*2^j.toNat) (p:=1) (q:=(c:Int)) (st:=st) ⟨by omega,by omega,by decide⟩
 rw[show zo (.int 1) (.int c) st=_ from this]
 simp
theorem l_{s:List ao}{p:Nat}{ws:List W}{y:W}(h:s[p]?=some (.lst ws))(hl:ws.length<1000000):bM (.loc p) [y] s=.ok .non (s.set p (.lst (ws++[y]))):=nC h hl
theorem NA{n q:Nat}(h:q<n):CC n (q:Int)=some q:=by
 unfold CC
 rw[aJ (by omega),aJ (by omega)];simp
theorem BY{s:List ao}{p q:Nat}{ws:List W}{v:W}(h:s[p]?=some (.lst ws))(hq:q<ws.length):pM (.loc p) (.int q) v s=some (s.set p (.lst (ws.set q v))):=MD h (NA hq)
theorem NB{ws:List W}{s:List ao}:wL [.tup ws] s=.ok (.loc s.length) (s++[.lst ws]):=rfl
def nW(l:List Nat):List W:=l.map fun k=>W.int (k:Nat)
theorem K4{s:List ao}{p i:Nat}{l:List Nat}{k:Nat}(h:s[p]?=some (.lst (nW l)))(e:l[i]?=some k):bu (.loc p) (.int i) s=.ok (.int k) s:=ky (b_ h) (f6 (by rw[nW,aG,e];rfl))
theorem GL{s:List ao}{i:Nat}{l:List Nat}{k:Nat}(e:l[i]?=some k):bu (fS l) (.int i) s=.ok (.int k) s:=lH (f6 (by rw[aG,e];rfl))
theorem GM{s:List ao}{i:Nat}{t:List (List Nat)}{r:List Nat}(e:t[i]?=some r):bu (we t) (.int i) s=.ok (fS r) s:=lH (f6 (by rw[aG,e];rfl))
theorem w6{fe:FE}{f:FG}{ρ ρ':cI}{st st1:List ao}{w:W}(h:fe ρ st=.ok w st1)(h2:f w ρ=some ρ'):uV fe f ρ st=.nx ρ' st1:=by
 unfold uV;rw[h];simp only[R.stmt_ok];rw[h2]
theorem GN{c:Nat}{l:List Nat}{st:List ao}:Ey false (.str [c]) (.str l) st=.ok (.bl (decide (c∈l))) st:=rfl
theorem yu{fe:FE}{ρ:cI}{st st1:List ao}{l:List Nat}(h:fe ρ st=.ok (.str l) st1):gD fe ρ st=.ok (il l,none) st1:=by unfold gD;rw[h];rfl
theorem An{l:List Nat}{i:Nat}{w:W}(h:(il l)[i]?=some w):∃c,l[i]?=some c/\w=.str [c]:=by
 simp only[il,aG,eV]at h
 obtain⟨c,h1,rfl⟩:=h
 exact⟨c,h1,rfl⟩
theorem sR(l:List Nat):(il l).length=l.length:=by simp[il]
theorem pw{α:Type}{l:List α}{i:Nat}{c:α}(h:l[i]?=some c):l.take (i+1)=l.take i++[c]:=by
 rw[List.take_succ,h];rfl
def j9(m:List Nat)(l:List Nat):Nat:=l.foldl (fun a c=>2*a+if c∈m then 1 else 0) 0
theorem w9(m l:List Nat)(c:Nat):j9 m (l++[c])=2*j9 m l+if c∈m then 1 else 0:=by unfold j9;rw[List.foldl_append];rfl
theorem Dc(m:List Nat)(l:List Nat):j9 m l<2^l.length:=by
 have key:∀(l:List Nat) (a k:Nat),a<2^k->l.foldl (fun a c=>2*a+if c∈m then 1 else 0) a<2^(k+l.length):=by
  intro l
  induction l with
  |nil=>intro a k h;simpa using h
  |cons c r ih=>
   intro a k h
   have:=ih (2*a+if c∈m then 1 else 0) (k+1) (by rw[Nat.pow_succ];split<;>omega)
   rw[List.foldl_cons,bd,show k+(r.length+1)=k+1+r.length by omega];exact this
 have:=key l 0 0 (by simp)
 simpa[j9]using this
theorem D9(names m:List Nat)(st:List ao):GC [.str names,.str m] st=.ok (.int (j9 m names:Nat)) st:=by
 refine fq (N:=4) (ws:=[.str names,.str m]) (body:=P1) ?_ rfl
 apply aC
 ·(walk_at "evs")
 refine fU (fun i ρ s=>∃o3:Option W,ρ=[some (.str names),some (.str m),some (.int (j9 m (names.take i):Nat)),o3]/\s=st) (yu (st1:=st) kv) ⟨none,rfl,rfl⟩ (fun _ _ _ _=>trivial) ?_ ?_
 ·rintro i w ρ s hw ⟨o3,rfl,rfl⟩
  obtain⟨c,hc,rfl⟩:=An hw
  refine⟨_,rfl,?_⟩
  have e:=w9 m (names.take i) c
  rw[<- pw hc]at e
  apply aC
  ·exact bg (bA kv bR (qi (.inr (by decide))))
  by_cases h:c∈m
  ·have t1:decide (c∈m)=true:=bY h
   rw[aJ h]at e
   apply tJ
   ·exact aZ (bA kv kv (by rw[GN,t1]))
   apply dg
   ·exact bg (bA kv bR et)
   ·exact⟨_,_,rfl,_,by rw[e,fH,iL,nn];rfl,rfl⟩
  ·have t1:decide (c∈m)=false:=ba h
   rw[aV h]at e
   apply lI
   ·exact aZ (bA kv kv (by rw[GN,t1]))
   apply dg
   ·exact eM
   ·exact⟨_,_,rfl,_,by rw[e,fH,iL,nn];rfl,rfl⟩
 ·rintro ρ s ⟨o3,rfl,rfl⟩
  apply bN
  ·(walk_at "evs")
  ·exact⟨_,_,rfl,by rw[show(il names,(none:Option (Nat×List W))).fst.length=names.length from sR names,dE],[],by simp⟩
theorem BZ(names m:List Nat)(st:List ao):w5 [.str names,.str m] st=.ok (.int (j9 m names:Nat)) st:=by
 refine fq (N:=4) (ws:=[.str names,.str m]) (body:=KU) ?_ rfl
 apply aC
 ·(walk_at "evs")
 refine fU (fun i ρ s=>∃o3:Option W,ρ=[some (.str names),some (.str m),some (.int (j9 m (names.take i):Nat)),o3]/\s=st) (yu (st1:=st) kv) ⟨none,rfl,rfl⟩ (fun _ _ _ _=>trivial) ?_ ?_
 ·rintro i w ρ s hw ⟨o3,rfl,rfl⟩
  obtain⟨c,hc,rfl⟩:=An hw
  refine⟨_,rfl,?_⟩
  have e:=w9 m (names.take i) c
  rw[<- pw hc]at e
  have bi:DY [.bl (decide (c∈m))] s=.ok (.int ((if c∈m then 1 else 0:Nat):Int)) s:=by
   by_cases h:c∈m
   ·rw[bY h,aJ h];rfl
   ·rw[ba h,aV h];rfl
  apply dg
  ·exact bg (bA (bA bR kv (qi (.inl (by decide)))) (cu (aw (bA kv kv GN) aX) bi) et)
  ·exact⟨_,_,rfl,_,by rw[e,fH,iL];rfl,rfl⟩
 ·rintro ρ s ⟨o3,rfl,rfl⟩
  apply bN
  ·(walk_at "evs")
  ·exact⟨_,_,rfl,by rw[show(il names,(none:Option (Nat×List W))).fst.length=names.length from sR names,dE],[],by simp⟩
def yw(r:List Nat):Option Nat->Nat
 |none=>0
 |some k=>r.getD k 0
def ut(M:Mc)(r:List Nat)(m:List Nat)(x:Option Nat×Option Nat):Nat:=((M.tb.getD (j9 m M.nm) []).getD (yw r x.1) []).getD (yw r x.2) 0
def D_(M:Mc):List Pl->List (Option Nat×Option Nat)->List Nat->List Nat
 |p::ps,x::xs,r=>D_ M ps xs (r++[ut M r p.m x])
 |_,_,r=>r
def GO(n:Nat)(x:Option Nat×Option Nat):Prop:=(∀k,x.1=some k->k<n)/\∀k,x.2=some k->k<n
theorem Ao(r:List Nat)(o:Option Nat)(p:Nat)(st:List ao)(hc:st[p]?=some (.lst (nW r)))(ho:∀k,o=some k->k<r.length):wY [.loc p,oW o] st=.ok (.int (yw r o:Nat)) st:=by
 cases o with
 |none=>
  apply eK
  apply bN
  ·exact qS (aZ (zF kv rfl)) bR
  ·exact⟨_,_,rfl,rfl,rfl⟩
 |some k=>
  have hk:=ho k rfl
  have e:r[k]?=some (r.getD k 0):=by rw[aF,aj hk];rfl
  apply eK
  apply bN
  ·exact qT (aZ (zF kv rfl)) (bA kv kv (K4 hc e))
  ·exact⟨_,_,rfl,rfl,rfl⟩
theorem Gr.lk{ps:List Pl}{S sz:List Nat}{lk:List (Option Nat×Option Nat)}(h:Gr ps S sz lk){i:Nat}{x:Option Nat×Option Nat}(hx:lk[i]?=some x):GO i x:=by
 obtain⟨_,l2,_⟩:=h.ok
 have hi:i<ps.length:=by have:=(ar.mp hx).1;omega
 obtain⟨S1,S2,p,k,x',g1,q1,q2,q3,hs,g2⟩:=h.step i hi
 rw[hx]at q3;cases q3
 obtain⟨_,_,ha⟩:=g1.ok
 rw[show(ps.take i).length=i by rw[aL];omega]at ha
 obtain⟨b,m⟩:=p
 cases hs with
 |z=>exact⟨fun k e=>by simp at e,fun k e=>by simp at e⟩
 |@l a S=>have:=ha.2.1;have:=ha.2.2.1;exact⟨fun k e=>by simp at e;omega,fun k e=>by simp at e⟩
 |@r a S=>have:=ha.2.1;have:=ha.2.2.1;exact⟨fun k e=>by simp at e,fun k e=>by simp at e;omega⟩
 |@b c a S=>have:=ha.2.1;have:=ha.2.2.1;exact⟨fun k e=>by simp at e;omega,fun k e=>by simp at e;omega⟩
theorem Ap(M:Mc)(p:Pl)(x:Option Nat×Option Nat):∀(ps:List Pl) (lk:List (Option Nat×Option Nat)) (r:List Nat),ps.length=lk.length->D_ M (ps++[p]) (lk++[x]) r=D_ M ps lk r++[ut M (D_ M ps lk r) p.m x]
 |[],[],r,_=>rfl
 |q::ps,y::lk,r,h=>by
  show D_ M (ps++[p]) (lk++[x]) _=_
  rw[Ap M p x ps lk _ (by simpa using h)];rfl
 |[],_::_,_,h=>by simp at h
 |_::_,[],_,h=>by simp at h
def fR(M:Mc)(ps:List Pl)(lk:List (Option Nat×Option Nat)):List Nat:=D_ M ps lk []
theorem GP{n:Nat}{r:List Nat}{o:Option Nat}(hn:1<=n)(hr:∀k∈r,k<n)(ho:∀k,o=some k->k<r.length):yw r o<n:=by
 cases o with
 |none=>exact hn
 |some k=>
  have hk:=ho k rfl
  have e:r[k]?=some (r.getD k 0):=by rw[aF,aj hk];rfl
  exact hr _ (cf e)
theorem B0{M:Mc}{n:Nat}{r:List Nat}{m:List Nat}{x:Option Nat×Option Nat}(hM:lK M n)(hn:1<=n)(hr:∀k∈r,k<n)(hx:GO r.length x) :
  ∃t q,M.tb[j9 m M.nm]?=some t/\t[yw r x.1]?=some q/\q[yw r x.2]?=some (ut M r m x)/\ut M r m x<n:=by
 have h1:j9 m M.nm<M.tb.length:=by rw[hM.tb];exact Dc m M.nm
 have e1:M.tb[j9 m M.nm]?=some (M.tb.getD (j9 m M.nm) []):=by rw[aF,aj h1];rfl
 obtain⟨t1,t2⟩:=hM.t _ (cf e1)
 have h2:yw r x.1<(M.tb.getD (j9 m M.nm) []).length:=by rw[t1];exact GP hn hr hx.1
 have e2:(M.tb.getD (j9 m M.nm) [])[yw r x.1]?=some ((M.tb.getD (j9 m M.nm) []).getD (yw r x.1) []):=by rw[aF (l:=M.tb.getD (j9 m M.nm) []),aj h2];rfl
 obtain⟨t3,t4⟩:=t2 _ (cf e2)
 have h3:yw r x.2<((M.tb.getD (j9 m M.nm) []).getD (yw r x.1) []).length:=by rw[t3];exact GP hn hr hx.2
 have e3:((M.tb.getD (j9 m M.nm) []).getD (yw r x.1) [])[yw r x.2]?=some (ut M r m x):=by unfold ut;rw[aF (l:=(M.tb.getD (j9 m M.nm) []).getD (yw r x.1) []),aj h3];rfl
 exact⟨_,_,e1,e2,e3,t4 _ (cf e3)⟩
theorem GQ{M:Mc}{k:Nat}{t:List (List Nat)}(h:M.tb[k]?=some t)(st:List ao):bu (.tup (M.tb.map we)) (.int k) st=.ok (we t) st:=lH (f6 (by rw[aG,h];rfl))
theorem K5{M:Mc}{n:Nat}{r:List Nat}{m:List Nat}{x:Option Nat×Option Nat}{p:Nat}(hM:lK M n)(hn:1<=n)(hr:∀k∈r,k<n)(hx:GO r.length x)(st:List ao)(hc:st[p]?=some (.lst (nW r))) :
  re [M.w,.str m,iQ x,.loc p] st=.ok (.int (ut M r m x:Nat)) st:=by
 obtain⟨t,q,e1,e2,e3,_⟩:=B0 (m:=m) hM hn hr hx
 have g0:bu M.w (.int 0) st=.ok (.str M.nm) st:=rfl
 have g2:bu M.w (.int 2) st=.ok (.tup (M.tb.map we)) st:=rfl
 have x0:bu (iQ x) (.int 0) st=.ok (oW x.1) st:=rfl
 have x1:bu (iQ x) (.int 1) st=.ok (oW x.2) st:=rfl
 have lt:=D9 M.nm m st
 have b1:=Ao r x.1 p st hc hx.1
 have b2:=Ao r x.2 p st hc hx.2
 apply eK
 apply aC
 ·exact bg (bA (bA kv bR g2) (cz (aw (bA kv bR g0) kn) lt rfl) (GQ e1 st))
 apply bN
 ·exact bA (bA kv (cz (aw kv (aw (bA kv bR x0) aX)) b1 rfl) (GM e2)) (cz (aw kv (aw (bA kv bR x1) aX)) b2 rfl) (GL e3)
 ·exact⟨_,_,rfl,rfl,rfl⟩
section
variable{ps:List Pl}{S sz:List Nat}{lk:List (Option Nat×Option Nat)}{M:Mc}{n:Nat}
theorem mX(h:Gr ps S sz lk){i:Nat}{p:Pl}{x:Option Nat×Option Nat}(hp:ps[i]?=some p)(hx:lk[i]?=some x):fR M (ps.take (i+1)) (lk.take (i+1))=fR M (ps.take i) (lk.take i)++[ut M (fR M (ps.take i) (lk.take i)) p.m x]:=by
 obtain⟨_,l2,_⟩:=h.ok
 unfold fR
 rw[pw hp,pw hx,Ap M p x _ _ _ (by rw[aL,aL,l2])]
theorem mY(h:Gr ps S sz lk)(hM:lK M n)(hn:1<=n):∀i,i<=ps.length->(fR M (ps.take i) (lk.take i)).length=i/\∀k∈fR M (ps.take i) (lk.take i),k<n:=by
 obtain⟨_,l2,_⟩:=h.ok
 intro i
 induction i with
 |zero=>intro _;exact⟨rfl,by simp[fR,D_]⟩
 |succ i ih=>
  intro hi
  obtain⟨h1,h2⟩:=ih (by omega)
  obtain⟨p,hp⟩:∃p,ps[i]?=some p:=⟨_,aj (by omega)⟩
  obtain⟨x,hx⟩:∃x,lk[i]?=some x:=⟨_,aj (by omega)⟩
  obtain⟨_,_,_,_,_,e⟩:=B0 (m:=p.m) hM hn h2 (by rw[h1];exact h.lk hx)
  rw[mX h hp hx]
  refine⟨by simp[h1],fun k hk=>?_⟩
  rcases aU.mp hk with z|z
  ·exact h2 k z
  ·simp at z;subst z;exact e
theorem NC{a b:List W}{i:Nat}{w:W}(h:(qg a b)[i]?=some w):∃x y,a[i]?=some x/\b[i]?=some y/\w=.tup [x,y]:=u9 h
theorem Qr{fs:FA}{ρ:cI}{st st1:List ao}{xs ys:List W}(h:fs ρ st=.ok [.tup xs,.tup ys] st1):xQ fs ρ st=.ok (qg xs ys,none) st1:=by unfold xQ;rw[h];rfl
theorem GR(h:Gr ps S sz lk)(hl:ps.length<=900)(hM:lK M n)(hn:1<=n)(st:List ao):nG [M.w,bG ps] st=.ok (fS (fR M ps lk)) st:=by
 obtain⟨_,l2,_⟩:=h.ok
 have lo:=rC h (by omega) (st++[ao.lst []])
 refine fq (N:=5) (ws:=[M.w,bG ps]) (body:=KN) ?_ (by simp only[undWs,dA];exact ur _ _)
 apply aC
 ·(walk_at "evs")
 refine fU (fun i ρ s=>∃(o3 o4:Option W),ρ=[some M.w,some (bG ps),some (.loc st.length),o3,o4]/\st <+: s/\s[st.length]?=some (.lst (nW (fR M (ps.take i) (lk.take i))))/\i<=ps.length) (k:=(qg (ps.map Pl.w) (lk.map iQ),none))
  (Qr (st1:=st++[ao.lst []]) (aw kv (aw (cz kn lo rfl) aX))) ⟨none,none,rfl,a9 _ _,dm,ce _⟩ (fun _ _ _ _=>trivial) ?_ ?_
 ·rintro i w ρ s hw ⟨o3,o4,rfl,hp,hc,hi⟩
  obtain⟨a,b,ha,hb,rfl⟩:=NC hw
  have hip:i<ps.length:=by have:=(ar.mp ha).1;simpa using this
  obtain⟨p,yU⟩:∃p,ps[i]?=some p:=⟨_,aj hip⟩
  obtain⟨x,hx⟩:∃x,lk[i]?=some x:=⟨_,aj (by omega)⟩
  rw[aG,yU]at ha;cases ha
  rw[aG,hx]at hb;cases hb
  refine⟨_,rfl,?_⟩
  obtain⟨r1,r2⟩:=mY (M:=M) h hM hn i hi
  have ra:=K5 (m:=p.m) hM hn r2 (by rw[r1];exact h.lk hx) s hc
  have ap:=l_ (y:=.int (ut M (fR M (ps.take i) (lk.take i)) p.m x:Nat)) hc (by simp[nW];omega)
  apply dg
  ·exact d9 (hZ kv (df hc) (aw (cz (aw kv (aw (bA kv bR (BW p s)) (aw kv kn))) ra rfl) aX) ap)
  ·refine⟨_,_,rfl,_,_,rfl,rE hp (az _),?_,by omega⟩
   rw[dO hc,mX h yU hx];simp[nW]
 ·rintro ρ s ⟨o3,o4,rfl,⟨x,rfl⟩,hc,hi⟩
  rw[show(qg (ps.map Pl.w) (lk.map iQ),(none:Option (Nat×List W))).fst.length=ps.length by rw[u_];simp[l2],dE,show ps.length=lk.length by omega,dE]at hc
  apply bN
  ·exact cu kn (mS (b_ hc))
  ·exact⟨_,_,rfl,rfl,x,rfl⟩
end
theorem GS(l:List Nat)(k:Nat)(st:List ao):kz (k+1) [.str l,.str l] st=.ok (.bl true) st:=by
 refine fq (N:=3) (ws:=[.str l,.str l]) (body:=Ac (kz k)) ?_ rfl
 (walk_at "go")
 apply bN
 ·apply ul
  ·(walk_at "evs")
  ·(walk_at "evs")
 ·exact⟨_,_,rfl,by simp,[],by simp⟩
theorem vx{ws:List W}{k:Nat}{st:List ao}(hl:ws.length<=1000)(h:∀w∈ws,kz k [w,w] st=.ok (.bl true) st):kz (k+1) [.tup ws,.tup ws] st=.ok (.bl true) st:=by
 refine fq (N:=3) (ws:=[.tup ws,.tup ws]) (body:=Ac (kz k)) ?_ rfl
 apply eY
 ·(walk_at "evs")
 apply sB
 apply bw
 ·apply ph
  ·(walk_at "evs")
  ·(walk_at "evs")
   simp
 apply bJ
 apply sB
 refine fU (fun i ρ bh=>∃o,ρ=[some (.tup ws),some (.tup ws),o]/\bh=st) (jg (by(walk_at "evs")) (by omega)) ⟨none,rfl,rfl⟩ (fun _ _ _ _=>trivial) ?_ ?_
 ·rintro i w ρ bh hw ⟨o,rfl,rfl⟩
  obtain⟨hi,rfl⟩:=jA hw
  refine⟨_,rfl,?_⟩
  have hi':i<ws.length:=by simpa using hi
  have hat:bu (.tup ws) (.int (0+(i:Int))) bh=.ok ws[i] bh:=lH (by rw[rP];exact f6 (by simp[hi']))
  have hs:=h ws[i] (dD _)
  apply lI
  ·(walk_at "evs")
  apply dg
  ·(walk_at "evs")
  ·exact⟨_,_,rfl,_,rfl,rfl⟩
 ·rintro ρ bh ⟨o,rfl,rfl⟩
  apply d6
  ·(walk_at "evs")
  ·exact⟨_,_,rfl,rfl,[],by simp⟩
theorem D'(b:Bool)(k:Nat)(st:List ao):kz (k+1) [.bl b,.bl b] st=.ok (.bl true) st:=by
 have hb:iE (.bl b) (.bl b) st=.ok (.bl true) st:=Pz (by simp)
 refine fq (N:=3) (ws:=[.bl b,.bl b]) (body:=Ac (kz k)) ?_ rfl
 apply bw
 ·(walk_at "evs")
 apply bJ
 apply bw
 ·(walk_at "evs")
 apply bJ
 apply eY
 ·(walk_at "evs")
 apply d6
 ·apply ul
  ·(walk_at "evs")
  ·(walk_at "evs")
 ·exact⟨_,_,rfl,rfl,[],by simp⟩
theorem Aq(z:Int)(k:Nat)(st:List ao):kz (k+1) [.int z,.int z] st=.ok (.bl true) st:=by
 have hb:iE (.int z) (.int z) st=.ok (.bl true) st:=fm (by simp)
 refine fq (N:=3) (ws:=[.int z,.int z]) (body:=Ac (kz k)) ?_ rfl
 apply bw
 ·(walk_at "evs")
 apply bJ
 apply bw
 ·(walk_at "evs")
 apply bJ
 apply bw
 ·(walk_at "evs")
 apply bJ
 apply eY
 ·(walk_at "evs")
 apply d6
 ·apply ul
  ·(walk_at "evs")
  ·apply ul
   ·(walk_at "evs")
   ·(walk_at "evs")
 ·exact⟨_,_,rfl,by simp,[],by simp⟩
def Sm(w:W):Prop:=∀st,kz 40 [w,w] st=.ok (.bl true) st
theorem Qs(b:Bool):Sm (.bl b):=fun st=>D' b 39 st
theorem ND(r:List Nat)(h:r.length<=1000):Sm (fS r):=fun st=>vx (k:=39) (by simpa using h) fun w hw=>by
 obtain⟨z,_,rfl⟩:=cS.mp hw
 exact Aq _ _ _
section
variable{ps:List Pl}{S sz:List Nat}{lk:List (Option Nat×Option Nat)}{M:Mc}{n:Nat}
theorem Ar{r:List Nat}{k:Nat}{o:Option Nat}(h:∀j,o=some j->j<k):yw (r.take k) o=yw r o:=by
 cases o with
 |none=>rfl
 |some j=>show(r.take k).getD j 0=r.getD j 0;rw[aF,aF,cE (h j rfl)]
theorem w_(h:Gr ps S sz lk)(hM:lK M n)(hn:1<=n):∀i,i<=ps.length->(fR M ps lk).take i=fR M (ps.take i) (lk.take i):=by
 obtain⟨_,l2,_⟩:=h.ok
 have key:∀d i,i+d=ps.length->(fR M ps lk).take i=fR M (ps.take i) (lk.take i):=by
  intro d
  induction d with
  |zero=>
   intro i hi
   have e1:ps.take i=ps:=bz (by omega)
   have e2:lk.take i=lk:=bz (by omega)
   have hg:=(mY (M:=M) h hM hn i (by omega)).1
   rw[e1,e2]at hg ⊢
   exact bz (by omega)
  |succ d ih=>
   intro i hi
   have e:=ih (i+1) (by omega)
   obtain⟨p,hp⟩:∃p,ps[i]?=some p:=⟨_,aj (by omega)⟩
   obtain⟨x,hx⟩:∃x,lk[i]?=some x:=⟨_,aj (by omega)⟩
   rw[mX h hp hx]at e
   have hg:=(mY (M:=M) h hM hn i (by omega)).1
   have e2:=hJ (List.take i) e
   rw[oY,gH (by omega),cw (by omega)]at e2
   rw[e2];exact bz (by omega)
 intro i hi
 exact key (ps.length-i) i (by omega)
theorem mE(h:Gr ps S sz lk)(hM:lK M n)(hn:1<=n):(fR M ps lk).length=ps.length/\∀k∈fR M ps lk,k<n:=by
 obtain⟨_,l2,_⟩:=h.ok
 have:=mY (M:=M) h hM hn ps.length (az _)
 rw[dE,show ps.length=lk.length by omega,dE]at this
 exact⟨by rw[this.1];omega,this.2⟩
theorem GT(h:Gr ps S sz lk)(hM:lK M n)(hn:1<=n){i:Nat}{p:Pl}{x:Option Nat×Option Nat}(hp:ps[i]?=some p)(hx:lk[i]?=some x):(fR M ps lk)[i]?=some (ut M (fR M ps lk) p.m x):=by
 have hi:i<ps.length:=(ar.mp hp).1
 have e:=w_ (M:=M) h hM hn (i+1) (by omega)
 rw[mX h hp hx,<- w_ (M:=M) h hM hn i (by omega)]at e
 have N_:=h.lk hx
 have e3:ut M ((fR M ps lk).take i) p.m x=ut M (fR M ps lk) p.m x:=by unfold ut;rw[Ar N_.1,Ar N_.2]
 rw[e3]at e
 have hl:=(mE (M:=M) h hM hn).1
 have:=hJ (fun l=>l[i]?) e
 simp only[cE (show i<i+1 by omega)]at this
 rw[this,aW (by rw[aL];omega),aL,show i-min i (fR M ps lk).length=0 by omega];rfl
def As(M:Mc)(ps:List Pl)(lk:List (Option Nat×Option Nat)):Nat:=(fR M ps lk).getD (ps.length-1) 0
def JB(M:Mc)(ps:List Pl)(lk:List (Option Nat×Option Nat)):Bool:=M.gd.getD (if 0<ps.length then As M ps lk else 0) false
theorem Rm(h:Gr ps S sz lk)(hM:lK M n)(hn:1<=n)(h0:0<ps.length)(st:List ao):bu (fS (fR M ps lk)) (.int (-1)) st=.ok (.int (As M ps lk:Nat)) st:=by
 have hl:=(mE (M:=M) h hM hn).1
 refine lH ?_
 rw[show(-1:Int)=-((0:Nat)+1:Int) by rfl]
 refine xX ?_
 rw[gP (by rw[aE];omega),aE,aG,hl,show ps.length-1-0=ps.length-1 by omega,aj (by omega)]
 show some (W.int _)=some (W.int _)
 unfold As
 rw[aF,aj (by omega)];rfl
theorem GU(hM:lK M n){k:Nat}(hk:k<n)(st:List ao):bu (.tup (M.gd.map W.bl)) (.int k) st=.ok (.bl (M.gd.getD k false)) st:=
 lH (f6 (by rw[aG,aj (by rw[hM.gd];exact hk),aF,aj (by rw[hM.gd];exact hk)];rfl))
theorem NE(h:Gr ps S sz lk)(hM:lK M n)(hn:1<=n):(if 0<ps.length then As M ps lk else 0)<n:=by
 split
 ·rename_i h0
  obtain⟨hl,hr⟩:=mE (M:=M) h hM hn
  unfold As
  rw[aF,aj (by omega)]
  exact hr _ (dD _)
 ·exact hn
end
section
variable{ps:List Pl}{S sz:List Nat}{lk:List (Option Nat×Option Nat)}
theorem NF{fs:FA}{ρ:cI}{st st1:List ao}{ws:List W}(h:fs ρ st=.ok [.tup ws] st1):qf fs ρ st=.ok (lF ws,none) st1:=by unfold qf;rw[h];rfl
end
section
variable{ps:List Pl}{S sz:List Nat}{lk:List (Option Nat×Option Nat)}
theorem De(ps:List Pl)(hn:ps.length<=1000){ρ:cI}(hρ:ρ[0]?=some (some (bG ps)))(st:List ao):jO [none] (gD (ag 0)) (jy 0) vZ (eC .non) ρ st=.ok (.loc st.length) (st++[.lst ((List.replicate ps.length none).map oW)]):=by
 have:=C8 (cap:=[none]) (f:=jy 0) (el:=eC .non) (ρ:=ρ) (st:=st) (fun _=>.non) (xV (fe:=ag 0) (ws:=ps.map Pl.w) (st1:=st) (jP hρ)) (by rw[aE];show _<=1000000;omega) trivial fun w _=>⟨_,rfl,bR⟩
 rw[this,List.map_replicate,b7]
 congr 4
 exact List.map_const' ..
def Up(lk:List (Option Nat×Option Nat))(f:Option Nat×Option Nat->Option Nat)(i:Nat)(l:List (Option Nat)):Prop:=
 (∀p u:Nat,l[p]?=some (some u)->∃x,lk[u]?=some x/\f x=some p)/\∀u x p,u<i->lk[u]?=some x->f x=some p->∃v,l[p]?=some (some v)
theorem Up.zero{lk:List (Option Nat×Option Nat)}{f:Option Nat×Option Nat->Option Nat}{k:Nat}:Up lk f 0 (List.replicate k none):=⟨fun p u e=>by
 rw[i6]at e
 split at e<;>simp at e,fun u x p h=>absurd h (by omega)⟩
theorem Up.skip{lk:List (Option Nat×Option Nat)}{f:Option Nat×Option Nat->Option Nat}{i:Nat}{l:List (Option Nat)}{x:Option Nat×Option Nat}(h:Up lk f i l)(hx:lk[i]?=some x)(hf:f x=none):Up lk f (i+1) l:=⟨h.1,fun u y p hu hy hp=>by
 by_cases e:u=i
 ·subst e;rw[hx]at hy;cases hy;rw[hf]at hp;cases hp
 ·exact h.2 u y p (by omega) hy hp⟩
theorem Up.put{lk:List (Option Nat×Option Nat)}{f:Option Nat×Option Nat->Option Nat}{i q:Nat}{l:List (Option Nat)}{x:Option Nat×Option Nat}(h:Up lk f i l)(hx:lk[i]?=some x)(hf:f x=some q)(hq:q<l.length):Up lk f (i+1) (l.set q (some i)):=⟨fun p u e=>by
 by_cases z:q=p
 ·subst z
  rw[cb hq]at e
  cases e;exact⟨x,hx,hf⟩
 ·rw[cN z]at e;exact h.1 p u e,fun u y p hu hy hp=>by
 by_cases z:q=p
 ·subst z;exact⟨i,cb hq⟩
 ·rw[cN z]
  by_cases e:u=i
  ·subst e;rw[hx]at hy;cases hy;rw[hf]at hp;exact absurd (bx hp) z
  ·exact h.2 u y p (by omega) hy hp⟩
theorem NG(h:Gr ps S sz lk)(hn:ps.length<=900)(st:List ao):∃(A B:List (Option Nat)) (x:List ao),A.length=ps.length/\B.length=ps.length/\Up lk Prod.fst ps.length A/\Up lk Prod.snd ps.length B/\(st++x)[st.length]?=some (.lst (A.map oW))/\(st++x)[st.length+1]?=some (.lst (B.map oW))/\GD [bG ps] st=.ok (.tup [.loc st.length,.loc (st.length+1)]) (st++x):=by
 obtain⟨l1,l2,_⟩:=h.ok
 suffices hh:kI (zH fun w bh=>w=.tup [.loc st.length,.loc (st.length+1)]/\st <+: bh/\∃(A B:List (Option Nat)),A.length=ps.length/\B.length=ps.length/\Up lk Prod.fst ps.length A/\Up lk Prod.snd ps.length B/\bh[st.length]?=some (.lst (A.map oW))/\bh[st.length+1]?=some (.lst (B.map oW))) (M1 ([bG ps].map some++List.replicate (5-1) none) st) by
  obtain⟨w,s',e,rfl,⟨x,rfl⟩,A,B,a1,a2,a3,a4,a5,a6⟩:=hh
  refine⟨A,B,x,a1,a2,a3,a4,a5,a6,?_⟩
  have:=jf (N:=5) (body:=M1) (ws:=[bG ps]) e
  rw[wU (by simp[undWs,W.und])]at this
  exact this
 have eA:=De ps (by omega) (ρ:=[some (bG ps),none,none,none,none]) rfl st
 apply aC
 ·exact w6 eA rfl
 generalize hA0:List.replicate ps.length (none:Option Nat)=A0 at *
 have eB:=De ps (by omega) (ρ:=[some (bG ps),lO st.length,none,none,none]) rfl (st++[.lst (A0.map oW)])
 rw[hA0]at eB
 apply aC
 ·exact w6 eB rfl
 rw[show(st++[ao.lst (A0.map oW)]).length=st.length+1 by simp]
 have lA0:A0.length=ps.length:=by rw[<- hA0];simp
 have uA:∀f,Up lk f 0 A0:=fun f=>by rw[<- hA0];exact Up.zero
 have hlk:=rC h (by omega) (st++[ao.lst (A0.map oW)]++[.lst (A0.map oW)])
 refine fU (fun i ρ s=>∃(o3 o4:Option W) (A B:List (Option Nat)),ρ=[some (bG ps),lO st.length,lO (st.length+1),o3,o4]/\st <+: s/\A.length=ps.length/\B.length=ps.length/\s[st.length]?=some (.lst (A.map oW))/\s[st.length+1]?=some (.lst (B.map oW))/\Up lk Prod.fst i A/\Up lk Prod.snd i B) (k:=(lF (lk.map iQ),none))
  (st1:=st++[ao.lst (A0.map oW)]++[.lst (A0.map oW)]) (NF (aw (cz kn hlk rfl) aX)) ⟨none,none,A0,A0,rfl,yr (yr (am _)),lA0,lA0,c6 dm,by rw[show st.length+1=(st++[ao.lst (A0.map oW)]).length by simp];exact dm,uA _,uA _⟩ (fun _ _ _ _=>trivial) ?_ ?_
 ·rintro i w ρ s hw ⟨o3,o4,A,B,rfl,hp,hA,hB,cA,cB,uA,uB⟩
  obtain⟨y,hy,rfl⟩:=sw hw
  rw[aG]at hy
  obtain⟨x,hx,rfl⟩:=eV.mp hy
  obtain⟨k1,k2⟩:=h.lk hx
  have hi:i<ps.length:=by have:=(ar.mp hx).1;omega
  refine⟨_,rfl,?_⟩
  obtain⟨a,b⟩:=x
  have last:∀(s:List ao) (A:List (Option Nat)),st <+: s->A.length=ps.length->s[st.length]?=some (.lst (A.map oW))->s[st.length+1]?=some (.lst (B.map oW))->Up lk Prod.fst (i+1) A->kI (Jt fun ρ s=>∃(o3 o4:Option W) (A B:List (Option Nat)),ρ=[some (bG ps),lO st.length,lO (st.length+1),o3,o4]/\st <+: s/\A.length=ps.length/\B.length=ps.length/\s[st.length]?=some (.lst (A.map oW))/\s[st.length+1]?=some (.lst (B.map oW))/\Up lk Prod.fst (i+1) A/\Up lk Prod.snd (i+1) B)
    (fN (ef (gA (e2 bu (ag 4) (eI 1)))) (zu (ag 2) (e2 bu (ag 4) (eI 1)) (ag 3) pM) bT [some (bG ps),lO st.length,lO (st.length+1),iO (i:Nat),some (iQ (a,b))] s):=by
   intro s A hp hA cA cB uA
   cases b with
   |none=>
    apply lI
    ·exact aZ (eT kx rfl)
    ·exact⟨_,_,rfl,_,_,A,B,rfl,hp,hA,hB,cA,cB,uA,uB.skip hx rfl⟩
   |some q=>
    have:=k2 q rfl
    apply tJ
    ·exact aZ (eT kx rfl)
    apply dg
    ·exact C7 kv kv kx (BY (q:=q) cB (by rw[aE];omega))
    ·exact⟨_,_,rfl,_,_,A,B.set q (some i),rfl,rE hp (by omega),hA,by rw[nK];exact hB,by rw[bC (by omega)];exact cA,by rw[dO cB,rQ];rfl,uA,uB.put hx rfl (by omega)⟩
  cases a with
  |none=>
   apply bw
   ·exact aZ (eT kx rfl)
   apply bJ
   exact last s A hp hA cA cB (uA.skip hx rfl)
  |some q=>
   have:=k1 q rfl
   apply aC
   ·exact cQ (aZ (eT kx rfl)) (C7 kv kv kx (BY (q:=q) cA (by rw[aE];omega)))
   exact last _ (A.set q (some i)) (rE hp (az _)) (by rw[nK];exact hA) (by rw[dO cA,rQ];rfl) (by rw[bC (by omega)];exact cB) (uA.put hx rfl (by omega))
 ·rintro ρ s ⟨o3,o4,A,B,rfl,hp,hA,hB,cA,cB,uA,uB⟩
  rw[show(lF (lk.map iQ),(none:Option (Nat×List W))).fst.length=ps.length by rw[wR,aE,l2]]at uA uB
  apply bN
  ·exact fK (aw kv kn) (au rfl)
  ·exact⟨_,_,rfl,rfl,hp,A,B,hA,hB,uA,uB,cA,cB⟩
end
theorem Ea{α β:Type}(l:List α)(d:α)(f:α->β):(List.range l.length).map (fun i=>f (l.getD i d))=l.map f:=by
 refine jn fun i=>?_
 rw[aG,aG]
 by_cases h:i<l.length
 ·rw[iu h,aj h]
  show some (f (l.getD i d))=_
  rw[aF,aj h];rfl
 ·rw[b9 (by simpa using h),b9 (by omega)];rfl
theorem jQ{α:Type}{l:List α}{i:Nat}(d:α)(h:i<l.length):l[i]?=some (l.getD i d):=by
 rw[aF,aj h];rfl
theorem St.ex{n b:Nat}{S:List Nat}(hb:b<=3)(h:(b+1)/2<=S.length):∃S' k x,St n S b S' k x/\S'.length+(b+1)/2=S.length+1:=by
 obtain rfl|rfl|rfl|rfl:b=0\/b=1\/b=2\/b=3:=by omega
 ·exact⟨_,_,_,.z,by simp⟩
 ·match S,h with
  |a::S,_=>exact⟨_,_,_,.l,by simp⟩
 ·match S,h with
  |a::S,_=>exact⟨_,_,_,.r,by simp⟩
 ·match S,h with
  |c::a::S,_=>exact⟨_,_,_,.b,by simp⟩
  |[_],hz=>simp at hz
  |[],hz=>simp at hz
def xa(d:Int)(i:Nat):Bool:=Builtin.bitAnd (d/2^i) 1==1
def oK(pool:List Nat)(d:Int):List Nat:=((List.range pool.length).filter (xa d)).map fun i=>pool.getD i 0
theorem mZ(pool:List Nat)(d:Int):(oK pool d).Sublist pool:=by
 unfold oK
 have:((List.range pool.length).map fun i=>pool.getD i 0)=pool:=by
  have:=Ea pool 0 (fun x=>x)
  rw[List.map_id']at this;exact this
 conv=>rhs;rw[<- this]
 exact List.Sublist.map _ List.filter_sublist
def yx:W->Nat
 |.int i=>i.toNat
 |_=>0
theorem Eb(pool:List Nat)(hp:pool.length<=50)(d:Int)(st:List ao):Ad [.str pool,.int d] st=.ok (.str (BX (oK pool d))) st:=by
 have hL:pool.length<=mL:=by show _<=1000000;omega
 have hc:=BJ (fi:=dC (ai (bE dG (ai (ag 0) aD)) aD)) (f:=jy 0) (t:=ef (e2 iE (e2 Fk (e2 Mm (ag 2) (ag 0)) (eI 1)) (eI 1))) (el:=e2 bu (ag 1) (ag 0)) (cap:=[none,some 0,some 1]) (ρ:=[some (.str pool),iO d]) (st:=st) (st1:=st) (ws:=gq 0 pool.length) (ck:=none) (fun w=>xa d (yx w)) (fun w=>.str [pool.getD (yx w) 0])
   (by
    have:=jg (fs:=ai (bE dG (ai (ag 0) aD)) aD) (ρ:=[some (.str pool),iO d]) (st:=st) (st1:=st) (q:=(pool.length:Int)) (aw (cu kn (xU hL)) aX) (by omega)
    rw[cq]at this
    exact this) (by rw[fP];show _<=1000000;omega) trivial fun w hw=>by
   obtain⟨i,hi,rfl⟩:=wV hw
   refine⟨[iO (0+(i:Int)),some (.str pool),iO d],rfl,?_,fun _=>?_⟩
   ·have h0:(0:Int)<=0+(i:Int):=by omega
    have hk:(Builtin.bitAnd (d/2^(0+(i:Int)).toNat) 1==1)=xa d (yx (.int (0+(i:Int)))):=rfl
    exact aZ (bA (bA (bA kv kv (i9 h0)) bR (i9 trivial)) bR (fm hk))
   ·refine bA kv kv ?_
    rw[show((0:Int)+(i:Int))=(i:Int) by omega]
    have e2:r6 pool (i:Int)=some (pool.getD i 0):=f6 (jQ 0 hi)
    rw[FK hL e2]
    simp[yx]
 have e:((gq 0 pool.length).filter fun w=>xa d (yx w)).map (fun w=>W.str [pool.getD (yx w) 0])=((oK pool d).map fun c=>[c]).map W.str:=by
  unfold gq oK
  rw[List.filter_map,b7,b7,b7]
  have e1:((fun w=>xa d (yx w))∘fun k:Nat=>W.int (0+(k:Int)))=xa d:=by funext k;simp[yx]
  rw[e1]
  refine eO fun k _=>?_
  simp[yx]
 rw[e]at hc
 have hl:(oK pool d).length<=50:=aM (mZ pool d).length_le hp
 refine fq (N:=2) (ws:=[.str pool,.int d]) (body:=KQ) ?_ rfl
 apply bN
 ·exact Db hc (b_ dm) (by omega)
 ·exact⟨_,_,rfl,rfl,_,by rw[ak]⟩
theorem xb(l:List Nat):kN [] (l.map fun c=>[c])=l:=by
 rw[mq]
 induction l with
 |nil=>rfl
 |cons a r ih=>simp only[bn,lU,ih];rfl
theorem sT{l:List Nat}(h:l.Nodup):BX l=gj l:=by
 have hp:(gj l).Perm l:=(List.perm_ext_iff_of_nodup ((jd l).imp fun h=>a7 h) h).mpr fun d=>iW
 have e:iX (l.map fun c=>[c])=(gj l).map fun c=>[c]:=by
  refine uk (u0 _) ?_ ((gs _).trans (hp.map _).symm)
  refine List.pairwise_map.mpr ((jd l).imp fun{a b} h=>?_)
  intro z
  rcases List.cons_lt_cons_iff.mp z with y|⟨y,_⟩<;>omega
 unfold BX
 rw[e,xb]
def Ec(pool m:List Nat):Prop:=m.length<=50/\(∀d∈m,d∈pool)/\(pool.Nodup->m.Pairwise (· < ·))
theorem Qt{pool:List Nat}(hp:pool.length<=50)(d:Int):Ec pool (BX (oK pool d)):=
 ⟨by rw[Da];exact aM (mZ pool d).length_le hp,fun c hc=>(mZ pool d).subset ((GH _).mem_iff.mp hc),fun h=>by rw[sT ((mZ pool d).nodup h)];exact jd _⟩
theorem NH{f:cI->List ao->R Bool}{ρ:cI}{st a b:List ao}(h1:f ρ st=.ok false a)(h2:f ρ st=.ok true b):False:=by
 rw[h1]at h2;cases h2
theorem Df{st:List ao}{nd:Nat}{ds:List Int}{pool:List Nat}(hd:st[nd]?=some (.lst (yt ds)))(Ti:ds.length<=100)(hp:pool.length<=50) :
  ∃ps S sz lk,Gr ps S sz lk/\S.length<=1/\ps.length<=2*ds.length/\(∀p∈ps,Ec pool p.m)/\vq [.loc nd,.str pool] st=.ok (bG ps) st:=by
 suffices hh:kI (zH fun w bh=>(∃x,bh=st++x)/\undWs st.length [w]=true/\∃ps S sz lk,w=bG ps/\Gr ps S sz lk/\S.length<=1/\ps.length<=2*ds.length/\∀p∈ps,Ec pool p.m) (KR ([W.loc nd,.str pool].map some++List.replicate (6-2) none) st) by
  obtain⟨w,⟨ps,S,sz,lk,rfl,h1,h2,h3,h4⟩,e⟩:=qW hh
  exact⟨ps,S,sz,lk,h1,h2,h3,h4,e⟩
 apply aC
 ·(walk_at "evs")
 apply aC
 ·(walk_at "evs")
 have gR:∀A:List W,lstOf (st++[ao.lst A]) nd=some (yt ds):=fun A=>b_ (c6 hd)
 refine fU (fun i ρ bh=>∃(ps:List Pl) (S sz:List Nat) (lk:List (Option Nat×Option Nat)) (o5 o6:Option W),ρ=[lO nd,some (.str pool),lO st.length,iO S.length,o5,o6]/\bh=st++[.lst (ps.map Pl.w)]/\Gr ps S sz lk/\ps.length=i/\∀p∈ps,Ec pool p.m) (xW (st1:=st++[ao.lst []]) (by(walk_at "evs")) (gR []))
  ⟨[],[],[],[],none,none,rfl,rfl,.nil,rfl,by simp⟩ (fun i ρ bh h=>?_) ?_ ?_
 ·obtain⟨ps,S,sz,lk,o5,o6,rfl,rfl,_⟩:=h
  exact gR _
 ·rintro i w ρ bh hw ⟨ps,S,sz,lk,o5,o6,rfl,rfl,hg,kM,hpm⟩
  obtain⟨d,hdd,rfl⟩:∃d,ds[i]?=some d/\w=.int d:=by
   simp only[yt,aG,eV]at hw
   obtain⟨d,h1,rfl⟩:=hw
   exact⟨d,h1,rfl⟩
  have hi:i<ds.length:=(ar.mp hdd).1
  refine⟨_,rfl,?_⟩
  have hc:(st++[ao.lst (ps.map Pl.w)])[st.length]?=some (.lst (ps.map Pl.w)):=dm
  obtain⟨b0,hb0,eb0⟩:=h_ (q:=d) (n:=4) (by omega)
  have eb0:d%4=(b0:Int):=eb0
  apply aC
  ·exact bg (bA kv bR (i9 (by decide)))
  rw[eb0]
  refine uo (fun ρ bh=>∃b:Nat,b<=3/\(b+1)/2<=S.length/\ρ=[lO nd,some (.str pool),lO st.length,iO S.length,iO d,iO b]/\bh=st++[.lst (ps.map Pl.w)]) ?_ ?_
  ·by_cases h1:S.length<(b0+1)/2
   ·have t1:decide ((S.length:Int)<((b0:Int)+1)/2)=true:=bY (by omega)
    apply tJ
    ·exact aZ (bA (bA (bA kv bR et) bR (i9 (by decide))) kv (lG t1))
    apply dg
    ·(walk_at "evs")
    ·exact⟨_,_,rfl,0,by omega,by omega,rfl,rfl⟩
   ·have t1:decide ((S.length:Int)<((b0:Int)+1)/2)=false:=ba (by omega)
    apply lI
    ·exact aZ (bA (bA (bA kv bR et) bR (i9 (by decide))) kv (lG t1))
    apply dg
    ·exact eM
    ·exact⟨_,_,rfl,b0,by omega,by omega,rfl,rfl⟩
  rintro ρ bh ⟨b2,hb2,sY,rfl,rfl⟩
  obtain⟨S',k,x,rJ,hlen'⟩:=St.ex (n:=ps.length) hb2 sY
  have em:=Eb pool hp (d/4%16) (st++[ao.lst (ps.map Pl.w)])
  have hmk:=Qt hp (d/4%16)
  generalize BX (oK pool (d/4%16))=m at em hmk
  have ap:=nC (y:=(Pl.mk b2 m).w) hc (by rw[aE];show _<1000000;omega)
  rw[fE]at ap
  have ap:bM (.loc st.length) [.tup [.int b2,.str m]] (st++[ao.lst (ps.map Pl.w)])=_:=ap
  apply aC
  ·exact d9 (hZ kv (df hc) (aw (fK (aw kv (aw (cz (aw kv (aw (bA (bA kv bR (i9 (by decide))) bR (i9 (by decide))) aX)) em rfl) aX)) (au rfl)) aX) ap)
  apply dg
  ·exact bg (bA (bA kv bR et) (bA (bA kv bR et) bR (i9 (by decide))) (i9 trivial))
  ·refine⟨_,_,rfl,ps++[⟨b2,m⟩],S',sz++[k],lk++[x],iO d,iO b2,?_,by simp,.snoc hg rJ,by simp[kM],?_⟩
   ·show[_,_,_,iO ((S.length:Int)+1-((b2:Int)+1)/2),_,_]=_
    rw[show(S.length:Int)+1-((b2:Int)+1)/2=(S'.length:Int) by omega]
   ·intro p hp'
    rcases aU.mp hp' with z|z
    ·exact hpm p z
    ·simp at z;subst z;exact hmk
 ·rintro ρ bh ⟨ps,S,sz,lk,o5,o6,rfl,rfl,hg,kM,hpm⟩
  rw[show(yt ds,some (nd,yt ds)).fst.length=ds.length by simp[yt]]at kM
  have hSle:=hg.ok.2.2.le
  refine D2 (fun n ρ bh=>∃(ps:List Pl) (S sz:List Nat) (lk:List (Option Nat×Option Nat)),ρ=[lO nd,some (.str pool),lO st.length,iO S.length,o5,o6]/\bh=st++[.lst (ps.map Pl.w)]/\Gr ps S sz lk/\ps.length+S.length<=2*ds.length/\(∀p∈ps,Ec pool p.m)/\S.length=n) S.length ⟨ps,S,sz,lk,rfl,rfl,hg,by omega,hpm,rfl⟩ ?_ ?_
  ·rintro n ρ bh ⟨ps,S,sz,lk,rfl,rfl,hg,kM,hpm,rfl⟩
   by_cases h1:1<S.length
   ·refine .inr ?_
    have t1:decide ((1:Int)<(S.length:Int))=true:=bY (by omega)
    constructor
    ·exact aZ (bA kv bR (lG t1))
    obtain⟨S',k,x,rJ,hlen'⟩:=St.ex (n:=ps.length) (b:=3) (S:=S) (by omega) (by omega)
    have hc:(st++[ao.lst (ps.map Pl.w)])[st.length]?=some (.lst (ps.map Pl.w)):=dm
    have hS2:=hg.ok.2.2.le
    obtain⟨p,yU⟩:∃p,ps[S.length-1]?=some p:=⟨_,aj (by omega)⟩
    have ix:bu (.loc st.length) (.int ((S.length:Int)-1)) (st++[ao.lst (ps.map Pl.w)])=.ok p.w (st++[ao.lst (ps.map Pl.w)]):=by
     rw[show(S.length:Int)-1=((S.length-1:Nat):Int) by omega]
     exact ky (b_ hc) (f6 (by rw[aG,yU];rfl))
    have hmk:=hpm p (cf yU)
    have ap:=nC (y:=(Pl.mk 3 p.m).w) hc (by rw[aE];show _<1000000;omega)
    rw[fE]at ap
    have ap:bM (.loc st.length) [.tup [.int 3,.str p.m]] (st++[ao.lst (ps.map Pl.w)])=_:=ap
    apply aC
    ·exact d9 (hZ kv (df hc) (aw (fK (aw bR (aw (bA (bA kv (bA kv bR (i9 trivial)) ix) bR (BW p _)) aX)) (au rfl)) aX) ap)
    apply dg
    ·exact bg (bA kv bR (i9 trivial))
    ·refine⟨_,_,rfl,S'.length,by omega,ps++[⟨3,p.m⟩],S',sz++[k],lk++[x],?_,by simp,.snoc hg rJ,by simp;omega,?_,rfl⟩
     ·show[_,_,_,iO ((S.length:Int)-1),_,_]=_
      rw[show(S.length:Int)-1=(S'.length:Int) by omega]
     ·intro q hq
      rcases aU.mp hq with z|z
      ·exact hpm q z
      ·simp at z;subst z;exact hmk
   ·refine .inl ?_
    have t1:decide ((1:Int)<(S.length:Int))=false:=ba (by omega)
    exact aZ (bA kv bR (lG t1))
  ·rintro n ρ bh ⟨ps,S,sz,lk,rfl,rfl,hg,kM,hpm,rfl⟩ hno
   have hc:(st++[ao.lst (ps.map Pl.w)])[st.length]?=some (.lst (ps.map Pl.w)):=dm
   have hS1:S.length<=1:=by
    rcases Nat.lt_or_ge 1 S.length with h1|h1
    ·have t1:decide ((1:Int)<(S.length:Int))=true:=bY (by omega)
     exact(NH hno (aZ (bA kv bR (lG t1)))).elim
    ·exact h1
   apply bN
   ·exact cu kn (mS (b_ hc))
   ·exact⟨_,_,rfl,⟨_,rfl⟩,by simp only[undWs,dA];exact kT ps _,ps,S,sz,lk,rfl,hg,hS1,by omega,hpm⟩
theorem GV{l:List Nat}(hl:l.length<4000)(h:∀c∈l,c∈LL)(st:List ao):GB [.str l] st=.ok (.str (gj l)) st:=by
 have hs:(gj l).length<64:=by
  have:(gj l).length<=LL.length:=lZ ((jd l).imp fun h=>a7 h) fun c hc=>h c (iW.mp hc)
  have e:LL.length=52:=by decide
  omega
 have e1:qK (ag 0) [some (.str l)] st=.ok (.loc st.length) (st++[.lst (il (gj l))]):=by
  unfold qK
  rw[jP (w:=.str l) rfl]
  simp only[R.bind_ok,u4,eG]
  rw[aJ ⟨hl,hs⟩]
 have hj:=BI (sep:=[]) (ls:=(gj l).map fun c=>[c]) (st:=st++[.lst (il (gj l))]) (n:=st.length) (b_ (by rw[dm];unfold il;rw[b7];rfl)) (by
  rw[rF];show _<=1000000;simp;omega)
 rw[xb]at hj
 exact fq (bN (Js bR rfl (aw e1 aX) hj) ⟨_,_,rfl,rfl,_,rfl⟩) rfl
section
variable{ps:List Pl}{S sz:List Nat}{lk:List (Option Nat×Option Nat)}
theorem GW(l:List Nat)(n:Nat):undWs n (cM l)=true:=by
 unfold cM
 induction l with
 |nil=>rfl
 |cons x r ih=>simp[undWs,W.und,ih]
theorem xc{st:List ao}{z:List Nat}{q a:Nat}(x:List ao)(h:z[q]?=some a):bu (.loc st.length) (.int q) (st++.lst (cM z)::x)=.ok (.int a) (st++.lst (cM z)::x):=
 ky (b_ (by rw[dM];rfl)) (f6 (by unfold cM;rw[aG,h];rfl))
theorem GX{st:List ao}{z:List Nat}(q:Nat)(hz:z.length<1000):bM (.loc st.length) [.int q] (st++[.lst (cM z)])=.ok .non (st++[.lst (cM (z++[q]))]):=by
 have hc:(st++[ao.lst (cM z)])[st.length]?=some (.lst (cM z)):=by rw[dM];rfl
 rw[nC hc (by simp[cM];show _<1000000;omega),fE]
 simp[cM]
theorem S8{α:Type}{l:List α}{i:Nat}{x:α}(h:l[i]?=some x):l.take (i+1)=l.take i++[x]:=by rw[jp,h];rfl
theorem Au(h:Gr ps S sz lk)(hn:ps.length<=900)(st:List ao):BU [bG ps] st=.ok (.tup (cM sz)) st:=by
 obtain⟨l1,l2,_⟩:=h.ok
 refine fq (N:=5) (ws:=[bG ps]) (body:=P9) ?_ (by simp[undWs,W.und,GW])
 apply aC
 ·(walk_at "evs")
 have hlk:=rC h (by omega) (st++[ao.lst []])
 refine fU (fun i ρ bh=>∃(o2 o3 o4:Option W),ρ=[some (bG ps),some (.loc st.length),o2,o3,o4]/\bh=st++[.lst (cM (sz.take i))]) (k:=(lk.map iQ,none))
  (xV (st1:=st++[ao.lst []]) (by(walk_at "evs"))) ⟨none,none,none,rfl,rfl⟩ (fun _ _ _ _=>trivial) ?_ ?_
 ·rintro i w ρ bh hw ⟨o2,o3,o4,rfl,rfl⟩
  have hip:i<ps.length:=by have:=(ar.mp hw).1;simp at this;omega
  obtain⟨S1,S2,p,k,x,g1,q1,q2,q3,hs,g2⟩:=h.step i hip
  rw[show(lk.map iQ,(none:Option (Nat×List W))).1=lk.map iQ from rfl,aG,q3]at hw
  cases hw
  obtain⟨lz,ll,ha⟩:=g1.ok
  have hti:(ps.take i).length=i:=by rw[aL];omega
  rw[hti]at ha lz
  have isl:kP (st++[.lst (cM (sz.take i))]) (.loc st.length)=true:=df (by rw[dM];rfl)
  have ap:=GX (st:=st) (z:=sz.take i) k (by omega)
  rw[<- S8 q2]at ap
  obtain⟨b,m⟩:=p
  cases hs with
  |z=>
   rw[show((1:Nat):Int)=1 from rfl]at ap
   refine⟨_,rfl,?_⟩
   apply aC
   ·(walk_at "evs")
   apply bw
   ·(walk_at "evs")
   apply bJ
   apply bw
   ·(walk_at "evs")
   apply bJ
   apply dg
   ·(walk_at "evs")
   ·exact⟨_,_,rfl,_,_,_,rfl,rfl⟩
  |@l a S=>
   rw[show((1+a:Nat):Int)=1+(a:Int) by omega]at ap
   have x1:bu (.loc st.length) (oW ((some (i-1),none):Option Nat×Option Nat).fst) (st++[.lst (cM (sz.take i))])=.ok (.int a) (st++[.lst (cM (sz.take i))]):=xc (st:=st) [] ha.1
   refine⟨_,rfl,?_⟩
   apply aC
   ·(walk_at "evs")
   apply aC
   ·apply cQ
    ·(walk_at "evs")
    ·(walk_at "evs")
   apply bw
   ·(walk_at "evs")
   apply bJ
   apply dg
   ·(walk_at "evs")
   ·exact⟨_,_,rfl,_,_,_,rfl,rfl⟩
  |@r a S=>
   rw[show((1+a:Nat):Int)=1+(a:Int) by omega]at ap
   have x1:bu (.loc st.length) (oW ((none,some (i-1)):Option Nat×Option Nat).snd) (st++[.lst (cM (sz.take i))])=.ok (.int a) (st++[.lst (cM (sz.take i))]):=xc (st:=st) [] ha.1
   refine⟨_,rfl,?_⟩
   apply aC
   ·(walk_at "evs")
   apply bw
   ·(walk_at "evs")
   apply bJ
   apply aC
   ·apply cQ
    ·(walk_at "evs")
    ·(walk_at "evs")
   apply dg
   ·(walk_at "evs")
   ·exact⟨_,_,rfl,_,_,_,rfl,rfl⟩
  |@b c a S=>
   have x1:bu (.loc st.length) (oW ((some (i-1-c),some (i-1)):Option Nat×Option Nat).snd) (st++[.lst (cM (sz.take i))])=.ok (.int c) (st++[.lst (cM (sz.take i))]):=xc (st:=st) [] ha.1
   have x2:=xc (st:=st) [] ha.2.2.2.1
   rw[show i-c-1=i-1-c by omega]at x2
   have x2:bu (.loc st.length) (oW ((some (i-1-c),some (i-1)):Option Nat×Option Nat).fst) (st++[.lst (cM (sz.take i))])=.ok (.int a) (st++[.lst (cM (sz.take i))]):=x2
   rw[show((1+c+a:Nat):Int)=1+(a:Int)+(c:Int) by omega]at ap
   refine⟨_,rfl,?_⟩
   apply aC
   ·(walk_at "evs")
   apply aC
   ·apply cQ
    ·(walk_at "evs")
    ·(walk_at "evs")
   apply aC
   ·apply cQ
    ·(walk_at "evs")
    ·(walk_at "evs")
   apply dg
   ·(walk_at "evs")
   ·exact⟨_,_,rfl,_,_,_,rfl,rfl⟩
 ·rintro ρ bh ⟨o2,o3,o4,rfl,rfl⟩
  have hc:(st++[ao.lst (cM (sz.take (lk.map iQ,(none:Option (Nat×List W))).1.length))])[st.length]?=some (.lst (cM sz)):=by
   rw[dM]
   show some (ao.lst (cM (sz.take (lk.map iQ).length)))=_
   rw[bz (by simp;omega)]
  apply bN
  ·(repeat' (first|with_reducible exact mS (b_ hc)|walk_at "ev1"))
  ·exact⟨_,_,rfl,rfl,_,rfl⟩
end
structure GY(ps:List Pl)(sz:List Nat)(q:Nat)(p:Pl)(L R:Nat):Prop where
 hp:ps[q]?=some p
 hz:sz[q]?=some (1+L+R)
 le:L+R<=q
 b3:p.b<=3
 hL:0<L↔p.b%2=1
 hR:0<R↔2<=p.b
 hr:2<=p.b->1<=q/\sz[q-1]?=some R
theorem GY.lt{ps:List Pl}{sz:List Nat}{q:Nat}{p:Pl}{L R:Nat}(c:GY ps sz q p L R):q<ps.length:=(ar.mp c.hp).1
theorem jh(a b:List Pl)(h:(a++b).length<=100000)(st:List ao):cK (bG a) (bG b) st=.ok (bG (a++b)) st:=by
 unfold bG
 rw[FN (by rw[<- a8,aE];show _<=1000000;omega),<- a8]
theorem K6{z:List Nat}{q a:Nat}(h:z[q]?=some a)(st:List ao):bu (.tup (cM z)) (.int q) st=.ok (.int a) st:=lH (f6 (by unfold cM;rw[aG,h];rfl))
theorem vy{a:List Pl}{q:Nat}(h:q<=a.length)(st:List ao):vO (bG a) none (some (q:Int)) st=.ok (bG (a.take q)) st:=by
 unfold bG;rw[zG,mR (by simpa using h),mh]
theorem vz{a:List Pl}{q:Nat}(h:q<=a.length)(st:List ao):vO (bG a) (some (q:Int)) none st=.ok (bG (a.drop q)) st:=by
 unfold bG;rw[zG,qX (by simpa using h),mi]
theorem B1{a:List Pl}{i j:Nat}(hj:j<=a.length)(hi:i<=j)(st:List ao):vO (bG a) (some (i:Int)) (some (j:Int)) st=.ok (bG ((a.drop i).take (j-i))) st:=by
 unfold bG;rw[zG,FP (by simpa using hj) hi,mh,mi]
section
variable{ps:List Pl}{S sz:List Nat}{lk:List (Option Nat×Option Nat)}{q:Nat}{p:Pl}{L R:Nat}
theorem vA(h:q<ps.length)(st:List ao):yn [bG ps,.int q] st=.ok .non st:=by
 have d1:decide ((q:Int)<0)=false:=ba (by omega)
 have d2:decide ((ps.length:Int)<=(q:Int))=false:=ba (by omega)
 have hl:=gu ps st
 refine zI (N:=2) (ws:=[bG ps,.int q]) (body:=P') ?_
 apply lI
 ·apply ph
  ·(walk_at "evs")
  ·(walk_at "evs")
 apply dg
 ·(walk_at "evs")
 ·exact⟨_,_,rfl,[],by simp⟩
theorem GZ{n:Nat}(h:n<=100)(st:List ao):wX [.int n] st=.ok .non st:=by
 have d1:decide ((100:Int)<(n:Int))=false:=ba (by omega)
 refine zI (N:=1) (ws:=[.int n]) (body:=GE) ?_
 simp only[GE,l9]
 apply lI
 ·(walk_at "evs")
 apply dg
 ·(walk_at "evs")
 ·exact⟨_,_,rfl,[],by simp⟩
theorem JC(h:Gr ps S sz lk)(hn:ps.length<=900)(c:GY ps sz q p L R)(st:List ao):zW [bG ps,.int q] st=.ok (bG ((ps.drop (q-L-R)).take (1+L+R))) st:=by
 have hq:=c.lt
 have kM:=c.le
 have h1:=vA hq st
 have h2:=Au h hn st
 have h3:=K6 c.hz st
 have h4:=B1 (a:=ps) (i:=q-L-R) (j:=q+1) (by omega) (by omega) st
 rw[show q+1-(q-L-R)=1+L+R by omega,show((q-L-R:Nat):Int)=(q:Int)+1-((1+L+R:Nat):Int) by omega,show((q+1:Nat):Int)=(q:Int)+1 from rfl]at h4
 refine fq (N:=2) (ws:=[bG ps,.int q]) (body:=KJ) ?_ (by simp[undWs,kT])
 apply aC
 ·(walk_at "evs")
 apply bN
 ·apply mx
  ·(walk_at "evs")
  ·(walk_at "evs")
  ·(walk_at "evs")
  ·exact h4
 ·exact⟨_,_,rfl,rfl,[],by simp⟩
theorem G0(h:Gr ps S sz lk)(hn:ps.length<=900)(c:GY ps sz q p L R)(st:List ao):pS [bG ps,.int q] st=.ok (.tup [bG ((ps.drop (q-L-R)).take L),bG ((ps.drop (q-R)).take R)]) st:=by
 have hq:=c.lt
 have kM:=c.le
 have h1:=JC h hn c st
 have h2:=Au h hn st
 have h3:=rD c.hp st
 have h4:=Am c.b3 st
 have hl:vO (bG ((ps.drop (q-L-R)).take (1+L+R))) none (some (-1)) st=.ok (bG ((ps.drop (q-L-R)).take (L+R))) st:=by
  unfold bG
  rw[zG,FQ,<- List.map_dropLast,nZ,aL,cm,oY,show min (min (1+L+R) (ps.length-(q-L-R))-1) (1+L+R)=L+R by omega]
 have hbl:((ps.drop (q-L-R)).take (L+R)).length=L+R:=by rw[aL,cm];omega
 have h5:=gu ((ps.drop (q-L-R)).take (L+R)) st
 rw[hbl]at h5
 have h6:=vy (a:=(ps.drop (q-L-R)).take (L+R)) (q:=L) (by omega) st
 have h7:=vz (a:=(ps.drop (q-L-R)).take (L+R)) (q:=L) (by omega) st
 rw[oY,gH (by omega)]at h6
 rw[List.drop_take,List.drop_drop,show q-L-R+L=q-R by omega,show L+R-L=R by omega]at h7
 have eL:((L+R:Nat):Int)-(R:Int)=(L:Int):=by omega
 refine fq (N:=5) (ws:=[bG ps,.int q]) (body:=KL) ?_ (by simp[undWs,W.und,kT])
 apply aC
 ·apply bg
  apply mx
  ·(walk_at "evs")
  ·(walk_at "evs")
  ·apply mw
   apply zE
   (walk_at "evs")
  ·exact hl
 apply aC
 ·(walk_at "evs")
 refine uo (fun ρ bh=>ρ=[some (bG ps),some (.int q),some (bG ((ps.drop (q-L-R)).take (L+R))),some (.int R),none]/\bh=st) ?_ ?_
 ·by_cases hb:2<=p.b
  ·rw[bY hb]at h4
   obtain⟨hq1,hz1⟩:=c.hr hb
   have h8:=K6 hz1 st
   rw[show((q-1:Nat):Int)=(q:Int)-1 by omega]at h8
   apply tJ
   ·(walk_at "evs")
   apply dg
   ·(walk_at "evs")
   ·exact⟨_,_,rfl,rfl,rfl⟩
  ·rw[ba hb]at h4
   have hR0:R=0:=by have:=c.hR;omega
   apply lI
   ·(walk_at "evs")
   apply dg
   ·(walk_at "evs")
   ·exact⟨_,_,rfl,by subst hR0;rfl,rfl⟩
 ·rintro ρ bh ⟨rfl,rfl⟩
  apply aC
  ·(walk_at "evs")
  rw[eL]
  apply bN
  ·apply fK
   ·apply aw
    ·apply mx
     ·(walk_at "evs")
     ·(walk_at "evs")
     ·(walk_at "evs")
     ·exact h6
    ·apply aw
     ·apply mx
      ·(walk_at "evs")
      ·(walk_at "evs")
      ·(walk_at "evs")
      ·exact h7
     ·(walk_at "evs")
   ·(walk_at "evs")
  ·exact⟨_,_,rfl,rfl,[],by simp⟩
end
def py(l:List Pl):Nat:=if 0<l.length then 1 else 0
theorem G1(a b:List Pl)(m:List Nat)(h:a.length+b.length<=5000)(st:List ao):zX [bG a,bG b,.str m] st=.ok (bG (a++b++[⟨py a+2*py b,m⟩])) st:=by
 have h1:=gu a st
 have h2:=gu b st
 have h3:=jh a b (by simp;omega) st
 have h4:=jh (a++b) [⟨py a+2*py b,m⟩] (by simp;omega) st
 refine fq (N:=4) (ws:=[bG a,bG b,.str m]) (body:=KM) ?_ (by simp[undWs,kT])
 apply aC
 ·(walk_at "evs")
 refine uo (fun ρ bh=>ρ=[some (bG a),some (bG b),some (.str m),some (.int (py a:Nat))]/\bh=st) ?_ ?_
 ·by_cases ha:0<a.length
  ·have d:decide ((0:Int)<(a.length:Int))=true:=bY (by omega)
   apply tJ
   ·(walk_at "evs")
   apply dg
   ·(walk_at "evs")
   ·exact⟨_,_,rfl,by simp only[py,aJ ha];rfl,rfl⟩
  ·have d:decide ((0:Int)<(a.length:Int))=false:=ba (by omega)
   apply lI
   ·(walk_at "evs")
   apply dg
   ·(walk_at "evs")
   ·exact⟨_,_,rfl,by simp only[py,aV ha];rfl,rfl⟩
 rintro ρ bh ⟨rfl,rfl⟩
 refine uo (fun ρ st''=>ρ=[some (bG a),some (bG b),some (.str m),some (.int (py a+2*py b:Nat))]/\st''=bh) ?_ ?_
 ·by_cases hb:0<b.length
  ·have d:decide ((0:Int)<(b.length:Int))=true:=bY (by omega)
   apply tJ
   ·(walk_at "evs")
   apply dg
   ·(walk_at "evs")
   ·exact⟨_,_,rfl,by simp only[py,aJ hb];rfl,rfl⟩
  ·have d:decide ((0:Int)<(b.length:Int))=false:=ba (by omega)
   apply lI
   ·(walk_at "evs")
   apply dg
   ·(walk_at "evs")
   ·exact⟨_,_,rfl,by simp only[py,aV hb];rfl,rfl⟩
 rintro ρ st'' ⟨rfl,rfl⟩
 have h5:cK (bG (a++b)) (.tup [.tup [.int (py a+2*py b:Nat),.str m]]) st''=.ok (bG (a++b++[⟨py a+2*py b,m⟩])) st'':=h4
 apply bN
 ·(walk_at "evs")
 ·exact⟨_,_,rfl,rfl,[],by simp⟩
def B2(ps:List Pl)(q L R:Nat):List Pl:=(ps.drop (q-L-R)).take L
def B3(ps:List Pl)(q R:Nat):List Pl:=(ps.drop (q-R)).take R
def N8(ps:List Pl)(q L R:Nat)(m:List Nat)(sd:Bool)(oth:List Pl):List Pl:=
 let l:=if sd then oth else B2 ps q L R
 let r:=if sd then B3 ps q R else oth
 ps.take (q-L-R)++(l++r++[⟨py l+2*py r,m⟩])++ps.drop (q+1)
def tP(sd:Bool):W:=.str (if sd then[108,101,102,116]else[114,105,103,104,116])
section
variable{ps oth:List Pl}{S sz:List Nat}{lk:List (Option Nat×Option Nat)}{q:Nat}{p:Pl}{L R:Nat}
theorem GY.l0(c:GY ps sz q p L R):(B2 ps q L R).length=L:=by have:=c.lt;have:=c.le;unfold B2;rw[aL,cm];omega
theorem GY.l1(c:GY ps sz q p L R):(B3 ps q R).length=R:=by have:=c.lt;have:=c.le;unfold B3;rw[aL,cm];omega
theorem JD(h:Gr ps S sz lk)(hn:ps.length<=900)(ho:oth.length<=900)(c:GY ps sz q p L R)(sd:Bool)(st:List ao){P:RS->Prop}
  (he:∀o4 o5 o6 o7:Option W,kI P ((aN (c5 (cx 1 wX (ai (bE dG (ai (ag 8) aD)) aD))) (cU (ag 8))) [some (bG ps),some (.int q),some (tP sd),some (bG oth),o4,o5,o6,o7,some (bG (N8 ps q L R p.m sd oth))] st)) :
  kI P (GF ([bG ps,.int q,tP sd,bG oth].map some++List.replicate (9-4) none) st):=by
 have hq:=c.lt
 have kM:=c.le
 have h0:=c.l0
 have h1:=c.l1
 have a1:=G0 h hn c st
 change _=L2.R.ok (W.tup [bG (B2 ps q L R),bG (B3 ps q R)]) st at a1
 have b0:bu (.tup [bG (B2 ps q L R),bG (B3 ps q R)]) (.int 0) st=.ok (bG (B2 ps q L R)) st:=rfl
 have b1:bu (.tup [bG (B2 ps q L R),bG (B3 ps q R)]) (.int 1) st=.ok (bG (B3 ps q R)) st:=rfl
 have n0:=gu (B2 ps q L R) st
 have n1:=gu (B3 ps q R) st
 rw[h0]at n0
 rw[h1]at n1
 have i1:=rD c.hp st
 have i2:=BW p st
 have s1:=vy (a:=ps) (q:=q-L-R) (by omega) st
 rw[show((q-L-R:Nat):Int)=(q:Int)-(L:Int)-(R:Int) by omega]at s1
 have s2:=vz (a:=ps) (q:=q+1) (by omega) st
 rw[show((q+1:Nat):Int)=(q:Int)+1 from rfl]at s2
 cases sd with
 |true=>
  have q1:iE (tP true) (.str [108,101,102,116]) st=.ok (.bl true) st:=rfl
  have q2:iE (tP true) (.str [114,105,103,104,116]) st=.ok (.bl false) st:=rfl
  have t1:=G1 oth (B3 ps q R) p.m (by omega) st
  have t2:=jh (ps.take (q-L-R)) (oth++B3 ps q R++[⟨py oth+2*py (B3 ps q R),p.m⟩]) (by simp;omega) st
  have t3:=jh (ps.take (q-L-R)++(oth++B3 ps q R++[⟨py oth+2*py (B3 ps q R),p.m⟩])) (ps.drop (q+1)) (by simp;omega) st
  apply aC
  ·(walk_at "evs")
  apply aC
  ·apply bg
   apply qS
   ·(walk_at "evs")
   ·(walk_at "evs")
  apply aC
  ·apply bg
   apply qT
   ·(walk_at "evs")
   ·(walk_at "evs")
  apply aC
  ·(walk_at "evs")
  apply aC
  ·(repeat' (first|with_reducible exact s1|with_reducible exact s2|walk_at "ev1"))
  exact he _ _ _ _
 |false=>
  have q1:iE (tP false) (.str [108,101,102,116]) st=.ok (.bl false) st:=rfl
  have q2:iE (tP false) (.str [114,105,103,104,116]) st=.ok (.bl true) st:=rfl
  have t1:=G1 (B2 ps q L R) oth p.m (by omega) st
  have t2:=jh (ps.take (q-L-R)) (B2 ps q L R++oth++[⟨py (B2 ps q L R)+2*py oth,p.m⟩]) (by simp;omega) st
  have t3:=jh (ps.take (q-L-R)++(B2 ps q L R++oth++[⟨py (B2 ps q L R)+2*py oth,p.m⟩])) (ps.drop (q+1)) (by simp;omega) st
  apply aC
  ·(walk_at "evs")
  apply aC
  ·apply bg
   apply qT
   ·(walk_at "evs")
   ·(walk_at "evs")
  apply aC
  ·apply bg
   apply qS
   ·(walk_at "evs")
   ·(walk_at "evs")
  apply aC
  ·(walk_at "evs")
  apply aC
  ·(repeat' (first|with_reducible exact s1|with_reducible exact s2|walk_at "ev1"))
  exact he _ _ _ _
theorem NI(h:Gr ps S sz lk)(hn:ps.length<=900)(ho:oth.length<=900)(c:GY ps sz q p L R)(sd:Bool)(st:List ao)(hs:(N8 ps q L R p.m sd oth).length<=100):zY [bG ps,.int q,tP sd,bG oth] st=.ok (bG (N8 ps q L R p.m sd oth)) st:=by
 refine fq (N:=9) (ws:=[bG ps,.int q,tP sd,bG oth]) (body:=GF) (JD h hn ho c sd st fun o4 o5 o6 o7=>?_) (by simp[undWs,kT])
 have n:=gu (N8 ps q L R p.m sd oth) st
 have z:=GZ hs st
 apply aC
 ·(walk_at "evs")
 apply bN
 ·(walk_at "evs")
 ·exact⟨_,_,rfl,rfl,[],by simp⟩
end
theorem JE{α:Type}{l:List α}{i:Nat}{x d:α}(h:l[i]?=some x):l.getD i d=x:=by rw[aF,h];rfl
section
variable{ps:List Pl}{S sz:List Nat}{lk:List (Option Nat×Option Nat)}{M:Mc}{n:Nat}
def xf(R:List Nat)(q:Nat):W:=.int ((R.getD q 0:Nat):Int)
theorem Dg(h:Gr ps S sz lk)(hl:ps.length<=900)(hM:lK M n)(hn:1<=n)(st:List ao) :
  ∃x,vt [M.w,bG ps] st=.ok (.loc (st.length+1)) (st++x)/\x[1]?=some (.lst (nW (fR M ps lk))):=by
 suffices hh:kI (zH fun w bh=>∃j x,w=.loc (st.length+j)/\bh=st++x/\j=1/\x[1]?=some (.lst (nW (fR M ps lk)))) (KW ([M.w,bG ps].map some++List.replicate (8-2) none) st) by
  obtain⟨j,x,⟨rfl,hx⟩,e⟩:=um hh
  exact⟨x,e,hx⟩
 obtain⟨l1,l2,_⟩:=h.ok
 obtain⟨rl,rlt⟩:=mE (M:=M) h hM hn
 have rat:=fun{i:Nat} {p:Pl} {x:Option Nat×Option Nat}=>GT (M:=M) (i:=i) (p:=p) (x:=x) h hM hn
 generalize fR M ps lk=R at *
 apply aC
 ·exact bg (nz aX (au rfl))
 apply aC
 ·exact bg (nz aX (au rfl))
 have l3:(st++[ao.lst []]).length=st.length+1:=by simp
 rw[l3]
 refine fU (fun i ρ s=>∃(S1:List Nat) (o4 o5 o6 o7:Option W),ρ=[some M.w,some (bG ps),some (.loc st.length),some (.loc (st.length+1)),o4,o5,o6,o7]/\s=st++[.lst ((i_ S1 i).map (xf R)).reverse,.lst (nW (R.take i))]/\Gr (ps.take i) S1 (sz.take i) (lk.take i)/\i<=ps.length)
  (k:=(ps.map Pl.w,none)) (st1:=(st++[ao.lst []])++[ao.lst []]) (xV kv) ⟨[],none,none,none,none,rfl,by rw[ak];rfl,.nil,ce _⟩ (fun _ _ _ _=>trivial) ?_ ?_
 ·rintro i w ρ s hw ⟨S1,o4,o5,o6,o7,rfl,rfl,hg,hi⟩
  have hip:i<ps.length:=by have:=(ar.mp hw).1;simpa using this
  obtain⟨S1',S2,p,k,x,g1,q1,q2,q3,hs,g2⟩:=h.step i hip
  have hw:w=p.w:=by
   simp only at hw
   rw[aG,q1]at hw
   exact(bx hw).symm
  subst hw
  refine⟨_,rfl,?_⟩
  have hS:=hg.det g1 rfl
  subst hS
  obtain⟨lz,ll,ha⟩:=g1.ok
  have hti:(ps.take i).length=i:=by rw[aL];omega
  rw[hti]at ha lz ll
  have hSl:=ha.le
  have hR:=rat q1 q3
  have hlo:GO R.length x:=⟨fun j e=>by have:=(h.lk q3).1 j e;omega,fun j e=>by have:=(h.lk q3).2 j e;omega⟩
  obtain⟨t,r,f1,f2,f3,_⟩:=B0 (m:=p.m) hM hn rlt hlo
  have hRt:R.take (i+1)=R.take i++[ut M R p.m x]:=by rw[jp,hR];rfl
  have pop:∀(A:List W) (B:List Nat) (q:Nat),ms (.loc st.length) [] (st++[.lst ((q::B).map (xf R)).reverse,.lst A])=.ok (xf R q) (st++[.lst (B.map (xf R)).reverse,.lst A]):=fun A B q=>by
   have hc:(st++[ao.lst ((q::B).map (xf R)).reverse,.lst A])[st.length]?=some (.lst ((B.map (xf R)).reverse++[xf R q])):=by rw[dM];simp
   rw[vb hc,fE];rfl
  have isl0:∀(A:List W) (B:List W),kP (st++[.lst A,.lst B]) (.loc st.length)=true:=fun A B=>df (by rw[dM];rfl)
  have T1:∀(k:Bool) (ρ:cI) (s:List ao),decide ((2:Int)<=(p.b:Int))=k->ρ[4]?=some (some (.int p.b))->ef (e2 Mp (ag 4) (eI 2)) ρ s=.ok k s:=fun k ρ s e h4=>aZ (bA (jP h4) bR (FJ e))
  have T2:∀(k:Bool) (ρ:cI) (s:List ao),(((p.b:Int)%2)==1)=k->ρ[4]?=some (some (.int p.b))->ef (e2 iE (e2 iD (ag 4) (eI 2)) (eI 1)) ρ s=.ok k s:=fun k ρ s e h4=>aZ (bA (bA (jP h4) bR (i9 (by decide))) bR (fm e))
  have put:∀(u v:W) (B:List Nat),u=.int (yw R x.1:Nat)->v=.int (yw R x.2:Nat)->B.length<1001->i::B=i_ S2 (i+1) ->
    kI (Jt (fun ρ s=>∃(S1:List Nat) (o4 o5 o6 o7:Option W),ρ=[some M.w,some (bG ps),some (.loc st.length),some (.loc (st.length+1)),o4,o5,o6,o7]/\s=st++[.lst ((i_ S1 (i+1)).map (xf R)).reverse,.lst (nW (R.take (i+1)))]/\Gr (ps.take (i+1)) S1 (sz.take (i+1)) (lk.take (i+1))/\i+1<=ps.length))
     (aN (c5 (kQ bM (ag 2) (ai (e2 bu (e2 bu (e2 bu (e2 bu (ag 0) (eI 2)) (cx 2 w5 (ai (e2 bu (ag 0) (eI 0)) (ai (ag 5) aD)))) (ag 6)) (ag 7)) aD))) (c5 (kQ bM (ag 3) (ai (e2 bu (ag 2) (zy (eI 1))) aD)))
      [some M.w,some (bG ps),some (.loc st.length),some (.loc (st.length+1)),some (.int p.b),some (.str p.m),some u,some v] (st++[.lst (B.map (xf R)).reverse,.lst (nW (R.take i))])):=by
   rintro u v B rfl rfl hB hT
   have hc:(st++[ao.lst (B.map (xf R)).reverse,.lst (nW (R.take i))])[st.length]?=some (.lst (B.map (xf R)).reverse):=by rw[dM];rfl
   apply aC
   ·exact d9 (hZ kv (df hc) (aw (bA (bA (bA kx (cz (aw kx kn) (BZ M.nm p.m _) rfl) (GQ f1 _)) kv (GM f2)) kv (GL f3)) aX) (nC hc (by rw[List.length_reverse,aE];show _<1000000;omega)))
   rw[fE]
   have hc1:(st++[ao.lst (B.map (xf R)).reverse,.lst (nW (R.take i))].set 0 (.lst ((B.map (xf R)).reverse++[W.int (ut M R p.m x:Nat)])))[st.length]?=some (.lst ((B.map (xf R)).reverse++[W.int (ut M R p.m x:Nat)])):=by rw[dM];rfl
   have hc2:(st++[ao.lst (B.map (xf R)).reverse,.lst (nW (R.take i))].set 0 (.lst ((B.map (xf R)).reverse++[W.int (ut M R p.m x:Nat)])))[st.length+1]?=some (.lst (nW (R.take i))):=by rw[iH];rfl
   have last:r6 ((B.map (xf R)).reverse++[W.int (ut M R p.m x:Nat)]) (-1)=some (.int (ut M R p.m x:Nat)):=xX (q:=0) (by rw[List.reverse_append];rfl)
   refine dg (d9 (hZ kv (df hc2) (aw (bA kv (zE bR) (ky (b_ hc1) last)) aX) (nC hc2 (by simp[nW];show _<1000000;omega)))) ?_
   refine⟨_,_,rfl,S2,_,_,_,_,rfl,?_,g2,by omega⟩
   rw[mv,<- hT,hRt]
   have:xf R i=.int (ut M R p.m x:Nat):=by unfold xf;rw[JE hR]
   simp[nW,this]
  apply aC
  ·exact bg bR
  apply aC
  ·exact bg bR
  obtain⟨b,m⟩:=p
  cases hs with
  |@z=>
   apply bw
   ·exact T1 false _ _ rfl rfl
   apply bJ
   apply bw
   ·exact T2 false _ _ rfl rfl
   apply bJ
   exact put _ _ (i_ S1 i) rfl rfl (by rw[ic];omega) rfl
  |@l a S=>
   apply bw
   ·exact T1 false _ _ rfl rfl
   apply bJ
   apply aC
   ·exact cQ (T2 true _ _ rfl rfl) (bg (hZ kv (isl0 _ _) aX (pop _ (i_ S (i-a)) (i-1))))
   exact put _ _ (i_ S (i-a)) rfl rfl (by rw[ic];simp at hSl;omega) (by simp only[i_];congr 1;congr 1;omega)
  |@r a S=>
   apply aC
   ·exact cQ (T1 true _ _ rfl rfl) (bg (hZ kv (isl0 _ _) aX (pop _ (i_ S (i-a)) (i-1))))
   apply bw
   ·exact T2 false _ _ (by show((2:Int)%2==1)=false;decide) rfl
   apply bJ
   exact put _ _ (i_ S (i-a)) rfl rfl (by rw[ic];simp at hSl;omega) (by simp only[i_];congr 1;congr 1;omega)
  |@b c a S=>
   apply aC
   ·exact cQ (T1 true _ _ rfl rfl) (bg (hZ kv (isl0 _ _) aX (pop _ (i_ (a::S) (i-c)) (i-1))))
   apply aC
   ·exact cQ (T2 true _ _ (by show((3:Int)%2==1)=true;decide) rfl) (bg (hZ kv (isl0 _ _) aX (pop _ (i_ S (i-c-a)) (i-c-1))))
   exact put _ _ (i_ S (i-c-a)) (by show xf R _=W.int ((R.getD (i-1-c) 0:Nat):Int);rw[show i-1-c=i-c-1 by omega];rfl) rfl (by rw[ic];simp at hSl;omega) (by simp only[i_];congr 1;congr 1;omega)
 ·rintro ρ s ⟨S1,o4,o5,o6,o7,rfl,rfl,hg,hi⟩
  apply bN
  ·exact jP rfl
  ·refine⟨_,_,rfl,1,_,rfl,rfl,rfl,?_⟩
   rw[show(ps.map Pl.w,(none:Option (Nat×List W))).fst.length=R.length by simp[rl],dE]
   rfl
theorem G3(h:Gr ps S sz lk)(hl:ps.length<=900)(hM:lK M n)(hn:1<=n)(st:List ao):Ag [M.w,bG ps] st=.ok (.bl (JB M ps lk)) st:=by
 refine fq (N:=2) (ws:=[M.w,bG ps]) (body:=KY) ?_ rfl
 have ll:=gu ps st
 have tl:=NE (M:=M) h hM hn
 unfold JB
 by_cases z:0<ps.length
 ·refine bw (aZ (bA (cu kn ll) bR (fm (by rw[bj];omega)))) ?_
  refine bJ ?_
  rw[aJ z]at tl ⊢
  obtain⟨x,e,hx⟩:=Dg h hl hM hn st
  have hx2:(st++x)[st.length+1]?=some (.lst (nW (fR M ps lk))):=by rw[iH];exact hx
  refine bN (bA kx (bA (cz (aw kv kn) e rfl) (zE bR) (ky (b_ hx2) (xX (q:=0) (x:=.int (As M ps lk:Nat)) ?_))) (GU hM tl _)) ⟨_,_,rfl,rfl,_,rfl⟩
  have rl:=(mE (M:=M) h hM hn).1
  unfold nW
  rw[gP (by rw[aE];omega),aE,aG,rl,show ps.length-1-0=ps.length-1 by omega,aj (by omega)]
  show some (W.int _)=some (W.int _)
  unfold As
  rw[aF,aj (by omega)];rfl
 ·rw[aV z]
  refine eY (aZ (bA (cu kn ll) bR (fm (by rw[dv];omega)))) ?_
  exact d6 (bA kx bR (GU (k:=0) hM hn st)) ⟨_,_,rfl,rfl,[],by simp⟩
end
theorem B4(nm:List Nat)(n iz dl:Nat)(ds:List Int)(st:List ao)(Tz:nm.length<=6)(hn:1<=n)(TK:n<=9)(N':1<=iz)(TN:iz<=n)(hd:st[dl]?=some (.lst (yt ds)))(Lb:n+2^nm.length*(n*n)<=ds.length) :
  ∃M:Mc,M.nm=nm/\lK M n/\Af [.str nm,.int n,.int iz,.loc dl] st=.ok M.w st:=by
 suffices hh:kI (zH fun w bh=>(∃x,bh=st++x)/\undWs st.length [w]=true/\∃M:Mc,w=M.w/\M.nm=nm/\lK M n) (KT ([W.str nm,.int n,.int iz,.loc dl].map some++List.replicate (10-4) none) st) by
  obtain⟨w,⟨M,rfl,h1,h2⟩,e⟩:=qW hh
  exact⟨M,h1,h2,e⟩
 have fT:∀s:List ao,dG [.str nm] s=.ok (.int nm.length) s:=fun s=>xU (by show _<=1000000;omega)
 have p2:2^nm.length<=64:=Nat.pow_le_pow_right (by omega) Tz
 obtain⟨N,hN⟩:∃N,N=2^nm.length:=⟨_,rfl⟩
 have sh:∀s:List ao,zo (.int 1) (.int nm.length) s=.ok (.int N) s:=fun s=>by rw[hN];exact E6 (by omega)
 rw[<- hN]at p2 Lb
 have hdn:n<=ds.length:=by omega
 obtain⟨gd,hgl,_,eg⟩:=GI (cap:=[none,some 3]) (ρ:=[some (.str nm),iO n,iO iz,lO dl,none,none,none,none,none,none]) (st:=st) (fs:=ai (ag 1) aD) (n:=n)
  (el:=e2 iE (e2 iD (e2 bu (ag 1) (ag 0)) (eI 2)) (eI 1)) W.bl (fun _ _=>True) kn (by omega) fun q hq=>by
   obtain⟨d,hdd⟩:∃d,ds[q]?=some d:=⟨_,aj (by omega)⟩
   exact⟨_,trivial,bA (bA (bA kv kv (uq hd hdd)) bR (i9 (by decide))) bR (fm rfl)⟩
 apply aC
 ·exact bg eg
 generalize hs0:st++[ao.lst (gd.map W.bl)]=s0
 have hst0:st <+: s0:=by rw[<- hs0];exact a9 _ _
 apply aC
 ·(walk_at "evs")
 apply aC
 ·(walk_at "evs")
 refine fU (fun i ρ s=>∃(tb:List (List (List Nat))) (a:Nat) (o7 o8 o9:Option W),ρ=[some (.str nm),iO n,iO iz,lO dl,some (.tup (gd.map W.bl)),lO s0.length,iO a,o7,o8,o9]/\s0 <+: s/\s[s0.length]?=some (.lst (tb.map we))/\tb.length=i/\(∀t∈tb,S7 n t)/\a+(N-i)*(n*n)<=ds.length)
  (jg (q:=(N:Int)) (st1:=s0++[ao.lst []]) (aw (bA bR (cu kn (fT _)) (sh _)) aX) (by omega))
  ⟨[],n,none,none,none,rfl,a9 _ _,dm,rfl,by simp,by simpa using Lb⟩ (fun _ _ _ _=>trivial) ?_ ?_
 ·rintro i w ρ s hw ⟨tb,a,o7,o8,o9,rfl,hp,hc,hl,ht,hal⟩
  obtain⟨hi,rfl⟩:=jA hw
  rw[cq]at hi
  refine⟨_,rfl,?_⟩
  rw[show N-i=(N-(i+1))+1 by omega,Nat.succ_mul]at hal
  apply aC
  ·(walk_at "evs")
  refine fU (fun j ρ z=>∃(yN:List (List Nat)) (a:Nat) (o9:Option W),ρ=[some (.str nm),iO n,iO iz,lO dl,some (.tup (gd.map W.bl)),lO s0.length,iO a,iO (0+(i:Int)),lO s.length,o9]/\s <+: z/\z[s.length]?=some (.lst (yN.map fS))/\yN.length=j/\(∀r∈yN,r.length=n/\∀k∈r,k<n)/\a+((N-(i+1))*(n*n)+(n-j)*n)<=ds.length)
   (jg (q:=(n:Int)) (st1:=s++[ao.lst []]) (by(walk_at "evs")) (by omega)) ⟨[],a,_,rfl,a9 _ _,dm,rfl,by simp,by simpa using hal⟩ (fun _ _ _ _=>trivial) ?_ ?_
  ·rintro j w ρ z hw ⟨yN,a,o9,rfl,hz,hcz,hrl,hr,hal⟩
   obtain⟨hj,rfl⟩:=jA hw
   rw[cq]at hj
   refine⟨_,rfl,?_⟩
   rw[show n-j=(n-(j+1))+1 by omega,Nat.succ_mul]at hal
   have pt:(0:Int)<(iz:Int):=by omega
   obtain⟨r,hrn,hrb,er⟩:=GI (cap:=[none,some 2,some 3,some 6]) (ρ:=[some (.str nm),iO n,iO iz,lO dl,some (.tup (gd.map W.bl)),lO s0.length,iO a,iO (0+(i:Int)),lO s.length,iO (0+(j:Int))]) (st:=z) (fs:=ai (ag 1) aD) (n:=n)
    (el:=e2 iD (e2 bu (ag 2) (e2 cK (ag 3) (ag 0))) (ag 1)) (fun k:Nat=>W.int (k:Nat)) (fun _ k=>k<n) kn (by omega) fun q hq=>by
     obtain⟨d,hdd⟩:∃d,ds[a+q]?=some d:=⟨_,aj (by omega)⟩
     obtain⟨k,hk,ek⟩:=h_ (q:=d) (n:=iz) (by omega)
     refine⟨k,by omega,?_⟩
     rw[<- ek]
     exact bA (bA kv (bA kv kv et) (uq (pre_get (hst0.trans (hp.trans hz)) hd) hdd)) kv (i9 pt)
   have ap:=l_ (y:=fS r) (pre_get (s:=z++[.lst (r.map fun k:Nat=>W.int k)]) (a9 _ _) hcz) (by rw[aE];omega)
   apply aC
   ·exact d9 (hZ kv (df hcz) (aw er aX) ap)
   apply dg
   ·exact bg (bA kv kv et)
   ·refine⟨_,_,rfl,yN++[r],a+n,_,rfl,rE (yr hz) (az _),?_,by simp[hrl],?_,by omega⟩
    ·rw[dO (pre_get (a9 _ _) hcz)];simp
    ·intro x hx
     rcases aU.mp hx with y|y
     ·exact hr x y
     ·simp at y;subst y
      refine⟨hrn,fun k hk=>?_⟩
      obtain⟨q,hq⟩:=List.getElem?_of_mem hk
      exact hrb q k hq
  ·rintro ρ z ⟨yN,a,o9,rfl,hz,hcz,hrl,hr,hal⟩
   have hrl:yN.length=n:=by rw[hrl];simp[fP]
   have hcp:=pre_get hz hc
   have ap:=l_ (y:=we yN) hcp (by rw[aE,hl];omega)
   apply dg
   ·exact d9 (hZ kv (df hcp) (aw (cu kn (mS (b_ hcz))) aX) ap)
   ·refine⟨_,_,rfl,tb++[yN],a,_,_,_,rfl,rE (hp.trans hz) (az _),?_,by simp[hl],?_,by omega⟩
    ·rw[dO hcp];simp
    ·intro x hx
     rcases aU.mp hx with y|y
     ·exact ht x y
     ·simp at y;subst y
      exact⟨hrl,hr⟩
 ·rintro ρ s ⟨tb,a,o7,o8,o9,rfl,hp,hc,hl,ht,hal⟩
  have hl:tb.length=N:=by rw[hl];simp[fP]
  obtain⟨x,rfl⟩:=hst0.trans hp
  apply bN
  ·exact fK (aw kv (aw kv (aw (cu kn (mS (b_ hc))) aX))) (au rfl)
  ·exact⟨_,_,rfl,⟨_,rfl⟩,by simp only[undWs,dA];exact GK ⟨nm,gd,tb⟩ _,⟨nm,gd,tb⟩,rfl,rfl,hgl,by rw[hl,hN],ht⟩
inductive MT where
 |nil
 |nd (l r:MT) (m:List Nat)
namespace MT
def one:MT->Nat
 |nil=>0
 |nd _ _ _=>1
def size:MT->Nat
 |nil=>0
 |nd l r _=>l.size+r.size+1
def po:MT->List Pl
 |nil=>[]
 |nd l r m=>l.po++r.po++[⟨l.one+2*r.one,m⟩]
def tp:MT->Nat->Option Nat
 |nil,_=>none
 |nd l r _,o=>some (o+l.size+r.size)
def lkT:MT->Nat->List (Option Nat×Option Nat)
 |nil,_=>[]
 |nd l r _,o=>l.lkT o++r.lkT (o+l.size)++[(l.tp o,r.tp (o+l.size))]
def szT:MT->List Nat
 |nil=>[]
 |nd l r _=>l.szT++r.szT++[l.size+r.size+1]
theorem po_len:∀t:MT,t.po.length=t.size
 |nil=>rfl
 |nd l r m=>by unfold po size;rw[ah,ah,po_len l,po_len r];rfl
theorem sz_len:∀t:MT,t.szT.length=t.size
 |nil=>rfl
 |nd l r m=>by unfold szT size;rw[ah,ah,sz_len l,sz_len r];rfl
theorem lk_len:∀(t:MT) (o:Nat),(t.lkT o).length=t.size
 |nil,_=>rfl
 |nd l r m,o=>by unfold lkT size;rw[ah,ah,lk_len l,lk_len r];rfl
theorem size_nd(l r:MT)(m:List Nat):(nd l r m).size=l.size+r.size+1:=rfl
theorem tp_nd(l r:MT)(m:List Nat)(o:Nat):(nd l r m).tp o=some (o+(nd l r m).size-1):=by
 show some (o+l.size+r.size)=_
 rw[size_nd];congr 1;omega
theorem Sk(l r:MT)(m:List Nat)(o k:Nat):(nd l r m).tp o=some (o+(nd l r m).size+k-1-k):=by
 rw[tp_nd,size_nd];congr 1;omega
def cs(S:List Nat):MT->List Nat
 |nil=>S
 |nd l r m=>(nd l r m).size::S
theorem gr:∀(t:MT) {ps:List Pl} {S sz:List Nat} {lk:List (Option Nat×Option Nat)},Gr ps S sz lk->Gr (ps++t.po) (t.cs S) (sz++t.szT) (lk++t.lkT ps.length)
 |nil,ps,S,sz,lk,h=>by
  show Gr (ps++[]) S (sz++[]) (lk++[])
  rw[bf,bf,bf];exact h
 |nd l r m,ps,S,sz,lk,h=>by
  have h1:=gr l h
  have h2:=gr r h1
  rw[ah,po_len]at h2
  unfold po szT lkT
  rw[<- ak,<- ak,<- ak,<- ak,<- ak,<- ak]
  refine .snoc h2 ?_
  rw[ah,ah,po_len,po_len]
  cases l with
  |nil=>
   cases r with
   |nil=>exact .z
   |nd r1 r2 rm=>
    have:=St.r (n:=ps.length+(nil:MT).size+(nd r1 r2 rm).size) (a:=(nd r1 r2 rm).size) (S:=S)
    have e:(none,(nd r1 r2 rm).tp (ps.length+(nil:MT).size))=((none:Option Nat),some (ps.length+(nil:MT).size+(nd r1 r2 rm).size-1)):=by rw[tp_nd]
    show St _ _ 2 _ _ (none,_)
    rw[e,show(nil:MT).size+(nd r1 r2 rm).size+1=1+(nd r1 r2 rm).size by simp only[size];omega]
    show St _ _ 2 ((nil.size+(nd r1 r2 rm).size+1)::S) _ _
    rw[show(nil:MT).size+(nd r1 r2 rm).size+1=1+(nd r1 r2 rm).size by simp only[size];omega]
    exact this
  |nd l1 l2 lm=>
   cases r with
   |nil=>
    have:=St.l (n:=ps.length+(nd l1 l2 lm).size+(nil:MT).size) (a:=(nd l1 l2 lm).size) (S:=S)
    have e:((nd l1 l2 lm).tp ps.length,(none:Option Nat))=(some (ps.length+(nd l1 l2 lm).size+(nil:MT).size-1),none):=by rw[tp_nd];rfl
    show St _ _ 1 ((_+1)::S) _ (_,none)
    rw[e,show(nd l1 l2 lm).size+(nil:MT).size+1=1+(nd l1 l2 lm).size by simp only[size];omega]
    exact this
   |nd r1 r2 rm=>
    have:=St.b (n:=ps.length+(nd l1 l2 lm).size+(nd r1 r2 rm).size) (c:=(nd r1 r2 rm).size) (a:=(nd l1 l2 lm).size) (S:=S)
    have e:((nd l1 l2 lm).tp ps.length,(nd r1 r2 rm).tp (ps.length+(nd l1 l2 lm).size))=(some (ps.length+(nd l1 l2 lm).size+(nd r1 r2 rm).size-1-(nd r1 r2 rm).size),some (ps.length+(nd l1 l2 lm).size+(nd r1 r2 rm).size-1)):=by rw[tp_nd r1,Sk l1 l2 lm _ (nd r1 r2 rm).size]
    show St _ _ 3 ((_+1)::S) _ _
    rw[e,show(nd l1 l2 lm).size+(nd r1 r2 rm).size+1=1+(nd r1 r2 rm).size+(nd l1 l2 lm).size by omega]
    exact this
theorem gr0(t:MT):Gr t.po (t.cs []) t.szT (t.lkT 0):=by
 have:=gr t Gr.nil
 simpa using this
def Bl:MT->Nat->Nat->Prop
 |nil,_,_=>False
 |nd l r _,q,j=>(q<l.size/\j<l.size/\l.Bl q j)\/(l.size<=q/\q<l.size+r.size/\l.size<=j/\j<l.size+r.size/\r.Bl (q-l.size) (j-l.size))\/(q=l.size+r.size/\j<l.size+r.size)
end MT
end P
namespace P
open PySem L2
def sv(M:Mc)(m:List Nat)(a b:Nat):Nat:=((M.tb.getD (j9 m M.nm) []).getD a []).getD b 0
namespace MT
def tR(M:Mc):MT->Nat
 |nil=>0
 |nd l r m=>sv M m (l.tR M) (r.tR M)
def rT(M:Mc):MT->List Nat
 |nil=>[]
 |nd l r m=>l.rT M++r.rT M++[sv M m (l.tR M) (r.tR M)]
theorem rT_len(M:Mc):∀t:MT,(t.rT M).length=t.size
 |nil=>rfl
 |nd l r m=>by unfold rT size;rw[ah,ah,rT_len M l,rT_len M r];rfl
theorem B5(M:Mc)(u w:List Nat):∀t:MT,yw (u++t.rT M++w) (t.tp u.length)=t.tR M
 |nil=>rfl
 |nd l r m=>by
  show(u++(l.rT M++r.rT M++[_])++w).getD (u.length+l.size+r.size) 0=_
  rw[ak,ak,ak,aF,aW (by omega),aW (by rw[rT_len];omega),aW (by rw[rT_len,rT_len];omega),rT_len,rT_len,show u.length+l.size+r.size-u.length-l.size-r.size=0 by omega]
  rfl
theorem stp_tp(M:Mc)(u w:List Nat)(l r:MT)(m:List Nat):ut M (u++(l.rT M++r.rT M)++w) m (l.tp u.length,r.tp (u.length+l.size))=sv M m (l.tR M) (r.tR M):=by
 unfold ut sv
 have e1:=B5 M u (r.rT M++w) l
 have e2:=B5 M (u++l.rT M) w r
 rw[ah,rT_len]at e2
 simp only[ak]at e1 e2 ⊢
 rw[e1,e2]
theorem yy(M:Mc):∀(a b:List Pl) (la lb:List (Option Nat×Option Nat)) (r:List Nat),a.length=la.length->D_ M (a++b) (la++lb) r=D_ M b lb (D_ M a la r)
 |[],b,[],lb,r,_=>rfl
 |p::a,b,x::la,lb,r,h=>by
  show D_ M (a++b) (la++lb) _=_
  rw[yy M a b la lb _ (by simpa using h)];rfl
theorem B6(M:Mc):∀(t:MT) (r:List Nat),D_ M t.po (t.lkT r.length) r=r++t.rT M
 |nil,r=>(bf r).symm
 |nd l r m,u=>by
  show D_ M (l.po++r.po++[_]) (l.lkT u.length++r.lkT (u.length+l.size)++[(l.tp u.length,r.tp (u.length+l.size))]) u=_
  rw[yy M _ _ _ _ _ (by rw[ah,ah,po_len,po_len,lk_len,lk_len]),yy M _ _ _ _ _ (by rw[po_len,lk_len]),B6 M l u]
  have e:=B6 M r (u++l.rT M)
  rw[ah,rT_len]at e
  rw[e]
  show(u++l.rT M++r.rT M)++[ut M (u++l.rT M++r.rT M) m _]=_
  have e2:=stp_tp M u [] l r m
  rw[bf,<- ak]at e2
  rw[e2]
  show _=u++(l.rT M++r.rT M++[_])
  rw[ak,ak,ak]
theorem rooms_po(M:Mc)(t:MT):fR M t.po (t.lkT 0)=t.rT M:=B6 M t []
theorem rT_top(M:Mc)(t:MT)(h:0<t.size):(t.rT M).getD (t.size-1) 0=t.tR M:=by
 have:=B5 M [] [] t
 cases t with
 |nil=>exact absurd h (by decide)
 |nd l r m=>
  rw[d7,bf,tp_nd]at this
  rw[<- this];show _=List.getD _ _ 0
  congr 1
  show _=0+_-1
  omega
end MT
inductive Fm where
 |lf (r:MT) (m:List Nat)
 |rg (l:MT) (m:List Nat)
def Fm.ap:Fm->MT->MT
 |.lf r m,x=>.nd x r m
 |.rg l m,x=>.nd l x m
def plug:List Fm->MT->MT
 |[],x=>x
 |f::C,x=>plug C (f.ap x)
def pA:List Fm->List Pl
 |[]=>[]
 |.lf _ _::C=>pA C
 |.rg l _::C=>pA C++l.po
def pB:List Fm->List Pl
 |[]=>[]
 |.lf r m::C=>r.po++[⟨1+2*r.one,m⟩]++pB C
 |.rg l m::C=>[⟨l.one+2,m⟩]++pB C
def rA(M:Mc):List Fm->List Nat
 |[]=>[]
 |.lf _ _::C=>rA M C
 |.rg l _::C=>rA M C++l.rT M
def rB(M:Mc):List Fm->Nat->List Nat
 |[],_=>[]
 |.lf r m::C,a=>r.rT M++[sv M m a (r.tR M)]++rB M C (sv M m a (r.tR M))
 |.rg l m::C,a=>[sv M m (l.tR M) a]++rB M C (sv M m (l.tR M) a)
theorem cW:∀(C:List Fm) (l r:MT) (m:List Nat),(plug C (.nd l r m)).po=pA C++(MT.nd l r m).po++pB C
 |[],l,r,m=>by show _=[]++_++[];rw[d7,bf];rfl
 |.lf y w::C,l,r,m=>by
  show(plug C (.nd (.nd l r m) y w)).po=_
  rw[cW C]
  show pA C++((MT.nd l r m).po++y.po++[⟨1+2*y.one,w⟩])++pB C=pA C++_++(y.po++[⟨1+2*y.one,w⟩]++pB C)
  simp only[ak]
 |.rg y w::C,l,r,m=>by
  show(plug C (.nd y (.nd l r m) w)).po=_
  rw[cW C]
  show pA C++(y.po++(MT.nd l r m).po++[⟨y.one+2*1,w⟩])++pB C=(pA C++y.po)++_++([⟨y.one+2,w⟩]++pB C)
  simp only[ak]
theorem pz(M:Mc):∀(C:List Fm) (x:MT),(plug C x).rT M=rA M C++x.rT M++rB M C (x.tR M)
 |[],x=>by show _=[]++_++[];rw[d7,bf];rfl
 |.lf y w::C,x=>by
  show(plug C (.nd x y w)).rT M=_
  rw[pz M C]
  show rA M C++(x.rT M++y.rT M++[_])++rB M C _=rA M C++_++(y.rT M++[_]++rB M C _)
  simp only[ak];rfl
 |.rg y w::C,x=>by
  show(plug C (.nd y x w)).rT M=_
  rw[pz M C]
  show rA M C++(y.rT M++x.rT M++[_])++rB M C _=(rA M C++y.rT M)++_++([_]++rB M C _)
  simp only[ak];rfl
theorem m5(M:Mc):∀C:List Fm,(rA M C).length=(pA C).length
 |[]=>rfl
 |.lf _ _::C=>m5 M C
 |.rg l _::C=>by show(rA M C++l.rT M).length=(pA C++l.po).length;rw[ah,ah,m5 M C,MT.rT_len,MT.po_len]
theorem yz:∀(C:List Fm) (x:MT),∃u w,(plug C x).lkT 0=u++x.lkT (pA C).length++w/\u.length=(pA C).length
 |[],x=>⟨[],[],by rw[d7,bf];rfl,rfl⟩
 |.lf y w::C,x=>by
  obtain⟨u,v,e,h⟩:=yz C (.nd x y w)
  refine⟨u,y.lkT ((pA C).length+x.size)++[(x.tp (pA C).length,y.tp ((pA C).length+x.size))]++v,?_,h⟩
  show(plug C (.nd x y w)).lkT 0=u++x.lkT (pA C).length++_
  rw[e]
  show u++(x.lkT (pA C).length++_++[_])++v=_
  simp only[ak]
 |.rg y w::C,x=>by
  obtain⟨u,v,e,h⟩:=yz C (.nd y x w)
  have hl:(pA (.rg y w::C)).length=(pA C).length+y.size:=by show(pA C++y.po).length=_;rw[ah,MT.po_len]
  refine⟨u++y.lkT (pA C).length,[(y.tp (pA C).length,x.tp ((pA C).length+y.size))]++v,?_,by rw[ah,MT.lk_len,h,hl]⟩
  show(plug C (.nd y x w)).lkT 0=_
  rw[e,hl]
  show u++(y.lkT (pA C).length++x.lkT _++[_])++v=_
  simp only[ak]
theorem uu:∀(C:List Fm) (x:MT),∃u w,(plug C x).szT=u++x.szT++w/\u.length=(pA C).length
 |[],x=>⟨[],[],by rw[d7,bf];rfl,rfl⟩
 |.lf y w::C,x=>by
  obtain⟨u,v,e,h⟩:=uu C (.nd x y w)
  refine⟨u,y.szT++[x.size+y.size+1]++v,?_,h⟩
  show(plug C (.nd x y w)).szT=_
  rw[e]
  show u++(x.szT++y.szT++[_])++v=_
  simp only[ak]
 |.rg y w::C,x=>by
  obtain⟨u,v,e,h⟩:=uu C (.nd y x w)
  refine⟨u++y.szT,[y.size+x.size+1]++v,?_,by rw[ah,MT.sz_len,h];show _=(pA C++y.po).length;rw[ah,MT.po_len]⟩
  show(plug C (.nd y x w)).szT=_
  rw[e]
  show u++(y.szT++x.szT++[_])++v=_
  simp only[ak]
theorem sU(f:Fm):∀(C:List Fm) (x:MT),plug (C++[f]) x=f.ap (plug C x)
 |[],x=>rfl
 |g::C,x=>sU f C (g.ap x)
theorem G4(r:MT)(m:List Nat):∀C:List Fm,pA (C++[.lf r m])=pA C
 |[]=>rfl
 |.lf _ _::C=>G4 r m C
 |.rg l _::C=>by show pA (C++[.lf r m])++l.po=pA C++l.po;rw[G4 r m C]
theorem G5(l:MT)(m:List Nat):∀C:List Fm,pA (C++[.rg l m])=l.po++pA C
 |[]=>by show[]++l.po=l.po++[];simp
 |.lf _ _::C=>G5 l m C
 |.rg y _::C=>by show pA (C++[.rg l m])++y.po=l.po++(pA C++y.po);rw[G5 l m C,ak]
theorem uv:∀(t:MT) (q:Nat),q<t.size->∃C l r m,t=plug C (.nd l r m)/\q=(pA C).length+l.size+r.size
 |.nil,q,h=>absurd h (by simp[MT.size])
 |.nd l r m,q,h=>by
  rw[MT.size_nd]at h
  by_cases h1:q<l.size
  ·obtain⟨C,a,b,w,e1,e2⟩:=uv l q h1
   exact⟨C++[.lf r m],a,b,w,by rw[sU,<- e1];rfl,by rw[G4];exact e2⟩
  ·by_cases h2:q<l.size+r.size
   ·obtain⟨C,a,b,w,e1,e2⟩:=uv r (q-l.size) (by omega)
    exact⟨C++[.rg l m],a,b,w,by rw[sU,<- e1];rfl,by rw[G5,ah,MT.po_len];omega⟩
   ·exact⟨[],l,r,m,rfl,by show q=0+_+_;omega⟩
end P
namespace P
open PySem L2
theorem G6{α:Type}{a b:List α}{c x:α}{u:Nat}(h:(a++b++[c])[u]?=some x):(u<a.length/\a[u]?=some x)\/(a.length<=u/\u<a.length+b.length/\b[u-a.length]?=some x)\/(u=a.length+b.length/\x=c):=by
 by_cases h1:u<a.length
 ·rw[ak,aK h1]at h
  exact .inl ⟨h1,h⟩
 ·by_cases h2:u<a.length+b.length
  ·rw[ak,aW (by omega),aK (by omega)]at h
   exact .inr (.inl ⟨by omega,h2,h⟩)
  ·have hu:=(ar.mp h).1
   rw[ah,ah,b8]at hu
   have e:u=a.length+b.length:=by omega
   subst e
   rw[aW (by rw[ah];omega),ah,Nat.sub_self]at h
   cases h
   exact .inr (.inr ⟨rfl,rfl⟩)
def N9(x:Option Nat×Option Nat)(j:Nat):Prop:=x.1=some j\/x.2=some j
namespace MT
theorem tp_some{t:MT}{o j:Nat}(h:t.tp o=some j):0<t.size/\j+1=o+t.size:=by
 cases t with
 |nil=>cases h
 |nd l r m=>
  have:some (o+l.size+r.size)=some j:=h
  rw[size_nd]
  have:=bx this
  omega
theorem kid_lt:∀(t:MT) {o u j:Nat} {x:Option Nat×Option Nat},(t.lkT o)[u]?=some x->N9 x j->o<=j/\j<o+u
 |nil,o,u,j,x,h,_=>by cases h
 |nd l r m,o,u,j,x,h,k=>by
  rcases G6 h with⟨h1,h2⟩|⟨h1,h2,h3⟩|⟨h1,h2⟩
  ·exact kid_lt l h2 k
  ·rw[lk_len]at h1 h2 h3
   have:=kid_lt r h3 k
   omega
  ·rw[lk_len,lk_len]at h1
   subst h2
   rcases k with k|k
   ·have:=tp_some k;omega
   ·have:=tp_some k;omega
theorem par_one:∀(t:MT) {o u v j:Nat} {x y:Option Nat×Option Nat},(t.lkT o)[u]?=some x->(t.lkT o)[v]?=some y->N9 x j->N9 y j->u=v
 |nil,o,u,v,j,x,y,h,_,_,_=>by cases h
 |nd l r m,o,u,v,j,x,y,h,h',k,k'=>by
  have hl:=lk_len l o
  have hr:=lk_len r (o+l.size)
  have rt:∀{z:Option Nat×Option Nat},z=(l.tp o,r.tp (o+l.size))->N9 z j->(j+1=o+l.size/\0<l.size)\/(j+1=o+l.size+r.size/\0<r.size):=fun{z} e k=>by
   subst e
   rcases k with k|k
   ·have:=tp_some k;exact .inl ⟨by omega,by omega⟩
   ·have:=tp_some k;exact .inr ⟨by omega,by omega⟩
  rcases G6 h with⟨h1,h2⟩|⟨h1,h2,h3⟩|⟨h1,h2⟩
  ·have b:=kid_lt l h2 k
   rcases G6 h' with⟨g1,g2⟩|⟨g1,g2,g3⟩|⟨g1,g2⟩
   ·exact par_one l h2 g2 k k'
   ·have:=kid_lt r g3 k';omega
   ·have:=rt g2 k';omega
  ·have b:=kid_lt r h3 k
   rcases G6 h' with⟨g1,g2⟩|⟨g1,g2,g3⟩|⟨g1,g2⟩
   ·have:=kid_lt l g2 k';omega
   ·have:=par_one r h3 g3 k k';omega
   ·have:=rt g2 k';omega
  ·have b:=rt h2 k
   rcases G6 h' with⟨g1,g2⟩|⟨g1,g2,g3⟩|⟨g1,g2⟩
   ·have:=kid_lt l g2 k';omega
   ·have:=kid_lt r g3 k';omega
   ·omega
end MT
def Ez(A B:List (Option Nat))(p:Nat):Option Nat:=match A.getD p none with
 |some u=>some u
 |none=>B.getD p none
theorem fF:∀(C:List Fm) (x:MT),0<x.size->(pA C).length+x.size<=(plug C x).size
 |[],x,h=>by show 0+x.size<=x.size;omega
 |.lf y w::C,x,h=>by
  have:=fF C (.nd x y w) (by rw[MT.size_nd];omega)
  rw[MT.size_nd]at this
  show(pA C).length+x.size<=(plug C (.nd x y w)).size
  omega
 |.rg y w::C,x,h=>by
  have:=fF C (.nd y x w) (by rw[MT.size_nd];omega)
  rw[MT.size_nd]at this
  show(pA C++y.po).length+x.size<=(plug C (.nd y x w)).size
  rw[ah,MT.po_len]
  omega
theorem uw(C:List Fm)(l r:MT)(m:List Nat):((plug C (.nd l r m)).lkT 0)[(pA C).length+l.size+r.size]?=some (l.tp (pA C).length,r.tp ((pA C).length+l.size)):=by
 obtain⟨u,w,e,h⟩:=yz C (.nd l r m)
 rw[e,ak,aW (by omega),h]
 show((l.lkT (pA C).length++r.lkT ((pA C).length+l.size)++[_])++w)[_]?=_
 rw[aK (by simp[MT.lk_len];omega),aW (by rw[ah,MT.lk_len,MT.lk_len];omega),ah,MT.lk_len,MT.lk_len,show(pA C).length+l.size+r.size-(pA C).length-(l.size+r.size)=0 by omega]
 rfl
theorem Up.is{t:MT}{A:List (Option Nat)}{f:Option Nat×Option Nat->Option Nat}(hf:∀x j,f x=some j->N9 x j)(h:Up (t.lkT 0) f t.size A){j p:Nat}{x:Option Nat×Option Nat}(hx:(t.lkT 0)[p]?=some x)(hk:f x=some j):A.getD j none=some p:=by
 have hp:p<t.size:=by have:=(ar.mp hx).1;rwa[MT.lk_len]at this
 obtain⟨v,hv⟩:=h.2 p x j hp hx hk
 obtain⟨y,hy,hy2⟩:=h.1 j v hv
 rw[aF,hv,Option.getD_some,MT.par_one t hy hx (hf _ _ hy2) (hf _ _ hk)]
theorem Up.no{t:MT}{A:List (Option Nat)}{f:Option Nat×Option Nat->Option Nat}(h:Up (t.lkT 0) f t.size A){j:Nat}(hn:∀(p:Nat) (x:Option Nat×Option Nat),(t.lkT 0)[p]?=some x->f x≠some j):A.getD j none=none:=by
 rw[aF]
 cases e:A[j]? with
 |none=>rfl
 |some o=>
  cases o with
  |none=>rfl
  |some u=>
   obtain⟨y,hy,hy2⟩:=h.1 j u e
   exact absurd hy2 (hn u y hy)
theorem NJ{x:MT}{A B:List (Option Nat)}(hA:Up (x.lkT 0) Prod.fst x.size A)(hB:Up (x.lkT 0) Prod.snd x.size B)(h0:0<x.size):Ez A B (x.size-1)=none:=by
 have key:∀(p:Nat) (y:Option Nat×Option Nat),(x.lkT 0)[p]?=some y->¬ N9 y (x.size-1):=fun p y hy hk=>by
  have:=MT.kid_lt x hy hk
  have hp:=(ar.mp hy).1
  rw[MT.lk_len]at hp
  omega
 unfold Ez
 rw[hA.no fun p y hy e=>key p y hy (.inl e)]
 exact hB.no fun p y hy e=>key p y hy (.inr e)
theorem Qu{C:List Fm}{x y:MT}{w:List Nat}{A B:List (Option Nat)}{t:MT}(ht:t=plug C (.nd x y w))(hA:Up (t.lkT 0) Prod.fst t.size A)(h0:0<x.size):Ez A B ((pA C).length+x.size-1)=some ((pA C).length+x.size+y.size):=by
 subst ht
 have e:=uw C x y w
 have hx:x.tp (pA C).length=some ((pA C).length+x.size-1):=by
  cases x with
  |nil=>exact absurd h0 (by decide)
  |nd a b c=>rw[MT.tp_nd]
 unfold Ez
 rw[hA.is (fun _ _ h=>.inl h) e hx]
theorem Qw{C:List Fm}{x y:MT}{w:List Nat}{A B:List (Option Nat)}{t:MT}(ht:t=plug C (.nd y x w))(hA:Up (t.lkT 0) Prod.fst t.size A)(hB:Up (t.lkT 0) Prod.snd t.size B)(h0:0<x.size):Ez A B ((pA C).length+y.size+x.size-1)=some ((pA C).length+y.size+x.size):=by
 subst ht
 have e:=uw C y x w
 have hx:x.tp ((pA C).length+y.size)=some ((pA C).length+y.size+x.size-1):=by
  cases x with
  |nil=>exact absurd h0 (by decide)
  |nd a b c=>rw[MT.tp_nd]
 unfold Ez
 rw[hA.no (fun p z hz k=>by
  obtain rfl:=MT.par_one _ hz e (.inl k) (.inr hx)
  rw[e]at hz
  cases hz
  have:=MT.tp_some k
  omega)]
 exact hB.is (fun _ _ h=>.inr h) e hx
end P
namespace P
open PySem L2
section
variable{M:Mc}{n:Nat}
theorem vB(hM:lK M n)(m:List Nat){a b:Nat}(ha:a<n)(hb:b<n):sv M m a b<n:=by
 have h1:j9 m M.nm<M.tb.length:=by rw[hM.tb];exact Dc m M.nm
 have e1:=jQ [] h1
 obtain⟨t1,t2⟩:=hM.t _ (cf e1)
 have e2:=jQ (l:=M.tb.getD (j9 m M.nm) []) [] (i:=a) (by omega)
 obtain⟨t3,t4⟩:=t2 _ (cf e2)
 have e3:=jQ (l:=(M.tb.getD (j9 m M.nm) []).getD a []) 0 (i:=b) (by omega)
 exact t4 _ (cf e3)
theorem MT.tR_lt(hM:lK M n)(hn:1<=n):∀t:MT,t.tR M<n
 |.nil=>hn
 |.nd l r m=>vB hM m (tR_lt hM hn l) (tR_lt hM hn r)
theorem MT.rT_lt(hM:lK M n)(hn:1<=n):∀t:MT,∀k∈t.rT M,k<n
 |.nil,k,h=>by cases h
 |.nd l r m,k,h=>by
  rcases aU.mp h with h|h
  ·rcases aU.mp h with h|h
   ·exact rT_lt hM hn l k h
   ·exact rT_lt hM hn r k h
  ·rw[aY.mp h];exact vB hM m (tR_lt hM hn l) (tR_lt hM hn r)
def Fm.rm(M:Mc):Fm->Nat->Nat
 |.lf r m,a=>sv M m a (r.tR M)
 |.rg l m,a=>sv M m (l.tR M) a
theorem G7(hM:lK M n)(hn:1<=n):∀C:List Fm,∀k∈rA M C,k<n
 |[],k,h=>by cases h
 |.lf _ _::C,k,h=>G7 hM hn C k h
 |.rg l _::C,k,h=>by
  rcases aU.mp h with h|h
  ·exact G7 hM hn C k h
  ·exact l.rT_lt hM hn k h
theorem G8(hM:lK M n)(hn:1<=n):∀(C:List Fm) {a:Nat},a<n->∀k∈rB M C a,k<n
 |[],a,_,k,h=>by cases h
 |.lf r m::C,a,ha,k,h=>by
  have hv:=vB hM m ha (r.tR_lt hM hn)
  rcases aU.mp h with h|h
  ·rcases aU.mp h with h|h
   ·exact r.rT_lt hM hn k h
   ·rw[aY.mp h];exact hv
  ·exact G8 hM hn C hv k h
 |.rg l m::C,a,ha,k,h=>by
  have hv:=vB hM m (l.tR_lt hM hn) ha
  rcases aU.mp h with h|h
  ·rw[aY.mp h];exact hv
  ·exact G8 hM hn C hv k h
def fr(M:Mc)(C:List Fm)(l r:MT)(o:Nat):List Nat:=rA M C++(l.rT M++r.rT M++[o])++rB M C o
theorem Qx(hM:lK M n)(hn:1<=n)(C:List Fm)(l r:MT){o:Nat}(ho:o<n):∀k∈fr M C l r o,k<n:=fun k h=>by
 rcases aU.mp h with h|h
 ·rcases aU.mp h with h|h
  ·exact G7 hM hn C k h
  ·rcases aU.mp h with h|h
   ·rcases aU.mp h with h|h
    ·exact l.rT_lt hM hn k h
    ·exact r.rT_lt hM hn k h
   ·rw[aY.mp h];exact ho
 ·exact G8 hM hn C ho k h
theorem yA{α:Type}(a b c d:List α)(o:α){p:Nat}(hp:p=a.length+b.length+c.length):(a++(b++c++[o])++d)[p]?=some o:=by
 subst hp
 rw[show a++(b++c++[o])++d=(a++b++c)++o::d by simp,aW (by simp[mj])]
 simp[mj]
theorem JF{α:Type}(a b c d:List α)(o v:α){p:Nat}(hp:p=a.length+b.length+c.length):(a++(b++c++[o])++d).set p v=a++(b++c++[v])++d:=by
 subst hp
 rw[show a++(b++c++[o])++d=(a++b++c)++o::d by simp,nY _ _ (by simp[mj]),show a.length+b.length+c.length-(a++b++c).length=0 by simp;omega]
 simp
theorem K7(M:Mc)(C:List Fm)(l r:MT):(pA C).length+l.size+r.size=(rA M C).length+(l.rT M).length+(r.rT M).length:=by rw[m5,MT.rT_len,MT.rT_len]
def JG(M:Mc):List Fm->Nat->Nat->Nat
 |[],_,_=>1
 |f::C,v,o=>if v=o then 1 else 1+JG M C (f.rm M v) (f.rm M o)
theorem B8{A B:List (Option Nat)}{ua ub p:Nat}{st:List ao}(ha:st[ua]?=some (.lst (A.map oW)))(hb:st[ub]?=some (.lst (B.map oW)))(hp:p<A.length)(HZ:p<B.length):D7 [.tup [.loc ua,.loc ub],.int p] st=.ok (oW (Ez A B p)) st:=by
 have ea:bu (.loc ua) (.int p) st=.ok (oW (A.getD p none)) st:=ky (b_ ha) (f6 (by rw[aG,jQ none hp];rfl))
 have eb:bu (.loc ub) (.int p) st=.ok (oW (B.getD p none)) st:=ky (b_ hb) (f6 (by rw[aG,jQ none HZ];rfl))
 unfold Ez
 cases e:A.getD p none with
 |some u=>
  rw[e]at ea
  apply eK
  apply bN
  ·exact qS (aZ (eT (bA kx kv ea) rfl)) (bA kx kv ea)
  ·exact⟨_,_,rfl,rfl,rfl⟩
 |none=>
  rw[e]at ea
  apply eK
  apply bN
  ·exact qT (aZ (eT (bA kx kv ea) rfl)) (bA kx kv eb)
  ·exact⟨_,_,rfl,rfl,rfl⟩
theorem NK{g g':FS}{ρ ρ':cI}{st st1:List ao}(h:g ρ st=.bk ρ' st1):aN g g' ρ st=.bk ρ' st1:=by unfold aN;rw[h]
abbrev cT:FT:=ef (gA (ag 8))
abbrev cB:FS:=(aN (be 9 (cx 4 re (ai (ag 0) (ai (e2 bu (e2 bu (ag 1) (ag 8)) (eI 1)) (ai (e2 bu (ag 4) (ag 8)) (ai (ag 6) aD)))))) (aN (be 7 (e2 cK (ag 7) (eI 1))) (aN (fN (ef (e2 iE (ag 9) (e2 bu (ag 6) (ag 8)))) Bw bT) (aN (zu (ag 6) (ag 8) (ag 9) pM) (be 8 (cx 2 D7 (ai (ag 5) (ai (ag 8) aD))))))))
abbrev cR(M:Mc)(t:MT)(x2:W)(q ua ub pf c:Nat)(o8 o9:Option W):cI:=[some M.w,some (bG t.po),some x2,iO (q:Nat),some (.tup ((t.lkT 0).map iQ)),some (.tup [.loc ua,.loc ub]),lO pf,iO (c:Nat),o8,o9]
theorem Av{t:FT}{g:FS}{k:Nat}{ρ ρ':cI}{st bh:List ao}(h:t ρ st=.ok true st)(e:g ρ st=.bk ρ' bh):d8 t g (k+1) ρ st=.nx ρ' bh:=by unfold d8;rw[h];simp only[R.stmt_ok,fX,e]
theorem vC{t:FT}{g:FS}{k:Nat}{ρ ρ':cI}{st bh:List ao}{rs:RS}(h:t ρ st=.ok true st)(e:g ρ st=.nx ρ' bh)(e2:d8 t g k ρ' bh=rs):d8 t g (k+1) ρ st=rs:=by unfold d8;rw[h];simp only[R.stmt_ok,fX,e];exact e2
theorem Ed{t:FT}{g:FS}{k:Nat}{ρ:cI}{st:List ao}(h:t ρ st=.ok false st):d8 t g (k+1) ρ st=.nx ρ st:=by unfold d8;rw[h];rfl
theorem m6(C:List Fm)(l r:MT)(m:List Nat):(plug C (.nd l r m)).po[(pA C).length+l.size+r.size]?=some ⟨l.one+2*r.one,m⟩:=by
 rw[cW]
 exact yA (pA C) l.po r.po (pB C) _ (by rw[MT.po_len,MT.po_len])
section
variable{t:MT}{A B:List (Option Nat)}{ua ub pf:Nat}
theorem JH(M:Mc)(C:List Fm)(l r:MT)(m:List Nat)(o:Nat):ut M (fr M C l r o) m (l.tp (pA C).length,r.tp ((pA C).length+l.size))=sv M m (l.tR M) (r.tR M):=by
 have:=MT.stp_tp M (rA M C) ([o]++rB M C o) l r m
 rw[m5]at this
 rw[<- this]
 unfold fr
 simp only[ak]
theorem vD(hM:lK M n)(hn:1<=n)(x2:W)(q:Nat)(lA:A.length=t.size)(lB:B.length=t.size)(na:pf≠ua)(nb:pf≠ub){C:List Fm}{l r:MT}{m:List Nat}{o:Nat}(c:Nat)(o9:Option W){st:List ao}(ht:t=plug C (.nd l r m))(ho:o<n)(ha:st[ua]?=some (.lst (A.map oW)))(hb:st[ub]?=some (.lst (B.map oW)))(hf:st[pf]?=some (.lst (nW (fr M C l r o)))) :
  (sv M m (l.tR M) (r.tR M)=o->cB (cR M t x2 q ua ub pf c (iO ((pA C).length+l.size+r.size:Nat)) o9) st=.bk (cR M t x2 q ua ub pf (c+1) (iO ((pA C).length+l.size+r.size:Nat)) (iO (o:Nat))) st) /\
  (sv M m (l.tR M) (r.tR M)≠o->cB (cR M t x2 q ua ub pf c (iO ((pA C).length+l.size+r.size:Nat)) o9) st=.nx (cR M t x2 q ua ub pf (c+1) (some (oW (Ez A B ((pA C).length+l.size+r.size)))) (iO (sv M m (l.tR M) (r.tR M):Nat))) (st.set pf (.lst (nW (rA M C++(l.rT M++r.rT M++[sv M m (l.tR M) (r.tR M)])++rB M C o))))):=by
 have hx:=uw C l r m
 have hp:=m6 C l r m
 have hg:=MT.gr0 (plug C (.nd l r m))
 have hz:=fF C (.nd l r m) (by rw[MT.size_nd];omega)
 rw[<- ht]at hx hp hg hz
 rw[MT.size_nd]at hz
 have hs:=JH M C l r m o
 have hat:(fr M C l r o)[(pA C).length+l.size+r.size]?=some o:=yA _ _ _ _ _ (K7 M C l r)
 have N1:(fr M C l r o).set ((pA C).length+l.size+r.size) (sv M m (l.tR M) (r.tR M))=rA M C++(l.rT M++r.rT M++[sv M m (l.tR M) (r.tR M)])++rB M C o:=JF _ _ _ _ _ _ (K7 M C l r)
 have hfl:=(ar.mp hat).1
 have hlk:=hg.lk hx
 have hr:=K5 (m:=m) hM hn (Qx hM hn C l r ho) (x:=(l.tp (pA C).length,r.tp ((pA C).length+l.size))) ⟨fun k e=>rO (hlk.1 k e) hfl,fun k e=>rO (hlk.2 k e) hfl⟩ st hf
 rw[hs]at hr
 generalize hv:sv M m (l.tR M) (r.tR M)=v at *
 generalize hP:(pA C).length+l.size+r.size=p at *
 have e9:be 9 (cx 4 re (ai (ag 0) (ai (e2 bu (e2 bu (ag 1) (ag 8)) (eI 1)) (ai (e2 bu (ag 4) (ag 8)) (ai (ag 6) aD))))) (cR M t x2 q ua ub pf c (iO (p:Nat)) o9) st=.nx (cR M t x2 q ua ub pf c (iO (p:Nat)) (iO (v:Nat))) st:=
  bg (cz (aw kv (aw (bA (bA kv kv (rD hp st)) bR (BW _ st)) (aw (bA kv kv (lH (f6 (by rw[aG,hx];rfl)))) kn))) hr rfl)
 have e7:be 7 (e2 cK (ag 7) (eI 1)) (cR M t x2 q ua ub pf c (iO (p:Nat)) (iO (v:Nat))) st=.nx (cR M t x2 q ua ub pf (c+1) (iO (p:Nat)) (iO (v:Nat))) st:=bg (bA kv bR et)
 have eq:∀b,decide (v=o)=b->ef (e2 iE (ag 9) (e2 bu (ag 6) (ag 8))) (cR M t x2 q ua ub pf (c+1) (iO (p:Nat)) (iO (v:Nat))) st=.ok b st:=fun b hb=>aZ (bA kv (bA kv kv (K4 hf hat)) (fm (by rw[<- hb,nO,dv,lg];omega)))
 refine⟨fun h=>?_,fun h=>?_⟩
 ·refine cn e9 (cn e7 (NK ?_))
  rw[cQ (eq true (bY h)) rfl,h];rfl
 ·refine cn e9 (cn e7 (cn (cH (eq false (ba h)) rfl) (cn (C7 kv kv kv (BY hf (by show _<(List.map _ _).length;rw[aE];exact hfl))) ?_)))
  rw[show(nW (fr M C l r o)).set p (W.int (v:Nat))=nW ((fr M C l r o).set p v) by unfold nW;rw[rQ],N1]
  exact bg (cz (aw kv kn) (B8 (by rw[bC na];exact ha) (by rw[bC nb];exact hb) (by omega) (by omega)) rfl)
theorem B9(hM:lK M n)(hn:1<=n)(x2:W)(q:Nat)(hA:Up (t.lkT 0) Prod.fst t.size A)(hB:Up (t.lkT 0) Prod.snd t.size B)(lA:A.length=t.size)(lB:B.length=t.size)(na:pf≠ua)(nb:pf≠ub) :
  ∀(C:List Fm) (l r:MT) (m:List Nat) (o c:Nat) (o9:Option W) (st:List ao),t=plug C (.nd l r m)->o<n->st[ua]?=some (.lst (A.map oW))->st[ub]?=some (.lst (B.map oW))->st[pf]?=some (.lst (nW (fr M C l r o))) ->
   ∃o8 o9' bh,d8 cT cB (C.length+2) (cR M t x2 q ua ub pf c (iO ((pA C).length+l.size+r.size:Nat)) o9) st=.nx (cR M t x2 q ua ub pf (c+JG M C (sv M m (l.tR M) (r.tR M)) o) o8 o9') bh/\bh[pf]?=some (.lst (nW (t.rT M)))/\∀i,i≠pf->bh[i]?=st[i]?:=by
 intro C
 induction C with
 |nil=>
  intro l r m o c o9 st ht ho ha hb hf
  obtain⟨s1,s2⟩:=vD hM hn x2 q lA lB na nb c o9 ht ho ha hb hf
  by_cases h:sv M m (l.tR M) (r.tR M)=o
  ·refine⟨_,_,st,Av (aZ (eT kv rfl)) (s1 h),?_,fun _ _=>rfl⟩
   rw[hf,ht]
   unfold fr
   rw[show(plug [] (.nd l r m)).rT M=rA M []++(l.rT M++r.rT M++[sv M m (l.tR M) (r.tR M)])++rB M [] (sv M m (l.tR M) (r.tR M))from pz M [] _,h]
  ·have e:=s2 h
   have hu:Ez A B ((pA []).length+l.size+r.size)=none:=by
    have:=NJ hA hB (by rw[ht];show 0<l.size+r.size+1;omega)
    rw[show t.size=l.size+r.size+1 by rw[ht];rfl]at this
    rw[<- this];congr 1;show 0+_+_=_;omega
   rw[hu]at e
   refine⟨_,_,_,vC (aZ (eT kv rfl)) e (Ed (aZ (eT kv rfl))),?_,fun i hi=>bC (Ne.symm hi)⟩
   rw[dO hf,ht]
   show some (ao.lst (nW ([]++_++[])))=_
   rw[d7,bf];rfl
 |cons f C ih=>
  intro l r m o c o9 st ht ho ha hb hf
  obtain⟨s1,s2⟩:=vD hM hn x2 q lA lB na nb c o9 ht ho ha hb hf
  by_cases h:sv M m (l.tR M) (r.tR M)=o
  ·rw[show JG M (f::C) (sv M m (l.tR M) (r.tR M)) o=1 from aJ h]
   refine⟨_,_,st,Av (aZ (eT kv rfl)) (s1 h),?_,fun _ _=>rfl⟩
   rw[hf,ht]
   unfold fr
   rw[pz M (f::C),show(MT.nd l r m).tR M=o from h,show(MT.nd l r m).rT M=l.rT M++r.rT M++[sv M m (l.tR M) (r.tR M)]from rfl,h]
  ·have e:=s2 h
   rw[show JG M (f::C) (sv M m (l.tR M) (r.tR M)) o=1+JG M C (f.rm M (sv M m (l.tR M) (r.tR M))) (f.rm M o)from aV h,<- mj]
   cases f with
   |lf y w=>
    have hu:Ez A B ((pA (.lf y w::C)).length+l.size+r.size)=some ((pA C).length+(MT.nd l r m).size+y.size):=by
     have:=Qu (B:=B) (t:=t) (C:=C) (x:=.nd l r m) (y:=y) (w:=w) ht hA (by rw[MT.size_nd];omega)
     rw[<- this];congr 1;rw[MT.size_nd];show(pA C).length+_+_=_;omega
    rw[hu]at e
    obtain⟨o8,o9',bh,e2,e3,e4⟩:=ih (.nd l r m) y w (sv M w o (y.tR M)) (c+1) (iO (sv M m (l.tR M) (r.tR M):Nat)) (st.set pf (.lst (nW (rA M (.lf y w::C)++(l.rT M++r.rT M++[sv M m (l.tR M) (r.tR M)])++rB M (.lf y w::C) o)))) ht (vB hM w ho (y.tR_lt hM hn)) (by rw[bC na];exact ha) (by rw[bC nb];exact hb) (by
     rw[dO hf]
     unfold fr
     show some (ao.lst (nW (rA M C++_++(y.rT M++[_]++rB M C _))))=some (ao.lst (nW (rA M C++((l.rT M++r.rT M++[_])++y.rT M++[_])++rB M C _)))
     simp only[ak])
    exact⟨o8,o9',bh,vC (aZ (eT kv rfl)) e e2,e3,fun i hi=>by rw[e4 i hi];exact bC (Ne.symm hi)⟩
   |rg y w=>
    have hu:Ez A B ((pA (.rg y w::C)).length+l.size+r.size)=some ((pA C).length+y.size+(MT.nd l r m).size):=by
     have:=Qw (t:=t) (C:=C) (x:=.nd l r m) (y:=y) (w:=w) ht hA hB (by rw[MT.size_nd];omega)
     rw[<- this];congr 1;rw[MT.size_nd];show(pA C++y.po).length+_+_=_;rw[ah,MT.po_len];omega
    rw[hu]at e
    obtain⟨o8,o9',bh,e2,e3,e4⟩:=ih y (.nd l r m) w (sv M w (y.tR M) o) (c+1) (iO (sv M m (l.tR M) (r.tR M):Nat)) (st.set pf (.lst (nW (rA M (.rg y w::C)++(l.rT M++r.rT M++[sv M m (l.tR M) (r.tR M)])++rB M (.rg y w::C) o)))) ht (vB hM w (y.tR_lt hM hn) ho) (by rw[bC na];exact ha) (by rw[bC nb];exact hb) (by
     rw[dO hf]
     unfold fr
     show some (ao.lst (nW ((rA M C++y.rT M)++_++([_]++rB M C _))))=some (ao.lst (nW (rA M C++(y.rT M++(l.rT M++r.rT M++[_])++[_])++rB M C _)))
     simp only[ak])
    exact⟨o8,o9',bh,vC (aZ (eT kv rfl)) e e2,e3,fun i hi=>by rw[e4 i hi];exact bC (Ne.symm hi)⟩
end
theorem B_(hM:lK M n)(hn:1<=n){C:List Fm}{l r t:MT}{m:List Nat}{o:Nat}(ht:t=plug C (.nd l r m))(ho:o<n)(hs:t.size<=900)(st:List ao) :
  z_ [M.w,bG t.po,fS (fr M C l r o),.int ((pA C).length+l.size+r.size:Nat)] st=.ok (.tup [fS (t.rT M),.int (JG M C (sv M m (l.tR M) (r.tR M)) o:Nat)]) st:=by
 have hg:=t.gr0
 have hl:=t.po_len
 obtain⟨A,B,x,lA,lB,uA,uB,cA,cB',e5⟩:=NG hg (by omega) st
 rw[hl]at lA lB uA uB
 have e6:wL [fS (fr M C l r o)] (st++x)=.ok (.loc (st++x).length) (st++x++[.lst (nW (fr M C l r o))]):=NB
 have nA:(st++x).length≠st.length:=fun e=>by have:=fC cA;omega
 have nB:(st++x).length≠st.length+1:=fun e=>by have:=fC cB';omega
 obtain⟨o8,o9,bh,e8,e9,e10⟩:=B9 hM hn (fS (fr M C l r o)) ((pA C).length+l.size+r.size) uA uB lA lB nA nB C l r m o 0 none (st++x++[.lst (nW (fr M C l r o))]) ht ho (c6 cA) (c6 cB') dm
 rw[nq]at e8
 refine fq ?_ (by simp[undWs,ur,W.und])
 apply aC
 ·exact bg (cz kn (rC hg (by omega) st) rfl)
 apply aC
 ·exact bg (cz kn e5 rfl)
 apply aC
 ·exact bg (cu kn e6)
 apply aC
 ·exact bg bR
 apply aC
 ·exact bg kv
 apply aC
 ·exact wN e8 (by simp)
 apply bN
 ·exact fK (aw (cu kn (mS (b_ e9))) kn) (au rfl)
 ·refine⟨_,_,rfl,rfl,?_⟩
  have:st <+: bh:=List.prefix_iff_getElem?.mpr fun i hi=>by
   rw[e10 i (by rw[ah];omega),ak,aK hi,aj hi]
  exact this.imp fun x e=>e.symm
end
theorem MT.one_of:∀{t:MT},0<t.size->t.one=1
 |.nil,h=>absurd h (by decide)
 |.nd _ _ _,_=>rfl
theorem MT.one_bit:∀t:MT,py t.po=t.one
 |.nil=>rfl
 |.nd l r m=>by unfold py;rw[aJ (by rw[MT.po_len,MT.size_nd];omega)];rfl
theorem MT.one_le:∀t:MT,t.one<=1/\(0<t.size↔t.one=1)
 |.nil=>⟨by decide,by decide⟩
 |.nd l r m=>⟨az 1,by rw[MT.size_nd];exact⟨fun _=>rfl,fun _=>by omega⟩⟩
theorem Gr.mts{ps:List Pl}{S sz:List Nat}{lk:List (Option Nat×Option Nat)}(h:Gr ps S sz lk):∃F:List MT,(∀t∈F,0<t.size)/\S=F.map MT.size/\ps=(F.reverse.map MT.po).flatten:=by
 induction h with
 |nil=>exact⟨[],by simp,rfl,rfl⟩
 |@snoc ps S S' sz lk b k m x h hs ih=>
  obtain⟨F,h1,rfl,rfl⟩:=ih
  have add:∀(t:MT) (G:List MT),0<t.size->(∀x∈G,0<x.size)->∀x∈t::G,0<x.size:=fun t G h g x hx=>by
   rcases aS.mp hx with rfl|hx
   ·exact h
   ·exact g x hx
  generalize hS:F.map MT.size=S0 at hs
  cases hs with
  |z=>
   refine⟨.nd .nil .nil m::F,add _ _ (Nat.succ_pos _) h1,by rw[<- hS];rfl,?_⟩
   rw[bv,a8,dw];rfl
  |l=>
   match F,hS with
   |t::F,hS=>
    rw[bn]at hS
    cases hS
    have ht:=h1 t bB
    refine⟨.nd t .nil m::F,add _ _ (by rw[MT.size_nd];omega) fun x hx=>h1 x (aR _ hx),?_,?_⟩
    ·rw[bn,MT.size_nd];congr 1;show _=_+0+1;omega
    ·rw[bv,a8,dw,bv,a8,dw,ak]
     congr 1
     show(t.po++[])++_=(t.po++[]++[⟨t.one+2*0,m⟩])++[]
     rw[MT.one_of ht];simp
  |r=>
   match F,hS with
   |t::F,hS=>
    rw[bn]at hS
    cases hS
    have ht:=h1 t bB
    refine⟨.nd .nil t m::F,add _ _ (by rw[MT.size_nd];omega) fun x hx=>h1 x (aR _ hx),?_,?_⟩
    ·rw[bn,MT.size_nd];congr 1;show _=0+_+1;omega
    ·rw[bv,a8,dw,bv,a8,dw,ak]
     congr 1
     show(t.po++[])++_=([]++t.po++[⟨0+2*t.one,m⟩])++[]
     rw[MT.one_of ht];simp
  |b=>
   match F,hS with
   |c::t::F,hS=>
    rw[bn,bn]at hS
    cases hS
    have hc:=h1 c bB
    have ht:=h1 t (aR _ bB)
    refine⟨.nd t c m::F,add _ _ (by rw[MT.size_nd];omega) fun x hx=>h1 x (aR _ (aR _ hx)),?_,?_⟩
    ·rw[bn,MT.size_nd];congr 1;omega
    ·rw[bv,a8,dw,bv,bv,a8,dw,a8,dw,ak,ak]
     congr 1
     show(t.po++[])++((c.po++[])++_)=(t.po++c.po++[⟨t.one+2*c.one,m⟩])++[]
     rw[MT.one_of ht,MT.one_of hc];simp
   |[_],hS=>simp at hS
theorem Gr.mt{ps:List Pl}{S sz:List Nat}{lk:List (Option Nat×Option Nat)}(h:Gr ps S sz lk)(h1:S.length<=1):∃t:MT,ps=t.po:=by
 obtain⟨F,_,rfl,rfl⟩:=h.mts
 match F,h1 with
 |[],_=>exact⟨.nil,rfl⟩
 |[t],_=>exact⟨t,by simp⟩
 |_::_::_,h=>simp at h
section
variable{M:Mc}{n:Nat}
def pq(C:List Fm)(l r:MT):Nat:=(pA C).length+l.size+r.size
theorem Aw(C:List Fm)(l r:MT)(m:List Nat):GY (plug C (.nd l r m)).po (plug C (.nd l r m)).szT (pq C l r) ⟨l.one+2*r.one,m⟩ l.size r.size:=by
 obtain⟨u,w,e,hu⟩:=uu C (.nd l r m)
 have hl:=l.one_le
 have hr:=r.one_le
 refine⟨m6 C l r m,?_,by unfold pq;omega,by show l.one+2*r.one<=3;omega,by show _↔(l.one+2*r.one)%2=1;omega,by show _↔2<=l.one+2*r.one;omega,fun h=>?_⟩
 ·rw[e,show 1+l.size+r.size=l.size+r.size+1 by omega]
  exact yA u l.szT r.szT w _ (by rw[hu,MT.sz_len,MT.sz_len];rfl)
 ·have h2:2<=l.one+2*r.one:=h
  cases r with
  |nil=>exact absurd h2 (by show ¬ 2<=l.one+2*0;omega)
  |nd a b c=>
   rw[MT.size_nd]
   refine⟨by unfold pq;rw[MT.size_nd];omega,?_⟩
   rw[e,show(MT.nd l (.nd a b c) m).szT=l.szT++(a.szT++b.szT++[a.size+b.size+1])++[l.size+(MT.nd a b c).size+1]from rfl,<- ak,<- ak,ak]
   exact yA (u++l.szT) a.szT b.szT _ _ (by rw[ah,hu,MT.sz_len,MT.sz_len,MT.sz_len];unfold pq;rw[MT.size_nd];omega)
theorem ux{α:Type}{a b c d:List α}{p q k:Nat}(hp:p=a.length)(hk:k=b.length):((a++(b++c)++d).drop p).take k=b:=by
 subst hp;subst hk
 rw[ak,List.drop_left,ak,gc]
theorem Ax(C:List Fm)(l r:MT)(m:List Nat):B2 (plug C (.nd l r m)).po (pq C l r) l.size r.size=l.po:=by
 unfold B2 pq
 rw[cW,show(MT.nd l r m).po=l.po++(r.po++[⟨l.one+2*r.one,m⟩])from ak _ _ _]
 exact ux (q:=0) (by omega) (MT.po_len l).symm
theorem Ay(C:List Fm)(l r:MT)(m:List Nat):B3 (plug C (.nd l r m)).po (pq C l r) r.size=r.po:=by
 unfold B3 pq
 rw[cW,show pA C++(MT.nd l r m).po++pB C=(pA C++l.po)++(r.po++[⟨l.one+2*r.one,m⟩])++pB C by show pA C++(l.po++r.po++_)++_=_;simp only[ak]]
 exact ux (q:=0) (by rw[ah,MT.po_len];omega) (MT.po_len r).symm
theorem Az(C:List Fm)(l r x:MT)(m:List Nat)(sd:Bool):N8 (plug C (.nd l r m)).po (pq C l r) l.size r.size m sd x.po=(plug C (.nd (if sd then x else l) (if sd then r else x) m)).po:=by
 unfold N8
 rw[Ax,Ay]
 have e1:(plug C (.nd l r m)).po.take (pq C l r-l.size-r.size)=pA C:=by
  rw[cW,ak,show pq C l r-l.size-r.size=(pA C).length by unfold pq;omega,gc]
 have e2:(plug C (.nd l r m)).po.drop (pq C l r+1)=pB C:=by
  rw[cW]
  exact gI (by rw[ah,MT.po_len,MT.size_nd];unfold pq;omega)
 rw[e1,e2,cW]
 cases sd
 ·show pA C++(l.po++x.po++[⟨py l.po+2*py x.po,m⟩])++pB C=_
  rw[MT.one_bit,MT.one_bit];rfl
 ·show pA C++(x.po++r.po++[⟨py x.po+2*py r.po,m⟩])++pB C=_
  rw[MT.one_bit,MT.one_bit];rfl
theorem AA{a:List Nat}{q:Nat}(h:q<=a.length)(st:List ao):vO (fS a) none (some (q:Int)) st=.ok (fS (a.take q)) st:=by
 show R.ok (W.tup (jc _ _ _)) st=_
 rw[mR (by simpa using h),<- mh];rfl
theorem AB{a:List Nat}{q:Nat}(h:q<=a.length)(st:List ao):vO (fS a) (some (q:Int)) none st=.ok (fS (a.drop q)) st:=by
 show R.ok (W.tup (jc _ _ _)) st=_
 rw[qX (by simpa using h),<- mi];rfl
theorem rG(a b:List Nat)(h:(a++b).length<=100000)(st:List ao):cK (fS a) (fS b) st=.ok (fS (a++b)) st:=by
 unfold fS
 rw[a8]
 exact FN (by rw[<- a8,aE];show _<=1000000;omega)
theorem rH(hM:lK M n)(hn:1<=n)(t:MT)(h:t.size<=900)(st:List ao):nG [M.w,bG t.po] st=.ok (fS (t.rT M)) st:=by
 have:=GR t.gr0 (by rw[MT.po_len];omega) hM hn st
 rwa[MT.rooms_po]at this
theorem G9(C:List Fm)(l r:MT)(m:List Nat)(h:(plug C (.nd l r m)).size<=900)(st:List ao):pS [bG (plug C (.nd l r m)).po,.int (pq C l r:Nat)] st=.ok (.tup [bG l.po,bG r.po]) st:=by
 have:=G0 (plug C (.nd l r m)).gr0 (by rw[MT.po_len];exact h) (Aw C l r m) st
 rwa[show(List.drop (pq C l r-l.size-r.size) (plug C (.nd l r m)).po).take l.size=l.po from Ax C l r m,show(List.drop (pq C l r-r.size) (plug C (.nd l r m)).po).take r.size=r.po from Ay C l r m]at this
theorem yB(r:List Nat)(st:List ao):dG [fS r] st=.ok (.int r.length) st:=by
 have:dG [fS r] st=.ok (.int (r.map fun k=>W.int (k:Nat)).length) st:=BH
 rwa[aE]at this
theorem Dh(M:Mc)(C:List Fm)(l r:MT)(o:Nat):fr M C l r o=rA M C++(l.rT M++(r.rT M++([o]++rB M C o))):=by unfold fr;simp only[ak]
theorem G_(M:Mc)(C:List Fm)(l r:MT)(o:Nat):(fr M C l r o).take (pA C).length=rA M C:=by rw[Dh];exact kr (m5 M C)
theorem G'(M:Mc)(C:List Fm)(l r:MT)(o:Nat):(fr M C l r o).drop ((pA C).length+l.size)=r.rT M++([o]++rB M C o):=by
 rw[Dh,<- ak];exact gI (by rw[ah,m5,MT.rT_len])
theorem Ha(M:Mc)(C:List Fm)(l r:MT)(o:Nat):(fr M C l r o).take ((pA C).length+l.size)=rA M C++l.rT M:=by
 rw[Dh,<- ak];exact kr (by rw[ah,m5,MT.rT_len])
theorem Hb(M:Mc)(C:List Fm)(l r:MT)(o:Nat):(fr M C l r o).drop (pq C l r)=[o]++rB M C o:=by
 rw[Dh,<- ak,<- ak];exact gI (by rw[ah,ah,m5,MT.rT_len,MT.rT_len];rfl)
theorem Hc(M:Mc):∀(D:List Fm) (a b:Nat),(rB M D a).length=(rB M D b).length
 |[],a,b=>rfl
 |.lf y w::D,a,b=>by
  show(y.rT M++[_]++rB M D _).length=(y.rT M++[_]++rB M D _).length
  rw[ah,ah,ah,ah,Hc M D _ (sv M w b (y.tR M))];rfl
 |.rg y w::D,a,b=>by
  show([_]++rB M D _).length=([_]++rB M D _).length
  rw[ah,ah,Hc M D _ (sv M w (y.tR M) b)];rfl
theorem NL(M:Mc)(C:List Fm)(l r:MT)(o:Nat)(m:List Nat):(fr M C l r o).length=(plug C (.nd l r m)).size:=by
 rw[<- MT.rT_len M,pz M C (.nd l r m)]
 unfold fr
 simp only[ah,MT.rT_len,Hc M C o ((MT.nd l r m).tR M),MT.size_nd,b8]
def dW(C C':List Fm)(l r:MT)(m:List Nat)(l' r':MT)(m':List Nat)(s:W):W:=.tup [bG (plug C (.nd l r m)).po,.int (pq C l r:Nat),bG (plug C' (.nd l' r' m')).po,.int (pq C' l' r':Nat),s]
theorem Ee(hM:lK M n)(hn:1<=n)(C:List Fm)(l r l' r':MT)(m m':List Nat)(sd:Bool)(h1:(plug C (.nd l r m)).size<=900)(h2:(plug C (.nd l' r' m')).size<=900)(hl:sd=false->l'=l)(hr:sd=true->r'=r)(o:Nat)(st:List ao) :
  wZ [M.w,fS (fr M C l r o),dW C C l r m l' r' m' (tP sd)] st=.ok (.tup [fS (fr M C l' r' o),.int ((if sd then l'.size else r'.size:Nat))]) st:=by
 have z1:=fF C (.nd l r m) (by rw[MT.size_nd];omega)
 have z2:=fF C (.nd l' r' m') (by rw[MT.size_nd];omega)
 rw[MT.size_nd]at z1 z2
 have b1:=G9 C l r m h1 st
 have b2:=G9 C l' r' m' h2 st
 have n1:=gu l.po st
 have n2:=gu r.po st
 rw[MT.po_len]at n1 n2
 have hA:=m5 M C
 have hfl:=NL M C l r o m
 have i3:∀ρ:cI,ρ[2]?=some (some (dW C C l r m l' r' m' (tP sd)))->e2 bu (ag 2) (eI 4) ρ st=.ok (tP sd) st:=fun ρ h=>bA (jP h) bR ox
 have eS:iE (tP sd) (.str [108,101,102,116]) st=.ok (.bl sd) st:=by cases sd<;>exact dH rfl
 have a5:(pq C l r:Int)-(l.size:Nat)-(r.size:Nat)=((pA C).length:Nat):=by unfold pq;omega
 have d3:be 3 (cx 2 pS (ai (e2 bu (ag 2) (eI 0)) (ai (e2 bu (ag 2) (eI 1)) aD))) [some M.w,some (fS (fr M C l r o)),some (dW C C l r m l' r' m' (tP sd)),none,none,none,none,none] st=.nx [some M.w,some (fS (fr M C l r o)),some (dW C C l r m l' r' m' (tP sd)),some (.tup [bG l.po,bG r.po]),none,none,none,none] st:=
  bg (cz (aw kx (aw kx aX)) b1 rfl)
 refine fq ?_ (by simp[undWs,ur,W.und])
 apply aC
 ·exact d3
 apply aC
 ·exact bg (cz (aw kx (aw kx aX)) b2 rfl)
 apply aC
 ·refine bg (st1:=st) (w:=.int ((pA C).length:Nat)) ?_
  rw[<- a5]
  exact bA (bA kx (cu (aw kx aX) n1) rfl) (cu (aw kx aX) n2) rfl
 apply aC
 ·refine bg (st1:=st) (w:=.int ((pA C).length+l.size:Nat)) ?_
  rw[fH]
  exact bA kv (cu (aw kx aX) n1) et
 cases sd with
 |true=>
  obtain rfl:=hr rfl
  have rm:=rH hM hn l' (by omega) st
  have nl:=yB (l'.rT M) st
  rw[MT.rT_len]at nl
  apply eY
  ·exact aZ (bA (i3 _ rfl) bR eS)
  apply sB
  apply aC
  ·exact bg (cz (aw kv (aw kx aX)) rm rfl)
  apply d6
  ·refine fK (aw (bA (bA (mx kv sA (mw kv) (AA (by omega) st)) kv (rG _ _ ?_ st)) (mx kv (mw kv) sA (AB (by omega) st)) (rG _ _ ?_ st)) (aw (cu kn nl) aX)) (au rfl)
   ·simp only[ah,aL,MT.rT_len];omega
   ·simp only[ah,aL,cm,MT.rT_len];omega
  ·refine⟨_,_,rfl,?_,[],by simp⟩
   rw[G_,G']
   unfold fr
   simp only[ak];rfl
 |false=>
  obtain rfl:=hl rfl
  have rm:=rH hM hn r' (by omega) st
  have nl:=yB (r'.rT M) st
  rw[MT.rT_len]at nl
  apply bw
  ·exact aZ (bA (i3 _ rfl) bR eS)
  apply bJ
  apply aC
  ·exact bg (cz (aw kv (aw kx aX)) rm rfl)
  apply bN
  ·refine fK (aw (bA (bA (mx kv sA (mw kv) (AA (by omega) st)) kv (rG _ _ ?_ st)) (mx kv (mw kx) sA (AB (by unfold pq;omega) st)) (rG _ _ ?_ st)) (aw (cu kn nl) aX)) (au rfl)
   ·simp only[ah,aL,MT.rT_len];omega
   ·simp only[ah,aL,cm,MT.rT_len];omega
  ·refine⟨_,_,rfl,?_,[],by simp⟩
   rw[Ha,Hb]
   unfold fr
   simp only[ak];rfl
end
inductive Dd where
 |mk (C:List Fm) (l r:MT) (m:List Nat) (l' r':MT) (m':List Nat) (sd:Option Bool)
 |wh (t t':MT)
namespace Dd
def a:Dd->MT
 |mk C l r m _ _ _ _=>plug C (.nd l r m)
 |wh t _=>t
def b:Dd->MT
 |mk C _ _ _ l' r' m' _=>plug C (.nd l' r' m')
 |wh _ t'=>t'
def sW:Option Bool->W
 |none=>.non
 |some s=>tP s
def w:Dd->W
 |mk C l r m l' r' m' sd=>dW C C l r m l' r' m' (sW sd)
 |wh t t'=>.tup [bG t.po,.non,bG t'.po,.non,.non]
def tn:Dd->Dd
 |mk C l r m l' r' m' sd=>mk C l' r' m' l r m sd
 |wh t t'=>wh t' t
def ok:Dd->Prop
 |mk C l r m l' r' m' sd=>(plug C (.nd l r m)).size<=100/\(plug C (.nd l' r' m')).size<=100/\(sd≠some true->l'=l)/\(sd≠some false->r'=r)
 |wh t t'=>t.size<=100/\t'.size<=100
def bc:Option Bool->MT->MT->Nat
 |none,_,_=>0
 |some sd,l,r=>if sd then l.size else r.size
def ct(M:Mc):Dd->Nat
 |mk C l r m l' r' m' sd=>bc sd l' r'+JG M C (sv M m' (l'.tR M) (r'.tR M)) (sv M m (l.tR M) (r.tR M))
 |wh _ t'=>t'.size
theorem tn_a(d:Dd):d.tn.a=d.b:=by cases d<;>rfl
theorem tn_b(d:Dd):d.tn.b=d.a:=by cases d<;>rfl
theorem tn_ok{d:Dd}(h:d.ok):d.tn.ok:=by
 cases d with
 |mk C l r m l' r' m' sd=>exact⟨h.2.1,h.1,fun e=>(h.2.2.1 e).symm,fun e=>(h.2.2.2 e).symm⟩
 |wh t t'=>exact⟨h.2,h.1⟩
theorem ok_a{d:Dd}(h:d.ok):d.a.size<=100:=by
 cases d with
 |mk C l r m l' r' m' sd=>exact h.1
 |wh t t'=>exact h.1
theorem ok_b{d:Dd}(h:d.ok):d.b.size<=100:=by rw[<- tn_a];exact ok_a (tn_ok h)
end Dd
section
variable{c f m:Str}{fo fe fa:FE}{fs:FA}{ρ:cI}{z z1 z2 z3 st:List ao}{n k L:Nat}{fl TL:List (Str×W)}{y w:W}{ws:List W}{P:RS->Prop}{gn:FS}{F:List W->List ao->R W}
theorem oM(h1:fe ρ z=.ok y z1)(h2:fo ρ z1=.ok (.loc n) z2)(h3:z2[n]?=some (.obj c fl))(hl:fl.length<900):oo c f fo fe ρ z=.nx ρ (z2.set n (.obj c (v0 f y fl))):=by
 unfold oo
 rw[h1];simp only[R.stmt_ok];rw[h2];simp only[R.stmt_ok,ny,h3]
 rw[aJ ⟨trivial,hl⟩]
theorem dP(h:fa ρ z=.ok (.loc n) z1)(h3:z1[n]?=some (.obj c fl))(hk:fl.lookup f=some w):im c f fa ρ z=.ok w z1:=by
 unfold im
 rw[h];simp only[R.bind_ok,ny,h3,fX,hk,eG]
theorem hG(h:fo ρ z=.ok (.loc n) z1)(h3:z1[n]?=some (.obj c fl))(hm:fl.lookup m=none)(ha:fs ρ z1=.ok ws z2)(hn:ws.length+1=k)(hF:F (.loc n::ws) z2=.ok w z3):iF c m k F fo fs ρ z=.ok w z3:=by
 unfold iF
 rw[h];simp only[R.bind_ok,ny,h3]
 rw[aJ ⟨trivial,hm⟩,ha];simp only[R.bind_ok]
 rw[aJ hn,hF]
theorem NM(ha:fs ρ z=.ok ws z1)(hn:ws.length+1=k)(hF:F (.loc z1.length::ws) (z1++[.obj c []])=.ok .non z2):C4 c k F fs ρ z=.ok (.loc z1.length) z2:=by
 unfold C4
 rw[ha];simp only[R.bind_ok]
 rw[aJ hn,hF]
theorem mF{st bh:List ao}{ws:List W}(h:bh.length=st.length):g9 st bh ws=bh:=by
 unfold g9
 split
 ·rw[bz (by omega)]
 ·rfl
theorem vE{st bh:List ao}(ws:List W)(hL:L<st.length)(h:bh[L]?=some (.obj c fl))(hu:undWs st.length (fl.map fun p=>p.2)=false)(hz:st[L]?≠some (.obj c fl)):g9 st bh ws=bh:=by
 unfold g9
 rw[aV]
 rintro⟨_,_,k⟩
 rcases k L hL with e|⟨c,e,hc⟩
 ·rw[h]at e;exact hz e.symm
 ·rw[h]at e
  cases e
  have hc:undWs st.length (fl.map fun p=>p.2)=true:=hc
  rw[hu]at hc;cases hc
theorem jN{N:Nat}{body:FS}{ws:List W}{st bh:List ao}{ρ:cI}(h:body (ws.map some++List.replicate (N-ws.length) none) st=.nx ρ bh):cY N body ws st=.ok .non (g9 st bh []):=by
 unfold cY;rw[h]
end
section
variable{M:Mc}{n:Nat}{z:List ao}{L a b:Nat}
def kF(M:Mc)(t:MT)(k:Nat)(a b:Nat):List (Str×W):=[("machine",M.w),("tree",bG t.po),("rooms",fS (t.rT M)),("many",.int (k:Nat)),("standing",.loc a),("taken_back",.loc b)]
theorem vF(hM:lK M n)(hn:1<=n){d:Dd}(hd:d.ok){k:Nat}(hz:z[L]?=some (.obj "Kept" (kF M d.a k a b))):dh [.loc L,d.w] z=.ok .non (z.set L (.obj "Kept" (kF M d.b (d.ct M) a b))):=by
 suffices hh:∃ρ,jE ([.loc L,d.w].map some++List.replicate (4-2) none) z=.nx ρ (z.set L (.obj "Kept" (kF M d.b (d.ct M) a b))) by
  obtain⟨ρ,e⟩:=hh
  show cY 4 jE _ _=_
  rw[jN e,mF (by simp)]
 cases d with
 |wh t t'=>
  have hd2:t'.size<=100:=hd.2
  refine⟨[lO L,some (Dd.wh t t').w,none,none],?_⟩
  have e1:oo "Kept" "rooms" (ag 0) (cx 2 nG (ai (im "Kept" "machine" (ag 0)) (ai (e2 bu (ag 1) (eI 2)) aD))) [lO L,some (Dd.wh t t').w,none,none] z=.nx [lO L,some (Dd.wh t t').w,none,none] (z.set L (.obj "Kept" [("machine",M.w),("tree",bG t.po),("rooms",fS (t'.rT M)),("many",.int (k:Nat)),("standing",.loc a),("taken_back",.loc b)])):=
   oM (cz (aw (dP kv hz rfl) (aw kx aX)) (rH hM hn t' (by omega) z) rfl) kv hz (au rfl)
  have l1:=gu t'.po (z.set L (.obj "Kept" [("machine",M.w),("tree",bG t.po),("rooms",fS (t'.rT M)),("many",.int (k:Nat)),("standing",.loc a),("taken_back",.loc b)]))
  rw[MT.po_len]at l1
  refine cn (cQ (aZ (zF kx rfl)) (cn e1 (oM (cu (aw kx aX) l1) kv (dO hz) (au rfl)))) ?_
  rw[nr]
  rw[oM (f:="tree") kx kv (dO hz) (au rfl),nr]
  rfl
 |mk C l r m l' r' m' sd=>
  obtain⟨h1,h2,h3,h4⟩:=hd
  have z0:z[L]?=some (.obj "Kept" (kF M (plug C (.nd l r m)) k a b)):=hz
  have hrm:(plug C (.nd l r m)).rT M=fr M C l r (sv M m (l.tR M) (r.tR M)):=by rw[pz];rfl
  have ho:=vB hM m (l.tR_lt hM hn) (r.tR_lt hM hn)
  generalize hov:sv M m (l.tR M) (r.tR M)=o at *
  obtain⟨k1,hk1,e2⟩:∃k1,k1=Dd.bc sd l' r'/\fN (ef (gA (e2 bu (ag 1) (eI 4)))) (be 2 (cx 3 wZ (ai (im "Kept" "machine" (ag 0)) (ai (im "Kept" "rooms" (ag 0)) (ai (ag 1) aD))))) bT [lO L,some (Dd.mk C l r m l' r' m' sd).w,some (.tup [fS (fr M C l r o),.int 0]),none] z=.nx [lO L,some (Dd.mk C l r m l' r' m' sd).w,some (.tup [fS (fr M C l' r' o),.int (k1:Nat)]),none] z:=by
   cases sd with
   |none=>
    obtain rfl:=h3 (by decide)
    obtain rfl:=h4 (by decide)
    exact⟨_,rfl,cH (aZ (eT kx rfl)) eM⟩
   |some s=>
    have bo:=Ee hM hn C l r l' r' m m' s (by omega) (by omega) (fun e=>h3 (by rw[e];decide)) (fun e=>h4 (by rw[e];decide)) o z
    refine⟨_,rfl,cQ (aZ (eT kx (by cases s<;>rfl))) (bg (cz (aw (dP kv z0 rfl) (aw (dP kv z0 ?_) kn)) bo rfl))⟩
    show some (fS ((plug C (.nd l r m)).rT M))=_
    rw[hrm]
  have cl:=B_ hM hn (C:=C) (l:=l') (r:=r') (m:=m') (o:=o) rfl ho (by omega) z
  refine⟨[lO L,some (Dd.mk C l r m l' r' m' sd).w,some (.tup [fS (fr M C l' r' o),.int (k1:Nat)]),some (.tup [fS ((plug C (.nd l' r' m')).rT M),.int (JG M C (sv M m' (l'.tR M) (r'.tR M)) o:Nat)])],?_⟩
  refine cn (cH (aZ (zF kx rfl)) (cn (bg (w:=.tup [fS (fr M C l r o),.int 0]) (fK (aw (dP (w:=fS (fr M C l r o)) kv z0 ?_) (aw bR aX)) (au rfl))) (cn e2 (cn (bg (cz (aw (dP kv z0 rfl) (aw kx (aw kx (aw kx aX)))) cl rfl)) (cn (oM kx kv z0 (au rfl)) (oM (bA kx kx et) kv (dO z0) (au rfl))))))) ?_
  ·show some (fS ((plug C (.nd l r m)).rT M))=_
   rw[hrm]
  ·rw[nr]
   rw[oM (f:="tree") kx kv (dO z0) (au rfl),nr]
   have hct:(Dd.mk C l r m l' r' m' sd).ct M=k1+JG M C (sv M m' (l'.tR M) (r'.tR M)) o:=by rw[hk1,<- hov];rfl
   rw[hct]
   rfl
end
end P
namespace P
open PySem L2
structure n5(M:Mc)(L a b:Nat)(t:MT)(k:Nat)(sd tk:List Dd)(z:List ao):Prop where
 ob:z[L]?=some (.obj "Kept" (kF M t k a b))
 s:z[a]?=some (.lst (sd.reverse.map Dd.w))
 u:z[b]?=some (.lst (tk.reverse.map Dd.w))
 la:L≠a
 lb:L≠b
 ab:a≠b
 ls:sd.length<=1000
 lu:tk.length<=1000
def K3(L a b:Nat)(z z':List ao):Prop:=z.length<=z'.length/\∀i,i<z.length->i≠L->i≠a->i≠b->z'[i]?=z[i]?
section
variable{M:Mc}{n:Nat}{z:List ao}{L a b k:Nat}{t:MT}{sd tk:List Dd}{d:Dd}
theorem Hd(hM:lK M n)(hn:1<=n)(hd:d.ok)(hz:n5 M L a b d.a k sd tk z)(hs:sd.length<1000):∃z',dN [.loc L,d.w] z=.ok .non z'/\n5 M L a z.length d.b (d.ct M) (d::sd) [] z'/\K3 L a b z z':=by
 have c1:=vF hM hn hd hz.ob
 have lL:=fC hz.ob
 have lA:=fC hz.s
 have lB:=fC hz.u
 have g1:(z.set L (.obj "Kept" (kF M d.b (d.ct M) a b)))[a]?=some (.lst (sd.reverse.map Dd.w)):=by rw[bC hz.la];exact hz.s
 have g2:((z.set L (.obj "Kept" (kF M d.b (d.ct M) a b))).set a (.lst (sd.reverse.map Dd.w++[d.w])))[L]?=some (.obj "Kept" (kF M d.b (d.ct M) a b)):=by rw[bC (Ne.symm hz.la)];exact dO hz.ob
 have hl:((z.set L (.obj "Kept" (kF M d.b (d.ct M) a b))).set a (.lst (sd.reverse.map Dd.w++[d.w]))).length=z.length:=by simp
 have e:oI ([.loc L,d.w].map some++List.replicate (2-2) none) z=.nx [lO L,some d.w] ((((z.set L (.obj "Kept" (kF M d.b (d.ct M) a b))).set a (.lst (sd.reverse.map Dd.w++[d.w])))++[ao.lst []]).set L (.obj "Kept" (kF M d.b (d.ct M) a z.length))):=by
  refine cn (d9 (hG kv hz.ob rfl kn rfl c1)) (cn (d9 (hZ (dP kv (dO hz.ob) rfl) (df g1) kn (l_ g1 (by simp;omega)))) ?_)
  rw[oM (f:="taken_back") (nz aX (au rfl)) kv (c6 g2) (au rfl),hl]
  rfl
 have e2:=jN (N:=2) e
 generalize hz':(((z.set L (.obj "Kept" (kF M d.b (d.ct M) a b))).set a (.lst (sd.reverse.map Dd.w++[d.w])))++[ao.lst []]).set L (.obj "Kept" (kF M d.b (d.ct M) a z.length))=z' at *
 have oL:z'[L]?=some (.obj "Kept" (kF M d.b (d.ct M) a z.length)):=by rw[<- hz'];exact dO (c6 g2)
 have oA:z'[a]?=some (.lst ((d::sd).reverse.map Dd.w)):=by
  rw[<- hz',bC hz.la]
  refine c6 ?_
  rw[dO g1,bv,a8];rfl
 have oB:z'[z.length]?=some (.lst (([]:List Dd).reverse.map Dd.w)):=by
  rw[<- hz',bC (by omega),<- hl]
  exact dm
 rw[vE [] lL oL (by simp[kF,undWs,W.und]) (by rw[hz.ob];intro e;injection e with e;injection e with _ e;simp[kF]at e;omega)]at e2
 refine⟨z',e2,⟨oL,oA,oB,hz.la,by omega,by omega,by rw[bd];omega,by simp⟩,by rw[<- hz'];simp,fun i hi h1 h2 h3=>?_⟩
 rw[<- hz',bC (Ne.symm h1),aK (by simpa using hi),bC (Ne.symm h2),bC (Ne.symm h1)]
theorem ji{z z':List ao}{t':MT}{k':Nat}{Tw N4:List Dd}(ws:List W)(hz:n5 M L a b t k sd tk z)(h:n5 M L a z.length t' k' Tw N4 z'):g9 z z' ws=z':=
 vE ws (fC hz.ob) h.ob (by simp[kF,undWs,W.und]) (by
  have:=fC hz.u
  rw[hz.ob];intro e;injection e with e;injection e with _ e;simp[kF]at e;omega)
theorem yC(C:List Fm)(l r:MT)(m m':List Nat)(h:(plug C (.nd l r m)).size<=900)(st:List ao):z9 [bG (plug C (.nd l r m)).po,.int (pq C l r:Nat),.str m'] st=.ok (bG (plug C (.nd l r m')).po) st:=by
 have z1:=fF C (.nd l r m) (by rw[MT.size_nd];omega)
 rw[MT.size_nd]at z1
 have hl:=MT.po_len (plug C (.nd l r m))
 have hq:pq C l r+1<=(plug C (.nd l r m)).po.length:=by unfold pq;omega
 have e1:(plug C (.nd l r m)).po.take (pq C l r)=pA C++(l.po++r.po):=by
  rw[cW,show pA C++(MT.nd l r m).po++pB C=(pA C++(l.po++r.po))++(⟨l.one+2*r.one,m⟩::pB C) by show pA C++(l.po++r.po++[_])++pB C=_;simp only[ak];rfl]
  exact kr (by rw[ah,ah,MT.po_len,MT.po_len];unfold pq;omega)
 have e2:(plug C (.nd l r m)).po.drop (pq C l r+1)=pB C:=by
  rw[cW]
  exact gI (by rw[ah,MT.po_len,MT.size_nd];unfold pq;omega)
 have e3:(plug C (.nd l r m')).po=(pA C++(l.po++r.po))++[⟨l.one+2*r.one,m'⟩]++pB C:=by
  rw[cW];show pA C++(l.po++r.po++[_])++pB C=_;simp only[ak]
 have hs:(plug C (.nd l r m')).po.length=(plug C (.nd l r m)).po.length:=by rw[cW,cW];simp only[ah,MT.po_len,MT.size_nd]
 rw[e3]at hs
 have s1:=vy (a:=(plug C (.nd l r m)).po) (q:=pq C l r) (by omega) st
 have s2:=vz (a:=(plug C (.nd l r m)).po) (q:=pq C l r+1) (by omega) st
 rw[e1]at s1
 rw[e2]at s2
 rw[ah]at hs
 refine fq ?_ (by simp only[undWs,kT,dA])
 apply bN
 ·exact bA (bA (mx kv sA (mw kv) s1) (fK (aw (fK (aw (bA (bA kv kv (rD (m6 C l r m) st)) bR (Nz _ st)) kn) (au rfl)) aX) (au rfl)) (jh _ [⟨l.one+2*r.one,m'⟩] (by omega) st)) (mx kv (mw (bA kv bR et)) sA s2) (jh _ _ (by rw[ah];omega) st)
 ·exact⟨_,_,rfl,by rw[e3],[],by simp⟩
theorem Di(hM:lK M n)(hn:1<=n){C:List Fm}{l r:MT}{m m':List Nat}(hd:(Dd.mk C l r m l r m' none).ok)(hz:n5 M L a b (plug C (.nd l r m)) k sd tk z)(hs:sd.length<1000):∃z',eu [.loc L,.int (pq C l r:Nat),.str m'] z=.ok .non z'/\n5 M L a z.length (plug C (.nd l r m')) ((Dd.mk C l r m l r m' none).ct M) (Dd.mk C l r m l r m' none::sd) [] z'/\K3 L a b z z':=by
 obtain⟨z',e,h,h3⟩:=Hd hM hn (d:=Dd.mk C l r m l r m' none) hd hz hs
 refine⟨z',?_,h,h3⟩
 rw[<- ji [] hz h]
 refine jN (N:=3) (ρ:=[lO L,iO (pq C l r:Nat),some (.str m')]) (d9 (hG kv hz.ob rfl (aw (fK (aw (dP kv hz.ob rfl) (aw kv (aw (cz (aw (dP kv hz.ob rfl) (aw kv kn)) (yC C l r m m' (by have:=hd.1;omega) z) rfl) (aw kv (aw bR aX))))) (au rfl)) aX) rfl e))
def pD(m:List Nat):Prop:=m.Pairwise (· < ·)/\∀c∈m,c∈LL
theorem B'(hM:lK M n)(hn:1<=n){C:List Fm}{l r:MT}{m:List Nat}{c:Nat}(h1:(plug C (.nd l r m)).size<=100)(h2:(plug C (.nd l r (gj (m++[c])))).size<=100)(hm:∀d∈m,d∈LL)(Te:m.length<=60)(hc:c∈LL)(hz:n5 M L a b (plug C (.nd l r m)) k sd tk z)(hs:sd.length<1000) :
  ∃z',jF [.loc L,.int (pq C l r:Nat),.str [c]] z=.ok .non z'/\n5 M L a z.length (plug C (.nd l r (gj (m++[c])))) ((Dd.mk C l r m l r (gj (m++[c])) none).ct M) (Dd.mk C l r m l r (gj (m++[c])) none::sd) [] z'/\K3 L a b z z':=by
 obtain⟨z',e,h,h3⟩:=Di hM hn (C:=C) (l:=l) (r:=r) (m:=m) (m':=gj (m++[c])) ⟨h1,h2,fun _=>rfl,fun _=>rfl⟩ hz hs
 refine⟨z',?_,h,h3⟩
 have z1:=fF C (.nd l r m) (by rw[MT.size_nd];omega)
 rw[MT.size_nd]at z1
 have hl:=MT.po_len (plug C (.nd l r m))
 have hml2:m.length<=mL:=by show _<=1000000;omega
 have hcp:=vA (ps:=(plug C (.nd l r m)).po) (q:=pq C l r) (by unfold pq;omega) z
 have io:=GV (l:=m++[c]) (by rw[ah,b8];omega) (fun d hd=>by
  rcases aU.mp hd with hd|hd
  ·exact hm d hd
  ·rw[aY.mp hd];exact hc) z
 rw[<- ji [] hz h]
 refine jN (N:=3) (ρ:=[lO L,iO (pq C l r:Nat),some (.str [c])]) (cn (d9 (cz (aw (dP kv hz.ob rfl) kn) hcp rfl)) (d9 (hG kv hz.ob rfl (aw kv (aw (cz (aw (bA (bA (bA (dP kv hz.ob rfl) kv (rD (m6 C l r m) z)) bR (BW _ z)) kv (BG (by show _<=1000000;simp;omega))) aX) io rfl) aX)) rfl e)))
theorem AC(hM:lK M n)(hn:1<=n){C:List Fm}{l r:MT}{m:List Nat}{c:Nat}(h1:(plug C (.nd l r m)).size<=100)(h2:(plug C (.nd l r (m.filter fun d=>d != c))).size<=100)(Te:m.length<=60)(hz:n5 M L a b (plug C (.nd l r m)) k sd tk z)(hs:sd.length<1000) :
  ∃z',iY [.loc L,.int (pq C l r:Nat),.str [c]] z=.ok .non z'/\n5 M L a z.length (plug C (.nd l r (m.filter fun d=>d != c))) ((Dd.mk C l r m l r (m.filter fun d=>d != c) none).ct M) (Dd.mk C l r m l r (m.filter fun d=>d != c) none::sd) [] z'/\K3 L a b z z':=by
 obtain⟨z',e,h,h3⟩:=Di hM hn (C:=C) (l:=l) (r:=r) (m:=m) (m':=m.filter fun d=>d != c) ⟨h1,h2,fun _=>rfl,fun _=>rfl⟩ hz hs
 refine⟨z',?_,h,h3⟩
 have z1:=fF C (.nd l r m) (by rw[MT.size_nd];omega)
 rw[MT.size_nd]at z1
 have hl:=MT.po_len (plug C (.nd l r m))
 have hml2:m.length<=mL:=by show _<=1000000;omega
 have hcp:=vA (ps:=(plug C (.nd l r m)).po) (q:=pq C l r) (by unfold pq;omega) z
 rw[<- ji [] hz h]
 refine jN (N:=3) (ρ:=[lO L,iO (pq C l r:Nat),some (.str [c])]) (cn (d9 (cz (aw (dP kv hz.ob rfl) kn) hcp rfl)) (d9 (hG kv hz.ob rfl (aw kv (aw (MH (bA (bA (dP kv hz.ob rfl) kv (rD (m6 C l r m) z)) bR (BW _ z)) kv hml2) aX)) rfl e)))
theorem Ef(hM:lK M n)(hn:1<=n){C:List Fm}{l r x:MT}{m:List Nat}{s:Bool}(h1:(plug C (.nd l r m)).size<=100)(hx:x.size<=100)(h2:(plug C (.nd (if s then x else l) (if s then r else x) m)).size<=100)(hz:n5 M L a b (plug C (.nd l r m)) k sd tk z)(hs:sd.length<1000) :
  ∃z',gK [.loc L,.int (pq C l r:Nat),tP s,bG x.po] z=.ok .non z'/\n5 M L a z.length (plug C (.nd (if s then x else l) (if s then r else x) m)) ((Dd.mk C l r m (if s then x else l) (if s then r else x) m (some s)).ct M) (Dd.mk C l r m (if s then x else l) (if s then r else x) m (some s)::sd) [] z'/\K3 L a b z z':=by
 obtain⟨z',e,h,h3⟩:=Hd hM hn (d:=Dd.mk C l r m (if s then x else l) (if s then r else x) m (some s)) ⟨h1,h2,fun e=>by cases s<;>first|rfl|exact absurd rfl e,fun e=>by cases s<;>first|rfl|exact absurd rfl e⟩ hz hs
 refine⟨z',?_,h,h3⟩
 have z1:=fF C (.nd l r m) (by rw[MT.size_nd];omega)
 have z2:=fF C (.nd (if s then x else l) (if s then r else x) m) (by rw[MT.size_nd];omega)
 rw[MT.size_nd]at z1 z2
 have hl:=MT.po_len (plug C (.nd l r m))
 have hl2:=MT.po_len (plug C (.nd (if s then x else l) (if s then r else x) m))
 have hxl:=MT.po_len x
 have pb:=NI (oth:=x.po) (plug C (.nd l r m)).gr0 (by omega) (by omega) (Aw C l r m) s z (by rw[Az];omega)
 rw[Az]at pb
 have n1:=gu (plug C (.nd (if s then x else l) (if s then r else x) m)).po z
 have n2:=gu (plug C (.nd l r m)).po z
 have hq:(pq C l r:Int)+((plug C (.nd (if s then x else l) (if s then r else x) m)).po.length:Nat)-((plug C (.nd l r m)).po.length:Nat)=(pq C (if s then x else l) (if s then r else x):Nat):=by
  rw[cW,cW]
  simp only[ah,MT.po_len,MT.size_nd]
  unfold pq
  omega
 rw[<- ji [] hz h]
 refine jN (N:=5) (ρ:=[lO L,iO (pq C l r:Nat),some (tP s),some (bG x.po),some (bG (plug C (.nd (if s then x else l) (if s then r else x) m)).po)]) (cn (bg (cz (aw (dP kv hz.ob rfl) (aw kv (aw kv kn))) pb rfl)) (d9 (hG (ws:=[(Dd.mk C l r m (if s then x else l) (if s then r else x) m (some s)).w]) kv hz.ob rfl (aw ?_ aX) rfl e)))
 show _=R.ok (W.tup [bG (plug C (.nd l r m)).po,.int (pq C l r:Nat),bG (plug C (.nd (if s then x else l) (if s then r else x) m)).po,.int (pq C (if s then x else l) (if s then r else x):Nat),tP s]) z
 rw[<- hq]
 exact fK (aw (dP kv hz.ob rfl) (aw kv (aw kv (aw (bA (bA kv (cu kn n1) et) (cu (aw (dP kv hz.ob rfl) aX) n2) rfl) kn)))) (au rfl)
theorem He(hM:lK M n)(hn:1<=n){t x:MT}(h1:t.size<=100)(hx:x.size<=100)(hz:n5 M L a b t k sd tk z)(hs:sd.length<1000) :
  ∃z',ia [.loc L,bG x.po] z=.ok .non z'/\n5 M L a z.length x x.size (Dd.wh t x::sd) [] z'/\K3 L a b z z':=by
 obtain⟨z',e,h,h3⟩:=Hd hM hn (d:=Dd.wh t x) ⟨h1,hx⟩ hz hs
 refine⟨z',?_,h,h3⟩
 rw[<- ji [] hz h]
 exact jN (N:=2) (ρ:=[lO L,some (bG x.po)]) (d9 (hG kv hz.ob rfl (aw (fK (aw (dP kv hz.ob rfl) (aw bR (aw kv (aw bR (aw bR aX))))) (au rfl)) aX) rfl e))
end
section
variable{M:Mc}{n:Nat}{z:List ao}{L a b k:Nat}{t:MT}{sd tk:List Dd}{d:Dd}
theorem Eg(d:Dd)(st:List ao):zZ [d.w] st=.ok d.tn.w st:=by
 cases d with
 |mk C l r m l' r' m' s=>
  apply eK
  apply bN
  ·exact fK (aw kx (aw kx (aw kx (aw kx (aw kx aX))))) (au rfl)
  ·exact⟨_,_,rfl,rfl,rfl⟩
 |wh t t'=>
  apply eK
  apply bN
  ·exact fK (aw kx (aw kx (aw kx (aw kx (aw kx aX))))) (au rfl)
  ·exact⟨_,_,rfl,rfl,rfl⟩
theorem JI(hM:lK M n)(hn:1<=n)(hd:d.ok)(hz:n5 M L a b d.b k (d::sd) tk z)(hs:tk.length<1000):∃z',iZ [.loc L] z=.ok .non z'/\n5 M L a b d.a (d.tn.ct M) sd (d::tk) z'/\K3 L a b z z'/\z'.length=z.length:=by
 have hsr:z[a]?=some (.lst (sd.reverse.map Dd.w++[d.w])):=by rw[hz.s,bv,a8];rfl
 have oL:(z.set a (.lst (sd.reverse.map Dd.w)))[L]?=some (.obj "Kept" (kF M d.tn.a k a b)):=by rw[bC (Ne.symm hz.la),Dd.tn_a];exact hz.ob
 have c1:=vF hM hn (Dd.tn_ok hd) oL
 rw[Dd.tn_b]at c1
 have oB:((z.set a (.lst (sd.reverse.map Dd.w))).set L (.obj "Kept" (kF M d.a (d.tn.ct M) a b)))[b]?=some (.lst (tk.reverse.map Dd.w)):=by rw[bC hz.lb,bC hz.ab];exact hz.u
 have e:tM ([.loc L].map some++List.replicate (2-1) none) z=.nx [lO L,some d.w] (((z.set a (.lst (sd.reverse.map Dd.w))).set L (.obj "Kept" (kF M d.a (d.tn.ct M) a b))).set b (.lst (tk.reverse.map Dd.w++[d.w]))):=
  cn (cH (aZ (bA (cu (aw (dP kv hz.ob rfl) aX) (l6 (b_ hsr))) bR (fm (by simp;omega)))) eM)
   (cn (bg (hZ (dP kv hz.ob rfl) (df hsr) aX (vb hsr))) (cn (d9 (hG kv oL rfl (aw (cz kn (Eg d _) rfl) aX) rfl c1))
    (d9 (hZ (dP kv (dO oL) rfl) (df oB) kn (l_ oB (by simp;omega))))))
 have e2:=jN (N:=2) e
 rw[mF (by simp)]at e2
 refine⟨_,e2,⟨?_,?_,?_,hz.la,hz.lb,hz.ab,by have:=hz.ls;rw[bd]at this;omega,by rw[bd];omega⟩,⟨by simp,fun i hi h1 h2 h3=>?_⟩,by simp⟩
 ·rw[bC (Ne.symm hz.lb)];exact dO oL
 ·rw[bC (Ne.symm hz.ab),bC hz.la];exact dO hsr
 ·rw[dO oB,bv,a8];rfl
 ·rw[bC (Ne.symm h3),bC (Ne.symm h1),bC (Ne.symm h2)]
theorem Hf(hM:lK M n)(hn:1<=n)(hd:d.ok)(hz:n5 M L a b d.a k sd (d::tk) z)(hs:sd.length<1000):∃z',ib [.loc L] z=.ok .non z'/\n5 M L a b d.b (d.ct M) (d::sd) tk z'/\K3 L a b z z'/\z'.length=z.length:=by
 have hsr:z[b]?=some (.lst (tk.reverse.map Dd.w++[d.w])):=by rw[hz.u,bv,a8];rfl
 have oL:(z.set b (.lst (tk.reverse.map Dd.w)))[L]?=some (.obj "Kept" (kF M d.a k a b)):=by rw[bC (Ne.symm hz.lb)];exact hz.ob
 have c1:=vF hM hn hd oL
 have oA:((z.set b (.lst (tk.reverse.map Dd.w))).set L (.obj "Kept" (kF M d.b (d.ct M) a b)))[a]?=some (.lst (sd.reverse.map Dd.w)):=by rw[bC hz.la,bC (Ne.symm hz.ab)];exact hz.s
 have e:rk ([.loc L].map some++List.replicate (2-1) none) z=.nx [lO L,some d.w] (((z.set b (.lst (tk.reverse.map Dd.w))).set L (.obj "Kept" (kF M d.b (d.ct M) a b))).set a (.lst (sd.reverse.map Dd.w++[d.w]))):=
  cn (cH (aZ (bA (cu (aw (dP kv hz.ob rfl) aX) (l6 (b_ hsr))) bR (fm (by simp;omega)))) eM)
   (cn (bg (hZ (dP kv hz.ob rfl) (df hsr) aX (vb hsr))) (cn (d9 (hG kv oL rfl kn rfl c1))
    (d9 (hZ (dP kv (dO oL) rfl) (df oA) kn (l_ oA (by simp;omega))))))
 have e2:=jN (N:=2) e
 rw[mF (by simp)]at e2
 refine⟨_,e2,⟨?_,?_,?_,hz.la,hz.lb,hz.ab,by rw[bd];omega,by have:=hz.lu;rw[bd]at this;omega⟩,⟨by simp,fun i hi h1 h2 h3=>?_⟩,by simp⟩
 ·rw[bC (Ne.symm hz.la)];exact dO oL
 ·rw[dO oA,bv,a8];rfl
 ·rw[bC hz.ab,bC hz.lb];exact dO hsr
 ·rw[bC (Ne.symm h2),bC (Ne.symm h1),bC (Ne.symm h3)]
theorem n5.app{x:List ao}(h:n5 M L a b t k sd tk z):n5 M L a b t k sd tk (z++x):=⟨c6 h.ob,c6 h.s,c6 h.u,h.la,h.lb,h.ab,h.ls,h.lu⟩
theorem JJ(hM:lK M n)(hn:1<=n)(ht:t.size<=900)(z:List ao):∃z',gE [.loc z.length,M.w,bG t.po] (z++[.obj "Kept" []])=.ok .non z'/\n5 M z.length (z.length+1) (z.length+2) t t.size [] [] z'/\z <+: z':=by
 have rm:=rH hM hn t ht
 have ln:=gu t.po
 rw[MT.po_len]at ln
 have sx:∀(c:ao) (y:List ao),(z++c::y)[z.length]?=some c:=fun c y=>by rw[dM];rfl
 have ss:∀(c d:ao) (y:List ao),(z++c::y).set z.length d=z++d::y:=fun c d y=>by rw[fE];rfl
 have e:nH ([.loc z.length,M.w,bG t.po].map some++List.replicate (3-3) none) (z++[.obj "Kept" []])=.nx [lO z.length,some M.w,some (bG t.po)] (z++[.obj "Kept" (kF M t t.size (z.length+1) (z.length+2)),.lst [],.lst []]):=by
  have F:∀{f:Str} {fe:FE} {ρ:cI} {fl:List (Str×W)} {y:List ao} {w:W} {y':List ao},ρ[0]?=some (lO z.length)->fl.length<900->fe ρ (z++.obj "Kept" fl::y)=.ok w (z++.obj "Kept" fl::y')->oo "Kept" f (ag 0) fe ρ (z++.obj "Kept" fl::y)=.nx ρ (z++.obj "Kept" (v0 f w fl)::y'):=fun h hl h1=>by
   rw[oM h1 (jP h) (sx _ _) hl,ss]
  refine cn (F rfl (au rfl) kv) (cn (F rfl (au rfl) kv) (cn (F rfl (au rfl) (cz (aw kv kn) (rm _) rfl)) (cn (F rfl (au rfl) (cu kn (ln _))) (cn (F (w:=.loc (z.length+1)) (y':=[.lst []]) rfl (au rfl) ?_) ?_))))
  ·rw[nz aX (au rfl),ak];simp
  ·rw[F (w:=.loc (z.length+2)) (y':=[.lst [],.lst []]) rfl (au rfl) (by rw[nz aX (au rfl),ak];simp)]
   rfl
 have e2:=jN (N:=3) e
 have oL:(z++[.obj "Kept" (kF M t t.size (z.length+1) (z.length+2)),.lst [],.lst []])[z.length]?=some (.obj "Kept" (kF M t t.size (z.length+1) (z.length+2))):=sx _ _
 rw[vE (L:=z.length) [] (by simp) oL (by simp[kF,undWs,W.und]) (by rw[sx];intro e;injection e with e;injection e with _ e;simp[kF]at e)]at e2
 exact⟨_,e2,⟨oL,by rw[iH];rfl,by rw[iH];rfl,by omega,by omega,by omega,by simp,by simp⟩,a9 _ _⟩
theorem AD(hz:n5 M L a b t k sd tk z):f7 [.loc L] z=.ok (fS (t.rT M)) z:=by
 apply eK
 apply bN
 ·exact dP kv hz.ob rfl
 ·exact⟨_,_,rfl,rfl,rfl⟩
theorem Ca(hz:n5 M L a b t k sd tk z):gF [.loc L] z=.ok (bG t.po) z:=by
 apply eK
 apply bN
 ·exact dP kv hz.ob rfl
 ·exact⟨_,_,rfl,rfl,rfl⟩
theorem Cb(hM:lK M n)(hn:1<=n)(hz:n5 M L a b t k sd tk z):gG [.loc L] z=.ok (.bl (M.gd.getD (t.tR M) false)) z:=by
 have g1:bu M.w (.int 1) z=.ok (.tup (M.gd.map W.bl)) z:=rfl
 have nl:=yB (t.rT M) z
 rw[MT.rT_len]at nl
 have gi:=GU hM (t.tR_lt hM hn) z
 apply eK
 apply bN
 ·by_cases h:0<t.size
  ·have lx:bu (fS (t.rT M)) (.int (-1)) z=.ok (.int (t.tR M:Nat)) z:=by
    refine lH (q:=-(((0:Nat):Int)+1)) (xX ?_)
    have:=MT.rT_top M t h
    rw[gP (by rw[aE,MT.rT_len];exact h),aE,MT.rT_len,aG,show t.size-1-0=t.size-1 from rfl,jQ 0 (by rw[MT.rT_len];omega),this];rfl
   exact bA (bA (dP kv hz.ob rfl) bR g1) (qS (aZ (bA (cu (aw (dP kv hz.ob rfl) aX) nl) bR (lG (by simp;omega)))) (bA (dP kv hz.ob rfl) (zE bR) lx)) gi
  ·have h0:t.tR M=0:=by
    cases t with
    |nil=>rfl
    |nd l r m=>rw[MT.size_nd]at h;omega
   rw[h0]at gi
   rw[h0]
   exact bA (bA (dP kv hz.ob rfl) bR g1) (qT (aZ (bA (cu (aw (dP kv hz.ob rfl) aX) nl) bR (lG (by simp;omega)))) bR) gi
 ·exact⟨_,_,rfl,rfl,rfl⟩
theorem JK(M:Mc)(t:MT):JB M t.po (t.lkT 0)=M.gd.getD (t.tR M) false:=by
 unfold JB As
 rw[MT.rooms_po,MT.po_len]
 by_cases h:0<t.size
 ·rw[aJ h,MT.rT_top M t h]
 ·rw[aV h]
  cases t with
  |nil=>rfl
  |nd l r m=>rw[MT.size_nd]at h;omega
theorem Qy(t:MT)(h:t.size<=1000):Sm (bG t.po):=fun st=>vx (k:=39) (by rw[aE,MT.po_len];exact h) fun w hw=>by
 obtain⟨p,_,rfl⟩:=cS.mp hw
 refine vx (k:=38) (by simp) fun w hw=>?_
 simp only[aS,gb,oU]at hw
 rcases hw with rfl|rfl
 ·exact Aq _ 37 _
 ·exact GS _ 37 _
theorem xg(hM:lK M n)(hn:1<=n)(ht:t.size<=900)(hz:n5 M L a b t k sd tk z)(q:Int):tO [.loc L,M.w,bG t.po,.int q] z=.ok (.bl true) z:=by
 refine fq ?_ rfl
 refine fU (fun i ρ bh=>∃(o4 o5:Option W) (x:List ao),ρ=[lO L,some M.w,some (bG t.po),iO q,o4,o5]/\bh=z++x) (jg (aw bR aX) (by decide))
  ⟨none,none,[],rfl,(bf _).symm⟩ (fun _ _ _ _=>trivial) ?_ ?_
 ·rintro i w ρ bh hw ⟨o4,o5,x,rfl,rfl⟩
  obtain⟨hi,rfl⟩:=jA hw
  obtain⟨j,hj,ej⟩:=h_ (q:=q+(0+(i:Int))) (n:=3) (by omega)
  have ej:(q+(0+(i:Int)))%3=(j:Int):=ej
  refine⟨_,rfl,?_⟩
  apply aC
  ·exact bg (w:=.int (j:Nat)) (by rw[<- ej];exact bA (bA kv kv et) bR (i9 (by decide)))
  have hzx:=hz.app (x:=x)
  have no:∀(v:Nat) (gn:FT) (s:List ao),v≠j->HW (ef (e2 iE (ag 5) (eC (.int (v:Nat))))) gn [lO L,some M.w,some (bG t.po),iO q,some (.int (0+(i:Int))),iO (j:Nat)] s=.ok false s:=fun v gn s h=>xS (aZ (bA kv bR (fm (by rw[bj];omega))))
  have rl:=MT.rT_len M t
  obtain rfl|rfl|rfl:j=0\/j=1\/j=2:=by omega
  ·obtain⟨y,ey,hy⟩:=Dg t.gr0 (by rw[MT.po_len];exact ht) hM hn (z++x)
   rw[MT.rooms_po]at hy
   apply bw
   ·exact qR (aZ (bA kv bR (fm rfl))) (va (aZ (cz (aw (hG kv hzx.ob rfl aX rfl (AD hzx)) (aw (cu (aw (cz (aw kv kn) ey rfl) aX) (mS (b_ (by rw[iH];exact hy)))) aX)) (ND (t.rT M) (by omega) _) rfl)) rfl)
   apply bJ
   apply bw
   ·exact no 1 _ _ (by decide)
   apply bJ
   apply lI
   ·exact no 2 _ _ (by decide)
   ·exact⟨_,_,rfl,_,_,x++y,rfl,(ak _ _ _)⟩
  ·have le:=G3 t.gr0 (by rw[MT.po_len];exact ht) hM hn (z++x)
   rw[JK]at le
   apply bw
   ·exact no 0 _ _ (by decide)
   apply bJ
   apply bw
   ·exact qR (aZ (bA kv bR (fm rfl))) (va (aZ (cz (aw (hG kv hzx.ob rfl aX rfl (Cb hM hn hzx)) (aw (cz (aw kv kn) le rfl) aX)) (Qs _ _) rfl)) rfl)
   apply bJ
   apply lI
   ·exact no 2 _ _ (by decide)
   ·exact⟨_,_,rfl,_,_,x,rfl,rfl⟩
  ·apply bw
   ·exact no 0 _ _ (by decide)
   apply bJ
   apply bw
   ·exact no 1 _ _ (by decide)
   apply bJ
   apply lI
   ·exact qR (aZ (bA kv bR (fm rfl))) (va (aZ (cz (aw (hG kv hzx.ob rfl aX rfl (Ca hzx)) kn) (Qy t (by omega) _) rfl)) rfl)
   ·exact⟨_,_,rfl,_,_,x,rfl,rfl⟩
 ·rintro ρ bh ⟨o4,o5,x,rfl,rfl⟩
  apply bN
  ·exact bR
  ·exact⟨_,_,rfl,rfl,x,rfl⟩
end
def HY(sz:List Nat):Option Nat->Nat
 |none=>0
 |some j=>sz.getD j 0
section
variable{ps:List Pl}{S sz:List Nat}{lk:List (Option Nat×Option Nat)}
theorem Gr.szl(h:Gr ps S sz lk){i:Nat}(hi:i<ps.length):∃x,lk[i]?=some x/\GO i x/\sz[i]?=some (1+HY (sz.take i) x.1+HY (sz.take i) x.2):=by
 obtain⟨S1,S2,p,k,x,g1,q1,q2,q3,hs,g2⟩:=h.step i hi
 obtain⟨lz,ll,ha⟩:=g1.ok
 rw[show(ps.take i).length=i by rw[aL];omega]at ha
 refine⟨x,q3,h.lk q3,?_⟩
 rw[q2]
 congr 1
 have g:∀{j a:Nat},(sz.take i)[j]?=some a->HY (sz.take i) (some j)=a:=fun e=>by show List.getD _ _ _=_;rw[aF,e];rfl
 obtain⟨b,m⟩:=p
 cases hs with
 |z=>rfl
 |l=>rw[g ha.1];rfl
 |r=>rw[g ha.1];show _=1+0+_;omega
 |b=>
  have:=ha.2.2.2.1
  rw[g ha.1,show ∀c,i-1-c=i-c-1 by omega,g this];omega
theorem Eh(h:Gr ps S sz lk)(hn:ps.length<=900){p:Nat}{st:List ao}(hp:st[p]?=some (.lst (lk.map iQ))):Ah [.loc p] st=.ok (.loc st.length) (st++[.lst (cM sz)]):=by
 obtain⟨l1,l2,_⟩:=h.ok
 have hh:kI (zH fun w bh=>∃j x,w=.loc (st.length+j)/\bh=st++x/\j=0/\x=[.lst (cM sz)]) (KZ ([W.loc p].map some++List.replicate (5-1) none) st):=by
  apply aC
  ·exact bg (nz aX (au rfl))
  refine fU (fun i ρ bh=>∃(o2 o3 o4:Option W),ρ=[lO p,lO st.length,o2,o3,o4]/\bh=st++[.lst (cM (sz.take i))]) (xW kv (b_ (c6 hp))) ⟨none,none,none,rfl,rfl⟩ (fun i ρ bh hI=>?_) ?_ ?_
  ·obtain⟨o2,o3,o4,rfl,rfl⟩:=hI
   exact b_ (c6 hp)
  ·rintro i w ρ bh hw ⟨o2,o3,o4,rfl,rfl⟩
   have hw:(lk.map iQ)[i]?=some w:=hw
   obtain⟨x0,hx0,rfl⟩:=by rw[aG]at hw;exact eV.mp hw
   have hil:i<lk.length:=(ar.mp hx0).1
   obtain⟨x,hx,lkx,hz⟩:=h.szl (show i<ps.length by omega)
   rw[hx0]at hx;cases hx
   have ht:(sz.take i).length=i:=by rw[aL];omega
   have get:∀k:Nat,k<i->bu (.loc st.length) (.int k) (st++[.lst (cM (sz.take i))])=.ok (.int ((sz.take i).getD k 0:Nat)) (st++[.lst (cM (sz.take i))]):=fun k hk=>xc [] (jQ 0 (by omega))
   have ap:=GX (st:=st) (z:=sz.take i) (1+HY (sz.take i) x0.1+HY (sz.take i) x0.2) (by omega)
   rw[<- S8 hz]at ap
   have isl:kP (st++[.lst (cM (sz.take i))]) (.loc st.length)=true:=df dm
   refine⟨[lO p,lO st.length,some (oW x0.1),some (oW x0.2),o4],rfl,?_⟩
   apply aC
   ·exact bg bR
   have e1:fN (ef (gA (ag 2))) (be 4 (e2 cK (ag 4) (e2 bu (ag 1) (ag 2)))) bT [lO p,lO st.length,some (oW x0.1),some (oW x0.2),iO 1] (st++[.lst (cM (sz.take i))])=.nx [lO p,lO st.length,some (oW x0.1),some (oW x0.2),iO (1+HY (sz.take i) x0.1:Nat)] (st++[.lst (cM (sz.take i))]):=by
    obtain⟨a,b⟩:=x0
    cases a with
    |none=>exact cH (aZ (eT kv rfl)) rfl
    |some j=>rw[fH];exact cQ (aZ (eT kv rfl)) (bg (bA kv (bA kv kv (get j (lkx.1 j rfl))) et))
   apply aC
   ·exact e1
   have e2:fN (ef (gA (ag 3))) (be 4 (e2 cK (ag 4) (e2 bu (ag 1) (ag 3)))) bT [lO p,lO st.length,some (oW x0.1),some (oW x0.2),iO (1+HY (sz.take i) x0.1:Nat)] (st++[.lst (cM (sz.take i))])=.nx [lO p,lO st.length,some (oW x0.1),some (oW x0.2),iO (1+HY (sz.take i) x0.1+HY (sz.take i) x0.2:Nat)] (st++[.lst (cM (sz.take i))]):=by
    obtain⟨a,b⟩:=x0
    cases b with
    |none=>exact cH (aZ (eT kv rfl)) rfl
    |some j=>rw[fH _ (HY _ _)];exact cQ (aZ (eT kv rfl)) (bg (bA kv (bA kv kv (get j (lkx.2 j rfl))) et))
   apply aC
   ·exact e2
   apply dg
   ·exact d9 (hZ kv isl kn ap)
   ·exact⟨_,_,rfl,_,_,_,rfl,rfl⟩
  ·rintro ρ bh ⟨o2,o3,o4,rfl,rfl⟩
   apply bN
   ·exact jP rfl
   ·refine⟨_,_,rfl,0,_,rfl,rfl,rfl,?_⟩
    rw[show((lk.map iQ,some (p,lk.map iQ)):List W×Option (Nat×List W)).1.length=sz.length by show(lk.map iQ).length=_;rw[aE];omega,bz (az _)]
 obtain⟨j,x,⟨rfl,rfl⟩,e⟩:=um hh
 exact e
end
theorem MT.sz_top:∀t:MT,0<t.size->t.szT[t.size-1]?=some t.size
 |.nil,h=>absurd h (by decide)
 |.nd l r m,_=>by
  rw[MT.size_nd]
  show(l.szT++r.szT++[_])[_]?=_
  rw[aW (by rw[ah,MT.sz_len,MT.sz_len];omega),ah,MT.sz_len,MT.sz_len,show l.size+r.size+1-1-(l.size+r.size)=0 by omega];rfl
section
variable{st:List ao}
theorem NN{C:List Fm}{l r:MT}{m:List Nat}:(0<l.size->(plug C (.nd l r m)).szT[(pA C).length+l.size-1]?=some l.size)/\(0<r.size->(plug C (.nd l r m)).szT[(pA C).length+l.size+r.size-1]?=some r.size):=by
 obtain⟨u,w,e,hu⟩:=uu C (.nd l r m)
 have e2:(plug C (.nd l r m)).szT=u++(l.szT++(r.szT++([l.size+r.size+1]++w))):=by rw[e];show u++(l.szT++r.szT++[_])++w=_;simp only[ak]
 rw[e2]
 refine⟨fun h=>?_,fun h=>?_⟩
 ·rw[aW (by omega),aK (by rw[MT.sz_len];omega),hu,show(pA C).length+l.size-1-(pA C).length=l.size-1 by omega,MT.sz_top l h]
 ·rw[aW (by omega),aW (by rw[MT.sz_len];omega),aK (by rw[MT.sz_len,MT.sz_len];omega),hu,MT.sz_len,show(pA C).length+l.size+r.size-1-(pA C).length-l.size=r.size-1 by omega,MT.sz_top r h]
theorem Ei(C:List Fm)(l r:MT)(m:List Nat)(h:(plug C (.nd l r m)).size<=900)(st:List ao):Ai [bG (plug C (.nd l r m)).po,.int (pq C l r:Nat)] st=.ok (.tup [.int ((pA C).length:Nat),.int ((pA C).length+l.size:Nat)]) st:=by
 have hg:=(plug C (.nd l r m)).gr0
 have hl:=MT.po_len (plug C (.nd l r m))
 obtain⟨x,⟨A,rfl⟩,el⟩:=D8 hg (by omega) st
 have c1:(st++[ao.lst A,.lst (((plug C (.nd l r m)).lkT 0).map iQ)])[st.length+1]?=some (.lst (((plug C (.nd l r m)).lkT 0).map iQ)):=by rw[iH];rfl
 have es:=Eh hg (by omega) c1
 generalize hs1:st++[ao.lst A,.lst (((plug C (.nd l r m)).lkT 0).map iQ)]=s1 at *
 have hx:=uw C l r m
 obtain⟨zl,zr⟩:=NN (C:=C) (l:=l) (r:=r) (m:=m)
 have lx:∀(s:List ao),s[st.length+1]?=some (.lst (((plug C (.nd l r m)).lkT 0).map iQ))->bu (.loc (st.length+1)) (.int (pq C l r:Nat)) s=.ok (iQ (l.tp (pA C).length,r.tp ((pA C).length+l.size))) s:=fun s hs=>ky (b_ hs) (f6 (by rw[aG];unfold pq;rw[hx];rfl))
 have c2:(s1++[.lst (cM (plug C (.nd l r m)).szT)])[st.length+1]?=some (.lst (((plug C (.nd l r m)).lkT 0).map iQ)):=c6 c1
 have lx2:=lx _ c2
 have sx:∀{j a:Nat},(plug C (.nd l r m)).szT[j]?=some a->bu (.loc s1.length) (.int j) (s1++[.lst (cM (plug C (.nd l r m)).szT)])=.ok (.int a) (s1++[.lst (cM (plug C (.nd l r m)).szT)]):=fun e=>xc [] e
 have x0:bu (iQ (l.tp (pA C).length,r.tp ((pA C).length+l.size))) (.int 0) (s1++[.lst (cM (plug C (.nd l r m)).szT)])=.ok (oW (l.tp (pA C).length)) (s1++[.lst (cM (plug C (.nd l r m)).szT)]):=rfl
 have x1:bu (iQ (l.tp (pA C).length,r.tp ((pA C).length+l.size))) (.int 1) (s1++[.lst (cM (plug C (.nd l r m)).szT)])=.ok (oW (r.tp ((pA C).length+l.size))) (s1++[.lst (cM (plug C (.nd l r m)).szT)]):=rfl
 generalize sY:s1++[ao.lst (cM (plug C (.nd l r m)).szT)]=s2 at *
 generalize hT:bG (plug C (.nd l r m)).po=T at *
 have tpn:∀(t:MT) (o:Nat),(t.size=0/\t.tp o=none)\/(0<t.size/\t.tp o=some (o+t.size-1)):=fun t o=>by
  cases t with
  |nil=>exact .inl ⟨rfl,rfl⟩
  |nd a b c=>exact .inr ⟨by rw[MT.size_nd];omega,MT.tp_nd a b c o⟩
 have e4:fN (ef (gA (e2 bu (e2 bu (ag 2) (ag 1)) (eI 1)))) (be 4 (e2 mP (ag 1) (e2 bu (ag 3) (e2 bu (e2 bu (ag 2) (ag 1)) (eI 1))))) bT [some T,iO (pq C l r:Nat),lO (st.length+1),lO s1.length,iO (pq C l r:Nat),none] s2=.nx [some T,iO (pq C l r:Nat),lO (st.length+1),lO s1.length,iO ((pA C).length+l.size:Nat),none] s2:=by
  rcases tpn r ((pA C).length+l.size)with⟨h0,e⟩|⟨h0,e⟩
  ·rw[e]at x1 lx2
   rw[show pq C l r=(pA C).length+l.size by unfold pq;omega]at lx2 ⊢
   exact cH (aZ (eT (bA (bA kv kv lx2) bR x1) rfl)) rfl
  ·rw[e]at x1 lx2
   have:((pA C).length+l.size:Nat)=((pq C l r:Nat):Int)-(r.size:Nat):=by unfold pq;omega
   rw[this]
   exact cQ (aZ (eT (bA (bA kv kv lx2) bR x1) rfl)) (bg (bA kv (bA kv (bA (bA kv kv lx2) bR x1) (sx (zr h0))) rfl))
 have e5:fN (ef (gA (e2 bu (e2 bu (ag 2) (ag 1)) (eI 0)))) (be 5 (e2 mP (ag 4) (e2 bu (ag 3) (e2 bu (e2 bu (ag 2) (ag 1)) (eI 0))))) bT [some T,iO (pq C l r:Nat),lO (st.length+1),lO s1.length,iO ((pA C).length+l.size:Nat),iO ((pA C).length+l.size:Nat)] s2=.nx [some T,iO (pq C l r:Nat),lO (st.length+1),lO s1.length,iO ((pA C).length+l.size:Nat),iO ((pA C).length:Nat)] s2:=by
  rcases tpn l (pA C).length with⟨h0,e⟩|⟨h0,e⟩
  ·rw[e]at x0 lx2
   rw[show(pA C).length+l.size=(pA C).length by omega]at lx2 x0 ⊢
   exact cH (aZ (eT (bA (bA kv kv lx2) bR x0) rfl)) rfl
  ·rw[e]at x0 lx2
   have:((pA C).length:Nat)=(((pA C).length+l.size:Nat):Int)-(l.size:Nat):=by omega
   refine(cQ (aZ (eT (bA (bA kv kv lx2) bR x0) rfl)) (bg (bA kv (bA kv (bA (bA kv kv lx2) bR x0) (sx (zl h0))) rfl))).trans ?_
   rw[this];rfl
 refine fq ?_ rfl
 apply aC
 ·exact bg (cz kn el rfl)
 apply aC
 ·exact bg (cz kn es rfl)
 apply aC
 ·exact bg kv
 apply aC
 ·exact e4
 apply aC
 ·exact bg kv
 apply aC
 ·exact e5
 apply bN
 ·exact fK (aw kv kn) (au rfl)
 ·exact⟨_,_,rfl,rfl,_,by rw[<- sY,<- hs1,ak]⟩
theorem Qz(a:List Pl)(st:List ao):DY [.bl (decide ((0:Int)<(a.length:Int)))] st=.ok (.int (py a:Nat)) st:=by
 by_cases h:0<a.length
 ·rw[bY (by omega)];unfold py;rw[aJ h];rfl
 ·rw[ba (by omega)];unfold py;rw[aV h];rfl
theorem AE(C:List Fm)(l r x:MT)(m:List Nat)(s:Bool)(h:(plug C (.nd l r m)).size<=900)(hx:x.size<=900)(st:List ao):Aj [bG (plug C (.nd l r m)).po,.int (pq C l r:Nat),tP s,bG x.po] st=.ok (bG (plug C (.nd (if s then x else l) (if s then r else x) m)).po) st:=by
 have z1:=fF C (.nd l r m) (by rw[MT.size_nd];omega)
 rw[MT.size_nd]at z1
 have hl:=MT.po_len (plug C (.nd l r m))
 have hxl:=MT.po_len x
 have b:=Ei C l r m h st
 have c1:=B1 (a:=(plug C (.nd l r m)).po) (i:=(pA C).length) (j:=(pA C).length+l.size) (by omega) (by omega) st
 have c2:=B1 (a:=(plug C (.nd l r m)).po) (i:=(pA C).length+l.size) (j:=pq C l r) (by unfold pq;omega) (by unfold pq;omega) st
 have d1:((plug C (.nd l r m)).po.drop (pA C).length).take ((pA C).length+l.size-(pA C).length)=l.po:=by
  rw[cW,show(MT.nd l r m).po=l.po++(r.po++[⟨l.one+2*r.one,m⟩])from ak _ _ _]
  exact ux (q:=0) rfl (by rw[MT.po_len];omega)
 have d2:((plug C (.nd l r m)).po.drop ((pA C).length+l.size)).take (pq C l r-((pA C).length+l.size))=r.po:=by
  rw[cW,show pA C++(MT.nd l r m).po++pB C=(pA C++l.po)++(r.po++[⟨l.one+2*r.one,m⟩])++pB C by show pA C++(l.po++r.po++_)++_=_;simp only[ak]]
  exact ux (q:=0) (by rw[ah,MT.po_len]) (by rw[MT.po_len];unfold pq;omega)
 rw[d1]at c1
 rw[d2]at c2
 have w1:(plug C (.nd l r m)).po.take (pA C).length=pA C:=by rw[cW,ak,gc]
 have w2:(plug C (.nd l r m)).po.drop (pq C l r+1)=pB C:=by
  rw[cW]
  exact gI (by rw[ah,MT.po_len,MT.size_nd];unfold pq;omega)
 have s1:=vy (a:=(plug C (.nd l r m)).po) (q:=(pA C).length) (by omega) st
 have s2:=vz (a:=(plug C (.nd l r m)).po) (q:=pq C l r+1) (by unfold pq;omega) st
 rw[w1]at s1
 rw[w2]at s2
 have s2:vO (bG (plug C (.nd l r m)).po) (some ((pq C l r:Int)+1)) none st=.ok (bG (pB C)) st:=s2
 have hB:(pB C).length<=900:=by rw[<- w2,cm];omega
 have hA:(pA C).length<=900:=by omega
 have eS:iE (tP s) (.str [108,101,102,116]) st=.ok (.bl s) st:=by cases s<;>exact dH rfl
 have e7:fN (ef (e2 iE (ag 2) (eC (.str [108,101,102,116])))) (be 6 (ag 3)) (be 7 (ag 3)) [some (bG (plug C (.nd l r m)).po),iO (pq C l r:Nat),some (tP s),some (bG x.po),iO ((pA C).length:Nat),iO ((pA C).length+l.size:Nat),some (bG l.po),some (bG r.po),none] st=.nx [some (bG (plug C (.nd l r m)).po),iO (pq C l r:Nat),some (tP s),some (bG x.po),iO ((pA C).length:Nat),iO ((pA C).length+l.size:Nat),some (bG (MT.po (if s then x else l))),some (bG (MT.po (if s then r else x))),none] st:=by
  cases s
  ·exact cH (aZ (bA kv bR eS)) (bg kv)
  ·exact cQ (aZ (bA kv bR eS)) (bg kv)
 have hl2:(MT.po (if s then x else l)).length<=900:=by cases s<;>simp only[fX,fy,jU,MT.po_len]<;>omega
 have hr2:(MT.po (if s then r else x)).length<=900:=by cases s<;>simp only[fX,fy,jU,MT.po_len]<;>omega
 generalize (if s then x else l)=l' at *
 generalize (if s then r else x)=r' at *
 have t1:=Qz l'.po st
 have t2:=Qz r'.po st
 rw[MT.one_bit]at t1 t2
 refine fq ?_ (by simp only[undWs,kT,dA])
 apply aC
 ·exact w6 (cz (aw kv kn) b rfl) rfl
 apply aC
 ·exact bg (mx kv (mw kv) (mw kv) c1)
 apply aC
 ·exact bg (mx kv (mw kv) (mw kv) c2)
 apply aC
 ·exact e7
 apply aC
 ·refine bg (w:=.tup [.int (l'.one+2*r'.one:Nat),.str m]) (fK (aw ?_ (aw (bA (bA kv kv (rD (m6 C l r m) st)) bR (BW _ st)) aX)) (au rfl))
  rw[show((l'.one+2*r'.one:Nat):Int)=(l'.one:Int)+2*(r'.one:Int) by omega]
  exact bA (cu (aw (bA (cu kn (gu l'.po st)) bR (lG rfl)) aX) t1) (bA bR (cu (aw (bA (cu kn (gu r'.po st)) bR (lG rfl)) aX) t2) (qi (.inl (by decide)))) et
 apply bN
 ·refine bA (bA (bA (bA (mx kv sA (mw kv) s1) kv (jh _ _ ?_ st)) kv (jh _ _ ?_ st)) (fK kn (au rfl)) (jh _ [⟨l'.one+2*r'.one,m⟩] ?_ st)) (mx kv (mw (bA kv bR et)) sA s2) (jh _ _ ?_ st)
  ·rw[ah];omega
  ·rw[ah,ah];omega
  ·rw[ah,ah,ah,b8];omega
  ·rw[ah,ah,ah,ah,b8];omega
 ·refine⟨_,_,rfl,?_,[],by simp⟩
  rw[cW]
  show _=bG (pA C++(l'.po++r'.po++[⟨l'.one+2*r'.one,m⟩])++pB C)
  simp only[ak]
end
theorem Cc{l:List Nat}(h:l.Pairwise (· < ·)):gj l=l:=xN (jd l) h fun _=>iW
def yT(t:MT):Prop:=∀p∈t.po,pD p.m
theorem yT.plug{C:List Fm}{l r l' r':MT}{m m':List Nat}(h:yT (plug C (.nd l r m)))(hl:yT l')(hr:yT r')(hm:pD m'):yT (plug C (.nd l' r' m')):=fun p hp=>by
 rw[cW]at hp
 rcases aU.mp hp with hp|hp
 ·rcases aU.mp hp with hp|hp
  ·exact h p (by rw[cW];exact bX _ (bX _ hp))
  ·rcases aU.mp hp with hp|hp
   ·rcases aU.mp hp with hp|hp
    ·exact hl p hp
    ·exact hr p hp
   ·rw[aY.mp hp];exact hm
 ·exact h p (by rw[cW];exact aO _ hp)
theorem yT.at{C:List Fm}{l r:MT}{m:List Nat}(h:yT (P.plug C (.nd l r m))):yT l/\yT r/\pD m:=
  ⟨fun p hp=>h p (by rw[cW];exact bX _ (aO _ (bX _ (bX _ hp)))),
   fun p hp=>h p (by rw[cW];exact bX _ (aO _ (bX _ (aO _ hp)))),
   h ⟨_,m⟩ (by rw[cW];exact bX _ (aO _ (aO _ (aY.mpr rfl))))⟩
theorem pD.ln{m:List Nat}(h:pD m):m.length<=52:=lZ (h.1.imp fun h=>a7 h) h.2
theorem pD.take{m:List Nat}(h:pD m)(c:Nat):pD (m.filter fun d=>d != c):=⟨h.1.sublist List.filter_sublist,fun d hd=>h.2 d (iJ.mp hd).1⟩
theorem pD.put{m:List Nat}(h:pD m){c:Nat}(hc:c∈LL):pD (gj (m++[c])):=⟨jd _,fun d hd=>by
 rcases aU.mp (iW.mp hd)with hd|hd
 ·exact h.2 d hd
 ·rw[aY.mp hd];exact hc⟩
theorem pD.srt_take{m:List Nat}(h:pD m)(c:Nat):BX (m.filter fun d=>d != c)=m.filter fun d=>d != c:=by
 rw[sT ((h.take c).1.imp fun h=>a7 h),Cc (h.take c).1]
theorem pD.srt_put{m:List Nat}(h:pD m)(c:Nat):BX ((m.filter fun d=>d != c)++[c])=gj (m++[c]):=by
 rw[sT]
 ·refine xN (jd _) (jd _) fun d=>?_
  rw[iW,iW,aU,aU,iJ,aY,bne_iff_ne]
  by_cases e:d=c
  ·simp[e]
  ·simp[e]
 ·refine lT.mpr ⟨(h.take c).1.imp fun h=>a7 h,by simp,fun d hd e he=>?_⟩
  rw[aY.mp he]
  exact bne_iff_ne.mp (iJ.mp hd).2
theorem QB{p q:List Nat}{k:Bool}{st:List ao}(h:(!(p==q))=k):J7 (.str p) (.str q) st=.ok (.bl k) st:=by rw[<- h];rfl
theorem JL{fe:FE}{t:FT}{cap:List (Option Nat)}{ρ:cI}{st st1:List ao}{l:List Nat}(T:Nat->Bool)(h:fe ρ st=.ok (.str l) st1)(hl:l.length<=10000)(h0:0<cap.length)
  (ht:∀c∈l,t ((su cap ρ).set 0 (some (.str [c]))) st1=.ok (T c) st1) :
  jO cap (gD fe) (jy 0) t (ag 0) ρ st=.ok (.loc st1.length) (st1++[.lst (((l.filter T).map fun c=>[c]).map W.str)]):=by
 have cg:=BJ (cap:=cap) (ρ:=ρ) (st:=st) (st1:=st1) (f:=jy 0) (t:=t) (el:=ag 0) (fun w=>match w with|.str [c]=>T c|_=>false) id (yu h) (by rw[sR];show _<=1000000;omega) trivial fun w hw=>by
  obtain⟨c,hc,rfl⟩:=cS.mp hw
  exact⟨_,rfl,ht c hc,fun _=>jP (by rw[cb (by simp[su];exact h0)];rfl)⟩
 have e:((il l).filter (fun w=>match w with|.str [c]=>T c|_=>false)).map id=((l.filter T).map fun c=>[c]).map W.str:=by
  rw[i8]
  unfold il
  rw[List.filter_map,b7];rfl
 rwa[e]at cg
inductive Pn where
 |back|again
 |wh (x:MT)
 |mk (b:Bool) (q c:Nat)
 |br (q:Nat) (s:Bool) (x:MT)
def S9(b:Bool):W:=.str (if b then[112,117,116]else[116,97,107,101])
def Pn.w:Pn->W
 |back=>.tup [.str [98,97,99,107]]
 |again=>.tup [.str [97,103,97,105,110]]
 |wh x=>.tup [.str [119,104,111,108,101],bG x.po]
 |mk b q c=>.tup [S9 b,.int (q:Nat),.str [c]]
 |br q s x=>.tup [.str [98,114,97,110,99,104],.int (q:Nat),tP s,bG x.po]
def Pn.ok(n:Nat):Pn->Prop
 |back=>True
 |again=>True
 |wh x=>x.size<=10/\yT x
 |mk _ q c=>q<n/\c∈LL
 |br q _ x=>q<n/\x.size<=10/\yT x
theorem Cd(T:W)(x:MT)(st:List ao):pT [T,(Pn.wh x).w] st=.ok (bG x.po) st:=by
 apply eK
 apply eY
 ·exact aZ (bA kx bR (dH rfl))
 apply d6
 ·exact bA kv bR ox
 ·exact⟨_,_,rfl,rfl,rfl⟩
theorem Ce(C:List Fm)(l r x:MT)(m:List Nat)(s:Bool)(h:(plug C (.nd l r m)).size<=900)(hx:x.size<=900)(st:List ao):pT [bG (plug C (.nd l r m)).po,(Pn.br (pq C l r) s x).w] st=.ok (bG (plug C (.nd (if s then x else l) (if s then r else x) m)).po) st:=by
 apply eK
 apply bw
 ·exact aZ (bA kx bR (dH rfl))
 apply bJ
 apply eY
 ·exact aZ (bA kx bR (dH rfl))
 apply d6
 ·exact cz (aw kv (aw kx (aw kx (aw kx aX)))) (AE C l r x m s h hx st) rfl
 ·exact⟨_,_,rfl,rfl,rfl⟩
def Rn(b:Bool)(m:List Nat)(c:Nat):List Nat:=if b then gj (m++[c])else m.filter fun d=>d != c
theorem Cf(C:List Fm)(l r:MT)(m:List Nat)(b:Bool)(c:Nat)(h:(plug C (.nd l r m)).size<=900)(hm:pD m)(st:List ao):pT [bG (plug C (.nd l r m)).po,(Pn.mk b (pq C l r) c).w] st=.ok (bG (plug C (.nd l r (Rn b m c))).po) st:=by
 have Te:=hm.ln
 have z1:=fF C (.nd l r m) (by rw[MT.size_nd];omega)
 rw[MT.size_nd]at z1
 have hl:=MT.po_len (plug C (.nd l r m))
 have w1:(plug C (.nd l r m)).po.take (pq C l r)=pA C++(l.po++r.po):=by
  rw[cW,show pA C++(MT.nd l r m).po++pB C=(pA C++(l.po++r.po))++(⟨l.one+2*r.one,m⟩::pB C) by show pA C++(l.po++r.po++[_])++pB C=_;simp only[ak];rfl]
  exact kr (by rw[ah,ah,MT.po_len,MT.po_len];unfold pq;omega)
 have w2:(plug C (.nd l r m)).po.drop (pq C l r+1)=pB C:=by
  rw[cW]
  exact gI (by rw[ah,MT.po_len,MT.size_nd];unfold pq;omega)
 have w3:∀m',(plug C (.nd l r m')).po=(pA C++(l.po++r.po))++[⟨l.one+2*r.one,m'⟩]++pB C:=fun m'=>by
  rw[cW];show pA C++(l.po++r.po++[_])++pB C=_;simp only[ak]
 have hs:=hJ List.length (w3 m)
 rw[ah,ah,b8]at hs
 have s1:∀st,vO (bG (plug C (.nd l r m)).po) none (some (pq C l r:Int)) st=.ok (bG (pA C++(l.po++r.po))) st:=fun st=>by
  have:=vy (a:=(plug C (.nd l r m)).po) (q:=pq C l r) (by unfold pq;omega) st
  rwa[w1]at this
 have s2:∀st,vO (bG (plug C (.nd l r m)).po) (some ((pq C l r:Int)+1)) none st=.ok (bG (pB C)) st:=fun st=>by
  have:=vz (a:=(plug C (.nd l r m)).po) (q:=pq C l r+1) (by unfold pq;omega) st
  rwa[w2]at this
 have pk:=JL (fe:=ag 3) (t:=ef (e2 J7 (ag 0) (e2 bu (ag 1) (eI 2)))) (cap:=[none,some 1]) (ρ:=[some (bG (plug C (.nd l r m)).po),some (Pn.mk b (pq C l r) c).w,iO (l.one+2*r.one:Nat),some (.str m)]) (st:=st) (st1:=st) (l:=m) (fun d=>d != c) kv (by omega) (by decide) fun d _=>aZ (bA kv kx (QB (by simp[bne])))
 have c1:(st++[ao.lst (((m.filter fun d=>d != c).map fun c=>[c]).map W.str)])[st.length]?=some (.lst (((m.filter fun d=>d != c).map fun c=>[c]).map W.str)):=dm
 have hfl:=ju (fun d=>d != c) m
 have ap:=l_ (y:=.str [c]) c1 (by rw[aE,aE];omega)
 have kA:∀(l2:List Nat) (s:List ao) (x:List ao),s=st++x->BX l2=Rn b m c->l2.length<64->s[st.length]?=some (.lst ((l2.map fun c=>[c]).map W.str)) ->
   kI (zH fun w' bh=>w'=bG (plug C (.nd l r (Rn b m c))).po/\∃x,bh=st++x) (cU (e2 cK (e2 cK (qA (ag 0) gC (eJ (e2 bu (ag 1) (eI 1)))) (gB (ai (gB (ai (ag 2) (ai (HX nv (eC (.str [])) (ai (bE jY (ai (ag 3) aD)) aD)) aD))) aD))) (qA (ag 0) (eJ (e2 cK (e2 bu (ag 1) (eI 1)) (eI 1))) gC)) [some (bG (plug C (.nd l r m)).po),some (Pn.mk b (pq C l r) c).w,iO (l.one+2*r.one:Nat),lO st.length] s):=fun l2 s x sY hsr hl2 hc=>by
  have sj:=Db (fe:=ag 3) (ρ:=[some (bG (plug C (.nd l r m)).po),some (Pn.mk b (pq C l r) c).w,iO (l.one+2*r.one:Nat),lO st.length]) (st:=s) kv (b_ hc) hl2
  rw[hsr]at sj
  apply bN
  ·exact bA (bA (mx kv sA (mw kx) (s1 _)) (fK (aw (fK (aw kv (aw sj aX)) (au rfl)) aX) (au rfl)) (jh _ [⟨l.one+2*r.one,Rn b m c⟩] (by rw[ah,b8];omega) _)) (mx kv (mw (bA kx bR et)) sA (s2 _)) (jh _ _ (by rw[ah,ah,b8];omega) _)
  ·exact⟨_,_,rfl,by rw[w3],_,by rw[sY,ak]⟩
 refine fq ?_ (by simp only[undWs,kT,dA])
 apply bw
 ·exact aZ (bA kx bR (dH (by cases b<;>rfl)))
 apply bJ
 apply bw
 ·exact aZ (bA kx bR (dH (by cases b<;>rfl)))
 apply bJ
 apply aC
 ·exact w6 (bA kv kx (rD (m6 C l r m) st)) rfl
 apply aC
 ·exact w6 pk rfl
 cases b with
 |true=>
  apply eY
  ·exact aZ (bA kx bR (dH rfl))
  apply aC
  ·exact d9 (hZ kv (df c1) (aw kx aX) ap)
  ·rw[fE]
   refine kA ((m.filter fun d=>d != c)++[c]) _ _ rfl (hm.srt_put c) (by rw[ah,b8];omega) ?_
   rw[dM,a8,a8];rfl
 |false=>
  apply bw
  ·exact aZ (bA kx bR (dH rfl))
  apply bJ
  exact kA (m.filter fun d=>d != c) _ _ rfl (hm.srt_take c) (by omega) c1
theorem K8{ps:List Pl}{S sz:List Nat}{lk:List (Option Nat×Option Nat)}{pool:List Nat}(hp:pool.Nodup)(hL:∀d∈pool,d∈LL)(h:Gr ps S sz lk)(h1:S.length<=1)(hm:∀p∈ps,Ec pool p.m):∃t:MT,ps=t.po/\yT t:=by
 obtain⟨t,rfl⟩:=h.mt h1
 exact⟨t,rfl,fun p HZ=>⟨(hm p HZ).2.2 hp,fun d hd=>hL d ((hm p HZ).2.1 d hd)⟩⟩
theorem JM{st:List ao}{l:List Nat}(h:l.length<64):jY [.str l] st=.ok (.loc st.length) (st++[.lst ((iX (l.map fun c=>[c])).map W.str)]):=by
 unfold jY;simp only;rw[aJ h]
theorem JN{fe:FE}{ρ:cI}{st s1:List ao}{l:List Nat}(h:fe ρ st=.ok (.str l) s1)(hl:l.length<64) :
  HX nv (eC (.str [])) (ai (bE jY (ai fe aD)) aD) ρ st=.ok (.str (BX l)) (s1++[.lst ((iX (l.map fun c=>[c])).map W.str)]):=by
 have hcell2:lstOf (s1++[ao.lst ((iX (l.map fun c=>[c])).map W.str)]) s1.length=some ((iX (l.map fun c=>[c])).map W.str):=b_ dm
 have hj:=BI (sep:=[]) hcell2 (by rw[vw (gs _),rF];show _<=1000000;simp;omega)
 exact Js bR rfl (aw (cu (aw h aX) (JM hl)) aX) hj
theorem Hg{a b:Nat}{st:List ao}(h:a<1000000):ij (.int (a:Nat)) (.int (b:Nat)) st=.ok (.int ((a*b:Nat):Int)) st:=by
 rw[qi (.inl ⟨by omega,by omega⟩),iL]
theorem Hh{n:Nat}{st:List ao}{ns:List Int}(h0:st[n]?=some (.ro (ns.map W.int))):∃(M:Mc) (r:Nat) (t:MT) (pool:List Nat),lK M r/\1<=r/\t.size<=80/\yT t/\pool.length=4/\(∀d∈pool,d∈LL)/\pool.Nodup/\Ak [.loc n] st=.ok (.tup [M.w,bG t.po,.str pool]) st:=by
 suffices hh:kI (zH fun w bh=>(∃x,bh=st++x)/\undWs st.length [w]=true/\∃(M:Mc) (r:Nat) (t:MT) (pool:List Nat),w=.tup [M.w,bG t.po,.str pool]/\lK M r/\1<=r/\t.size<=80/\yT t/\pool.length=4/\(∀d∈pool,d∈LL)/\pool.Nodup) (K0 ([W.loc n].map some++List.replicate (8-1) none) st) by
  obtain⟨w,⟨M,r,t,pool,rfl,h1,h2,h3,h4,h5,h6,h7⟩,e⟩:=qW hh
  exact⟨M,r,t,pool,h1,h2,h3,h4,h5,h6,h7,e⟩
 obtain⟨c0,e0⟩:=pi h0 0
 obtain⟨ds,Ti,hdp,e1⟩:=oJ c0 100003 4 (by omega) st
 have e1:kS [.int c0,.int 4,.int 100003] st=_:=e1
 have hsh:(st++[ao.lst (ds.map W.int)])[st.length]?=some (.lst (yt ds)):=dm
 have ish:∀(i:Nat),i<4->∃d:Int,∀x:List ao,bu (.loc st.length) (.int (i:Nat)) (st++[ao.lst (ds.map W.int)]++x)=.ok (.int d) (st++[ao.lst (ds.map W.int)]++x):=fun i hi=>by
  obtain⟨d,hd⟩:∃d,ds[i]?=some d:=⟨_,aj (by omega)⟩
  exact⟨d,fun x=>uq (c6 hsh) hd⟩
 obtain⟨d0,i0⟩:=ish 0 (by omega)
 obtain⟨d1,i1⟩:=ish 1 (by omega)
 obtain⟨d2,i2⟩:=ish 2 (by omega)
 obtain⟨d3,i3⟩:=ish 3 (by omega)
 have h1:∀x:List ao,(st++[ao.lst (ds.map W.int)]++x)[n]?=some (.ro (ns.map W.int)):=fun x=>c6 (c6 h0)
 generalize hs1:st++[ao.lst (ds.map W.int)]=s1 at *
 have j0:bu (.loc st.length) (.int 0) s1=.ok (.int d0) s1:=by have:=i0 [];rwa[bf]at this
 have j1:bu (.loc st.length) (.int 1) s1=.ok (.int d1) s1:=by have:=i1 [];rwa[bf]at this
 have g1:s1[n]?=some (.ro (ns.map W.int)):=by have:=h1 [];rwa[bf]at this
 obtain⟨c1,e2'⟩:=pi g1 1
 obtain⟨pool,pE,Ld,yU,ep⟩:=Jw c1 200017 4 (by omega) s1
 have ep:w4 [.int c1,.int 4,.int 200017] s1=_:=ep
 obtain⟨a,ha,ea⟩:=h_ (q:=d0) (n:=4) (by omega)
 have ea:d0%4=(a:Int):=ea
 obtain⟨b,hb,eb⟩:=h_ (q:=d1) (n:=3) (by omega)
 have eb:d1%3=(b:Int):=eb
 apply aC
 ·exact bg (cz (aw (cz (aw kv (aw bR aX)) e0 rfl) (aw bR (aw bR aX))) e1 rfl)
 apply aC
 ·exact bg (cz (aw (cz (aw kv (aw bR aX)) e2' rfl) (aw bR (aw bR aX))) ep rfl)
 apply aC
 ·exact bg (bA bR (bA (bA kv bR j0) bR (i9 (by decide))) et)
 rw[show(1:Int)+d0%4=((1+a:Nat):Int) by rw[ea,fH];rfl]
 have hpt:(pool.take b).length<=2:=by rw[aL];omega
 have esl:qA (ag 2) gC (eJ (e2 iD (e2 bu (ag 1) (eI 1)) (eI 3))) [lO n,lO st.length,some (.str pool),iO (1+a:Nat),none,none,none,none] s1=.ok (.str (pool.take b)) s1:=by
  have c:jc pool none (some (b:Int))=pool.take b:=mR (by omega)
  rw[<- c,<- eb]
  exact mx kv sA (mw (bA (bA kv bR j1) bR (i9 (by decide)))) (FL (by show _<=1000000;omega))
 apply aC
 ·exact bg (JN esl (by omega))
 generalize hN:BX (pool.take b)=nm
 have hnl:nm.length<=2:=by rw[<- hN,Da];exact hpt
 generalize sY:s1++[ao.lst ((iX ((pool.take b).map fun c=>[c])).map W.str)]=s2
 have i2':∀x,bu (.loc st.length) (.int 2) (s2++x)=.ok (.int d2) (s2++x):=fun x=>by rw[<- sY,ak];exact i2 _
 have i3':∀x,bu (.loc st.length) (.int 3) (s2++x)=.ok (.int d3) (s2++x):=fun x=>by rw[<- sY,ak];exact i3 _
 have g2:s2[n]?=some (.ro (ns.map W.int)):=by rw[<- sY];exact c6 g1
 obtain⟨nm2,QY,e4⟩:∃nm2:List Nat,((1+a)*(1+a)*2^nm2.length+(1+a)<=68/\nm2.length<=2)/\fN (ef (e2 iE (ag 3) (eI 4))) (be 4 (qA (ag 4) gC (eJ (eI 1)))) bT [lO n,lO st.length,some (.str pool),iO (1+a:Nat),some (.str nm),none,none,none] s2=.nx [lO n,lO st.length,some (.str pool),iO (1+a:Nat),some (.str nm2),none,none,none] s2:=by
  by_cases h:a=3
  ·subst h
   refine⟨jc nm none (some 1),?_,cQ (aZ (bA kv bR (fm rfl))) (bg (mx kv sA (mw bR) (FL (by show _<=1000000;omega))))⟩
   have hc:(jc nm none (some 1)).length<=1:=by
    by_cases h1:1<=nm.length
    ·rw[show jc nm none (some 1)=nm.take 1 from mR (q:=1) h1,aL];omega
    ·match nm,h1 with
     |[],_=>exact ce 1
     |_::_,h=>simp at h
   have h1:(jc nm none (some 1)).length=0\/(jc nm none (some 1)).length=1:=by omega
   rcases h1 with e|e<;>rw[e]<;>decide
  ·refine⟨nm,?_,cH (aZ (bA kv bR (fm (by rw[bj];omega)))) rfl⟩
   have h1:nm.length=0\/nm.length=1\/nm.length=2:=by omega
   have h2:a=0\/a=1\/a=2:=by omega
   rcases h1 with e|e|e<;>rw[e]<;>rcases h2 with rfl|rfl|rfl<;>decide
 apply aC
 ·exact e4
 have sh:zo (.int 1) (.int nm2.length) s2=.ok (.int (2^nm2.length:Nat)) s2:=E6 (by omega)
 have x2:(1+a)*(1+a)<=4*4:=Nat.mul_le_mul (by omega) (by omega)
 have eE:e2 cK (ag 3) (e2 ij (e2 ij (ag 3) (ag 3)) (e2 zo (eI 1) (bE dG (ai (ag 4) aD)))) [lO n,lO st.length,some (.str pool),iO (1+a:Nat),some (.str nm2),none,none,none] s2=.ok (.int (((1+a)+(1+a)*(1+a)*2^nm2.length:Nat):Int)) s2:=by
  rw[show(((1+a)+(1+a)*(1+a)*2^nm2.length:Nat):Int)=((1+a:Nat):Int)+(((1+a)*(1+a)*2^nm2.length:Nat):Int) by omega]
  exact bA kv (bA (bA kv kv (Hg (by omega))) (bA bR (cu kn (xU (by show _<=1000000;omega))) sh) (Hg (by omega))) et
 apply aC
 ·exact bg eE
 generalize hE:(1+a)+(1+a)*(1+a)*2^nm2.length=E
 obtain⟨c2,e5⟩:=pi g2 2
 obtain⟨ds2,hdl2,_,e6⟩:=oJ c2 300007 E (by omega) s2
 have hd2:(s2++[ao.lst (ds2.map W.int)])[s2.length]?=some (.lst (yt ds2)):=dm
 obtain⟨M,hMn,hM,e7⟩:=B4 nm2 (1+a) (1+a) s2.length ds2 _ (by omega) (by omega) (by omega) (by omega) (az _) hd2 (by rw[hdl2,<- hE,Nat.mul_comm (2^_)];omega)
 have e5:lJ [.loc n,.int 2] s2=_:=e5
 have e6:kS [.int c2,.int E,.int 300007] s2=_:=e6
 apply aC
 ·exact bg (cz (aw kv (aw kv (aw kv (aw (cz (aw (cz (aw kv (aw bR aX)) e5 rfl) (aw kv (aw bR aX))) e6 rfl) aX)))) e7 rfl)
 generalize hs3:s2++[ao.lst (ds2.map W.int)]=s3
 have i2'':bu (.loc st.length) (.int 2) s3=.ok (.int d2) s3:=by rw[<- hs3];exact i2' _
 have i3'':bu (.loc st.length) (.int 3) s3=.ok (.int d3) s3:=by rw[<- hs3];exact i3' _
 have g3:s3[n]?=some (.ro (ns.map W.int)):=by rw[<- hs3];exact c6 g2
 obtain⟨q,hq,eq⟩:=h_ (q:=d2) (n:=8) (by omega)
 have eq:d2%8=(q:Int):=eq
 apply aC
 ·exact bg (bA (bA kv bR i2'') bR (i9 (by decide)))
 rw[eq]
 obtain⟨hi,hh,e8⟩:∃hi:Nat,hi<=40/\fN (ef (e2 iE (e2 iD (e2 bu (ag 1) (eI 3)) (eI 4)) (eI 1))) (be 7 (e2 iD (e2 bu (ag 1) (eI 2)) (eI 41))) bT [lO n,lO st.length,some (.str pool),iO (1+a:Nat),some (.str nm2),iO E,some M.w,iO q] s3=.nx [lO n,lO st.length,some (.str pool),iO (1+a:Nat),some (.str nm2),iO E,some M.w,iO hi] s3:=by
  by_cases h:d3%4=1
  ·obtain⟨q2,hq2,eq2⟩:=h_ (q:=d2) (n:=41) (by omega)
   have eq2:d2%41=(q2:Int):=eq2
   refine⟨q2,by omega,?_⟩
   rw[<- eq2]
   exact cQ (aZ (bA (bA (bA kv bR i3'') bR (i9 (by decide))) bR (fm (by rw[dv];exact h)))) (bg (bA (bA kv bR i2'') bR (i9 (by decide))))
  ·exact⟨q,by omega,cH (aZ (bA (bA (bA kv bR i3'') bR (i9 (by decide))) bR (fm (by rw[bj];exact h)))) rfl⟩
 apply aC
 ·exact e8
 obtain⟨c3,e9⟩:=pi g3 3
 obtain⟨ds3,hdl3,_,e10⟩:=oJ c3 400009 hi (by omega) s3
 have hd3:(s3++[ao.lst (ds3.map W.int)])[s3.length]?=some (.lst (yt ds3)):=dm
 obtain⟨ps,S,sz,lk,hg,hS,hpsl,hpm,e11⟩:=Df (pool:=pool) hd3 (by omega) (by omega)
 obtain⟨t,rfl,ht⟩:=K8 Ld yU hg hS hpm
 have e9:lJ [.loc n,.int 3] s3=_:=e9
 have e10:kS [.int c3,.int hi,.int 400009] s3=_:=e10
 rw[MT.po_len]at hpsl
 apply bN
 ·exact fK (aw kv (aw (cz (aw (cz (aw (cz (aw kv (aw bR aX)) e9 rfl) (aw kv (aw bR aX))) e10 rfl) kn) e11 rfl) kn)) (au rfl)
 ·exact⟨_,_,rfl,⟨_,by rw[<- hs3,<- sY,<- hs1,ak,ak,ak]⟩,by simp[undWs,GK,kT,W.und],M,1+a,t,pool,rfl,hM,by omega,by omega,ht,pE,yU,Ld⟩
theorem Cg{n:Nat}{st:List ao}{ns:List Int}(h0:st[n]?=some (.ro (ns.map W.int)))(k:Int){t:MT}{pool:List Nat}(pE:pool.length=4)(yU:∀d∈pool,d∈LL)(Ld:pool.Nodup)(mo:Nat)(TH:0<mo) :
  ∃p:Pn,p.ok t.size/\mC [.loc n,.int k,.int (mo:Nat),bG t.po,.str pool] st=.ok p.w st:=by
 suffices hh:kI (zH fun w bh=>(∃x,bh=st++x)/\undWs st.length [w]=true/\∃p:Pn,w=p.w/\p.ok t.size) (K1 ([W.loc n,.int k,.int (mo:Nat),bG t.po,.str pool].map some++List.replicate (9-5) none) st) by
  obtain⟨w,⟨p,rfl,h1⟩,e⟩:=qW hh
  exact⟨p,h1,e⟩
 obtain⟨c0,e0⟩:=pi h0 (4+k)
 obtain⟨ds,Ti,hdp,e1⟩:=oJ c0 (500009+101*k) 12 (by omega) st
 have e1:kS [.int c0,.int 12,.int (500009+101*k)] st=_:=e1
 have hsh:(st++[ao.lst (ds.map W.int)])[st.length]?=some (.lst (yt ds)):=dm
 have ish:∀(i:Nat),i<12->∃d:Int,∀x:List ao,bu (.loc st.length) (.int (i:Nat)) (st++[ao.lst (ds.map W.int)]++x)=.ok (.int d) (st++[ao.lst (ds.map W.int)]++x):=fun i hi=>by
  obtain⟨d,hd⟩:∃d,ds[i]?=some d:=⟨_,aj (by omega)⟩
  exact⟨d,fun x=>uq (c6 hsh) hd⟩
 obtain⟨d0,i0⟩:=ish 0 (by omega)
 obtain⟨d1,i1⟩:=ish 1 (by omega)
 obtain⟨d2,i2⟩:=ish 2 (by omega)
 obtain⟨d3,i3⟩:=ish 3 (by omega)
 obtain⟨d4,i4⟩:=ish 4 (by omega)
 obtain⟨d5,i5⟩:=ish 5 (by omega)
 generalize hs1:st++[ao.lst (ds.map W.int)]=s1 at *
 have j5:bu (.loc st.length) (.int 5) s1=.ok (.int d5) s1:=by have:=i5 [];rwa[bf]at this
 obtain⟨m,hm,em⟩:=h_ (q:=d5) (n:=6) (by omega)
 have em:d5%6=(m:Int):=em
 apply aC
 ·exact bg (cz (aw (cz (aw kv (aw (bA bR kv et) aX)) e0 rfl) (aw bR (aw (bA bR (bA bR kv (qi (.inl (by decide)))) et) aX))) e1 rfl)
 have hsl:vO (.loc st.length) (some 6) (some ((6:Int)+d5%6)) s1=.ok (.loc s1.length) (s1++[.lst (yt ((ds.drop 6).take m))]):=by
  rw[Py (b_ hsh),em,show((6:Int)+(m:Int))=((6+m:Nat):Int)from rfl,show(6:Int)=((6:Nat):Int)from rfl,FP (by unfold yt;rw[aE];omega) (by omega)]
  unfold yt
  rw[<- mi,<- mh,show 6+m-6=m by omega]
 obtain⟨ps,S,sz,lk,hg,hS,hpsl,hpm,e2'⟩:=Df (st:=s1++[.lst (yt ((ds.drop 6).take m))]) (nd:=s1.length) (ds:=(ds.drop 6).take m) (pool:=pool) dm (by rw[aL,cm];omega) (by omega)
 obtain⟨x,rfl,hx⟩:=K8 Ld yU hg hS hpm
 have hxs:x.size<=10:=by rw[MT.po_len,aL,cm]at hpsl;omega
 generalize sY:s1++[ao.lst (yt ((ds.drop 6).take m))]=s2 at *
 have i0':bu (.loc st.length) (.int 0) s2=.ok (.int d0) s2:=by rw[<- sY];exact i0 _
 have i1':bu (.loc st.length) (.int 1) s2=.ok (.int d1) s2:=by rw[<- sY];exact i1 _
 have i2':bu (.loc st.length) (.int 2) s2=.ok (.int d2) s2:=by rw[<- sY];exact i2 _
 have i3':∀y,bu (.loc st.length) (.int 3) (s2++y)=.ok (.int d3) (s2++y):=fun y=>by rw[<- sY,ak];exact i3 _
 have i4':∀y,bu (.loc st.length) (.int 4) (s2++y)=.ok (.int d4) (s2++y):=fun y=>by rw[<- sY,ak];exact i4 _
 have hs:s2=st++([ao.lst (ds.map W.int)]++[.lst (yt ((ds.drop 6).take m))]):=by rw[<- sY,<- hs1,ak]
 apply aC
 ·exact bg (cz (aw (mx kv (mw bR) (mw (bA bR (bA (bA kv bR j5) bR (i9 (by decide))) et)) hsl) kn) e2' rfl)
 obtain⟨kd,hkd,ek⟩:=h_ (q:=d0) (n:=mo) TH
 apply aC
 ·exact bg (bA (bA kv bR i0') kv (i9 (by omega)))
 rw[ek]
 have hln:dG [bG t.po] s2=.ok (.int (t.size:Nat)) s2:=by have:=gu t.po s2;rwa[MT.po_len]at this
 by_cases h8:kd=8
 ·subst h8
  apply eY
  ·exact aZ (bA kv bR (fm rfl))
  apply d6
  ·exact fK (aw bR aX) (au rfl)
  ·exact⟨_,_,rfl,⟨_,hs⟩,rfl,.back,rfl,trivial⟩
 apply bw
 ·exact aZ (bA kv bR (fm (by rw[bj];omega)))
 apply bJ
 by_cases h9:kd=9
 ·subst h9
  apply eY
  ·exact aZ (bA kv bR (fm rfl))
  apply d6
  ·exact fK (aw bR aX) (au rfl)
  ·exact⟨_,_,rfl,⟨_,hs⟩,rfl,.again,rfl,trivial⟩
 apply bw
 ·exact aZ (bA kv bR (fm (by rw[bj];omega)))
 apply bJ
 by_cases h7:kd=7\/t.size=0
 ·apply eY
  ·refine FM (a:=decide (kd=7)) (b:=decide (t.size=0)) (aZ (bA kv bR (fm ?_))) (aZ (bA (cu kn hln) bR (fm ?_)))|>.trans ?_
   ·rw[nO,dv,lg];omega
   ·rw[nO,dv,lg];omega
   ·rcases h7 with h|h
    ·rw[bY h];rfl
    ·rw[bY h,Bool.or_true]
  apply d6
  ·exact fK (aw bR kn) (au rfl)
  ·exact⟨_,_,rfl,⟨_,hs⟩,by simp[undWs,kT,W.und],.wh x,rfl,hxs,hx⟩
 apply bw
 ·refine ph (aZ (bA kv bR (fm ?_))) (aZ (bA (cu kn hln) bR (fm ?_)))
  ·rw[bj];omega
  ·rw[bj];omega
 apply bJ
 have ht0:0<t.size:=by omega
 obtain⟨q,hq,eq⟩:=h_ (q:=64*d1+d2) (n:=t.size) ht0
 apply aC
 ·exact bg (bA (bA (bA bR (bA kv bR i1') (qi (.inl (by decide)))) (bA kv bR i2') et) (cu kn hln) (i9 (by omega)))
 rw[eq]
 by_cases h4:kd<4
 ·obtain⟨m3,hm3,em3⟩:=h_ (q:=d3) (n:=4) (by omega)
  have em3:d3%4=(m3:Int):=em3
  obtain⟨c,hc⟩:∃c,pool[m3]?=some c:=⟨_,aj (by omega)⟩
  have hcL:=yU c (cf hc)
  have hix:∀s,bu (.str pool) (.int (d3%4)) s=.ok (.str [c]) s:=fun s=>by rw[em3];exact FK (by show _<=1000000;omega) (f6 hc)
  have hk2:∃b:Bool,∀s:List ao,s[s2.length]?=some (.lst [.str [112,117,116],.str [116,97,107,101]])->bu (.loc s2.length) (.int ((kd:Int)/2)) s=.ok (S9 b) s:=by
   obtain rfl|rfl|rfl|rfl:kd=0\/kd=1\/kd=2\/kd=3:=by omega
   ·exact⟨true,fun s hs=>ky (b_ hs) rfl⟩
   ·exact⟨true,fun s hs=>ky (b_ hs) rfl⟩
   ·exact⟨false,fun s hs=>ky (b_ hs) rfl⟩
   ·exact⟨false,fun s hs=>ky (b_ hs) rfl⟩
  obtain⟨b,hb⟩:=hk2
  apply eY
  ·exact aZ (bA kv bR (lG (bY (by omega))))
  apply d6
  ·exact fK (aw (bA (nz (aw bR (aw bR aX)) (au rfl)) (bA kv bR (i9 (by decide))) (hb _ dm)) (aw kv (aw (bA kv (bA (bA kv bR (i3' _)) bR (i9 (by decide))) (hix _)) aX))) (au rfl)
  ·exact⟨_,_,rfl,⟨_,by rw[hs,ak]⟩,by cases b<;>rfl,.mk b q c,rfl,hq,hcL⟩
 apply bw
 ·exact aZ (bA kv bR (lG (ba (by omega))))
 apply bJ
 have hk2:∃b:Bool,∀s:List ao,s[s2.length]?=some (.lst [.str [108,101,102,116],.str [114,105,103,104,116]])->bu (.loc s2.length) (.int (d4%2)) s=.ok (tP b) s:=by
  obtain⟨m4,hm4,em4⟩:=h_ (q:=d4) (n:=2) (by omega)
  have em4:d4%2=(m4:Int):=em4
  rw[em4]
  obtain rfl|rfl:m4=0\/m4=1:=by omega
  ·exact⟨true,fun s hs=>ky (b_ hs) rfl⟩
  ·exact⟨false,fun s hs=>ky (b_ hs) rfl⟩
 obtain⟨b,hb⟩:=hk2
 apply bN
 ·exact fK (aw bR (aw kv (aw (bA (nz (aw bR (aw bR aX)) (au rfl)) (bA (bA kv bR (i4' _)) bR (i9 (by decide))) (hb _ dm)) kn))) (au rfl)
 ·exact⟨_,_,rfl,⟨_,by rw[hs,ak]⟩,by cases b<;>simp[undWs,kT,W.und,tP],.br q b x,rfl,hq,hxs,hx⟩
section
variable{M:Mc}{n:Nat}{z z':List ao}{L a b k:Nat}{t:MT}{sd tk:List Dd}{d:Dd}
theorem K9{c:Nat}{q:Nat}{B:Bool}(hm:(if B then jF else iY) [.loc L,.int (q:Nat),.str [c]] z=.ok .non z')(hz:z[L]?=some (.obj "Kept" (kF M t k a b)))(ht:g9 z z' [.non]=z'):mD [.loc L,(Pn.mk B q c).w] z=.ok .non z':=by
 rw[<- ht]
 cases B with
 |true=>exact jf (qh (cQ (aZ (bA kx bR (dH rfl))) (qU (hG kv hz rfl (aw kx (aw kx aX)) rfl hm))))
 |false=>exact jf (cn (cH (aZ (bA kx bR (dH rfl))) eM) (qh (cQ (aZ (bA kx bR (dH rfl))) (qU (hG kv hz rfl (aw kx (aw kx aX)) rfl hm)))))
theorem QC{q:Nat}{s:Bool}{x:MT}(hm:gK [.loc L,.int (q:Nat),tP s,bG x.po] z=.ok .non z')(hz:z[L]?=some (.obj "Kept" (kF M t k a b)))(ht:g9 z z' [.non]=z'):mD [.loc L,(Pn.br q s x).w] z=.ok .non z':=by
 rw[<- ht]
 exact jf (cn (cH (aZ (bA kx bR (dH rfl))) eM) (cn (cH (aZ (bA kx bR (dH rfl))) eM) (qh (cQ (aZ (bA kx bR (dH rfl))) (qU (hG kv hz rfl (aw kx (aw kx (aw kx aX))) rfl hm))))))
theorem QD{x:MT}(hm:ia [.loc L,bG x.po] z=.ok .non z')(hz:z[L]?=some (.obj "Kept" (kF M t k a b)))(ht:g9 z z' [.non]=z'):mD [.loc L,(Pn.wh x).w] z=.ok .non z':=by
 rw[<- ht]
 exact jf (cn (cH (aZ (bA kx bR (dH rfl))) eM) (cn (cH (aZ (bA kx bR (dH rfl))) eM) (cn (cH (aZ (bA kx bR (dH rfl))) eM) (qh (cQ (aZ (bA kx bR (dH rfl))) (qU (hG kv hz rfl (aw kx aX) rfl hm)))))))
theorem JO(hm:iZ [.loc L] z=.ok .non z')(hz:z[L]?=some (.obj "Kept" (kF M t k a b)))(ht:g9 z z' [.non]=z'):mD [.loc L,Pn.back.w] z=.ok .non z':=by
 rw[<- ht]
 exact jf (cn (cH (aZ (bA kx bR (dH rfl))) eM) (cn (cH (aZ (bA kx bR (dH rfl))) eM) (cn (cH (aZ (bA kx bR (dH rfl))) eM) (cn (cH (aZ (bA kx bR (dH rfl))) eM) (qh (cQ (aZ (bA kx bR (dH rfl))) (qU (hG kv hz rfl aX rfl hm))))))))
theorem Hi(hm:ib [.loc L] z=.ok .non z')(hz:z[L]?=some (.obj "Kept" (kF M t k a b)))(ht:g9 z z' [.non]=z'):mD [.loc L,Pn.again.w] z=.ok .non z':=by
 rw[<- ht]
 exact jf (cn (cH (aZ (bA kx bR (dH rfl))) eM) (cn (cH (aZ (bA kx bR (dH rfl))) eM) (cn (cH (aZ (bA kx bR (dH rfl))) eM) (cn (cH (aZ (bA kx bR (dH rfl))) eM) (cn (cH (aZ (bA kx bR (dH rfl))) eM) (qU (hG kv hz rfl aX rfl hm)))))))
theorem n5.fr(h:n5 M L a b t k sd tk z)(hL:z'[L]?=z[L]?)(ha:z'[a]?=z[a]?)(hb:z'[b]?=z[b]?):n5 M L a b t k sd tk z':=⟨hL.trans h.ob,ha.trans h.s,hb.trans h.u,h.la,h.lb,h.ab,h.ls,h.lu⟩
def S_:List Dd->MT->Prop
 |[],_=>True
 |d::sd,t=>d.b=t/\S_ sd d.a
def Ta:List Dd->MT->Prop
 |[],_=>True
 |d::tk,t=>d.a=t/\Ta tk d.b
def Tb(d:Dd):Prop:=d.ok/\yT d.a/\yT d.b
structure Lv(M:Mc)(ns:List Int)(L a b P Q:Nat)(t:MT)(k:Nat)(sd tk:List Dd)(i:Nat)(z:List ao):Prop where
 ks:n5 M L a b t k sd tk z
 r0:z[0]?=some (.ro (ns.map W.int))
 pP:z[P]?=some (.lst (sd.reverse.map fun d=>bG d.a.po))
 pQ:z[Q]?=some (.lst (tk.reverse.map fun d=>bG d.b.po))
 cs:S_ sd t
 ct:Ta tk t
 gd:yT t
 sz:t.size<=100
 os:∀d∈sd,Tb d
 ot:∀d∈tk,Tb d
 ln:sd.length+tk.length<=i
 n0:0≠L/\0≠a/\0≠b/\0≠P/\0≠Q
 nP:P≠L/\P≠a/\P≠b/\P≠Q
 nQ:Q≠L/\Q≠a/\Q≠b
abbrev lR(M:Mc)(t:MT)(pool:List Nat)(L:Nat)(turn:Int)(P Q:Nat)(o8 o9 o10:Option W):cI:=[lO 0,some M.w,some (bG t.po),some (.str pool),lO L,iO turn,lO P,lO Q,o8,o9,o10]
theorem xh{f:FG}{body:FS}(I:Nat->cI->List ao->Prop):∀{ws:List W} {ρ:cI} {st:List ao} (i0:Nat),I i0 ρ st ->
  (∀i w ρ st,ws[i]?=some w->I (i0+i) ρ st->∃ρ' ρ2 cX,f w ρ=some ρ'/\(body ρ' st=.nx ρ2 cX\/body ρ' st=.ct ρ2 cX)/\I (i0+i+1) ρ2 cX) ->
  ∃ρ2 cX,qH f body none ws ρ st=.nx ρ2 cX/\I (i0+ws.length) ρ2 cX
 |[],ρ,st,i0,h0,hs=>⟨ρ,st,by unfold qH;rw[aJ (show ku st none from trivial)],h0⟩
 |w::ws,ρ,st,i0,h0,hs=>by
  obtain⟨ρ',ρ2,cX,e1,e2,h1⟩:=hs 0 w ρ st rfl h0
  obtain⟨ρ3,lM,e3,h3⟩:=xh I (ws:=ws) (ρ:=ρ2) (st:=cX) (i0+1) h1 fun i w ρ st hw hI=>by
   obtain⟨a,b,c,d,e,g⟩:=hs (i+1) w ρ st (by simpa using hw) (by rw[show i0+(i+1)=i0+1+i by omega];exact hI)
   exact⟨a,b,c,d,e,by rw[show i0+1+i+1=i0+(i+1)+1 by omega];exact g⟩
  refine⟨ρ3,lM,?_,by rw[bd,show i0+(ws.length+1)=i0+1+ws.length by omega];exact h3⟩
  unfold qH
  rw[aJ (show ku st none from trivial),e1]
  rcases e2 with e2|e2<;>simp only[e2]<;>exact e3
theorem sV{g g':FS}{ρ ρ':cI}{st st1:List ao}(h:g ρ st=.ct ρ' st1):aN g g' ρ st=.ct ρ' st1:=by unfold aN;rw[h]
theorem Ch(hM:lK M n)(hn:1<=n){pool:List Nat}{turn:Int}{P Q i:Nat}{p:Pn}{o10:Option W}(ht:t.size<=100)(hd:mD [.loc L,p.w] z=.ok .non z')(hk:n5 M L a b t k sd tk z') :
  fN (Ew (ef (gA (cx 2 mD (ai (ag 4) (ai (ag 9) aD))))) (DR (ef (cx 4 tO (ai (ag 4) (ai (ag 1) (ai (ag 2) (ai (e2 cK (ag 5) (ag 8)) aD)))))))) (cU (eC (.bl false))) bT (lR M t pool L turn P Q (iO (i:Nat)) (some p.w) o10) z=.nx (lR M t pool L turn P Q (iO (i:Nat)) (some p.w) o10) z':=
 cH (ph (aZ (eT (cz (aw kv kn) hd rfl) rfl)) (va (aZ (cz (aw kv (aw kv (aw kv (aw (bA kv kv et) aX)))) (xg hM hn (by omega) hk (turn+i)) rfl)) rfl)) eM
abbrev lB:FS:=(aN (be 9 (cx 5 mC (ai (ag 0) (ai (ag 8) (ai (eI 10) (ai (ag 2) (ai (ag 3) aD))))))) (aN (fN (ef (e2 iE (e2 bu (ag 9) (eI 0)) (eC (.str [98,97,99,107])))) (aN (fN (ef (e2 iE (bE dG (ai (ag 6) aD)) (eI 0))) uU bT) (aN (c5 (kQ bM (ag 7) (ai (ag 2) aD))) (be 2 (kQ ms (ag 6) aD)))) (fN (ef (e2 iE (e2 bu (ag 9) (eI 0)) (eC (.str [97,103,97,105,110])))) (aN (fN (ef (e2 iE (bE dG (ai (ag 7) aD)) (eI 0))) uU bT) (aN (c5 (kQ bM (ag 6) (ai (ag 2) aD))) (be 2 (kQ ms (ag 7) aD)))) (aN (be 10 (cx 2 pT (ai (ag 2) (ai (ag 9) aD)))) (aN (fN (ef (e2 DU (bE dG (ai (ag 10) aD)) (eI 100))) uU bT) (aN (c5 (kQ bM (ag 6) (ai (ag 2) aD))) (aN (be 7 (jX aD)) (be 2 (ag 10)))))))) (fN (Ew (ef (gA (cx 2 mD (ai (ag 4) (ai (ag 9) aD))))) (DR (ef (cx 4 tO (ai (ag 4) (ai (ag 1) (ai (ag 2) (ai (e2 cK (ag 5) (ag 8)) aD)))))))) (cU (eC (.bl false))) bT)))
def Go(M:Mc)(ns:List Int)(pool:List Nat)(turn:Int)(L P i:Nat)(r:RS):Prop:=
 ∃(t:MT) (a b Q k:Nat) (sd tk:List Dd) (o8 o9 o10:Option W) (z2:List ao),(r=.nx (lR M t pool L turn P Q o8 o9 o10) z2\/r=.ct (lR M t pool L turn P Q o8 o9 o10) z2)/\Lv M ns L a b P Q t k sd tk i z2
theorem Lv.up{ns:List Int}{P Q i j:Nat}(h:Lv M ns L a b P Q t k sd tk i z)(hj:i<=j):Lv M ns L a b P Q t k sd tk j z:={ h with ln:=aM h.ln hj }
theorem Ej(hM:lK M n)(hn:1<=n){ns:List Int}{pool:List Nat}{turn:Int}{P Q i:Nat}{o9 o10:Option W}(hv:Lv M ns L a b P Q t k sd tk i z)(hi:i<100)(hp:mC [.loc 0,.int (i:Nat),.int 10,bG t.po,.str pool] z=.ok Pn.back.w z):Go M ns pool turn L P (i+1) (lB (lR M t pool L turn P Q (iO (i:Nat)) o9 o10) z):=by
 have e1:be 9 (cx 5 mC (ai (ag 0) (ai (ag 8) (ai (eI 10) (ai (ag 2) (ai (ag 3) aD)))))) (lR M t pool L turn P Q (iO (i:Nat)) o9 o10) z=.nx (lR M t pool L turn P Q (iO (i:Nat)) (some Pn.back.w) o10) z:=bg (cz (aw kv (aw kv (aw bR (aw kv kn)))) hp rfl)
 have pP:=hv.pP
 have pQ:=hv.pQ
 have hln:=hv.ln
 cases sd with
 |nil=>exact⟨t,a,b,Q,k,[],tk,_,_,_,z,.inr (cn e1 (sV (cQ (aZ (bA kx bR (dH rfl))) (sV (cQ (aZ (bA (cu kn (l6 (b_ pP))) bR (fm rfl))) rfl))))),hv.up (by omega)⟩
 |cons d sd=>
  rw[bd]at hln
  obtain⟨c1,c2⟩:=hv.cs
  subst c1
  rw[bv,a8]at pP
  have pP2:(z.set Q (.lst (tk.reverse.map (fun d=>bG d.b.po)++[bG d.b.po])))[P]?=some (.lst (sd.reverse.map (fun d=>bG d.a.po)++[bG d.a.po])):=by rw[bC (Ne.symm hv.nP.2.2.2)];exact pP
  have hl0:∀x:List W,x.length=sd.length+1->((x.length:Int)==0)=false:=fun x hx=>by rw[bj];omega
  have hk1:n5 M L a b d.b k (d::sd) tk ((z.set Q (.lst (tk.reverse.map (fun d=>bG d.b.po)++[bG d.b.po]))).set P (.lst (sd.reverse.map fun d=>bG d.a.po))):=hv.ks.fr (by rw[bC hv.nP.1,bC hv.nQ.1]) (by rw[bC hv.nP.2.1,bC hv.nQ.2.1]) (by rw[bC hv.nP.2.2.1,bC hv.nQ.2.2])
  obtain⟨z2,e2',hk2,h3,hzl⟩:=JI hM hn (hv.os d bB).1 hk1 (by omega)
  have oD:=hv.os d bB
  have qb:((z.set Q (.lst (tk.reverse.map (fun d=>bG d.b.po)++[bG d.b.po]))).set P (.lst (sd.reverse.map fun d=>bG d.a.po)))[Q]?=some (.lst (tk.reverse.map (fun d=>bG d.b.po)++[bG d.b.po])):=by rw[bC hv.nP.2.2.2];exact dO pQ
  have qa:((z.set Q (.lst (tk.reverse.map (fun d=>bG d.b.po)++[bG d.b.po]))).set P (.lst (sd.reverse.map fun d=>bG d.a.po)))[P]?=some (.lst (sd.reverse.map fun d=>bG d.a.po)):=dO pP2
  have q0:((z.set Q (.lst (tk.reverse.map (fun d=>bG d.b.po)++[bG d.b.po]))).set P (.lst (sd.reverse.map fun d=>bG d.a.po)))[0]?=some (.ro (ns.map W.int)):=by rw[bC (Ne.symm hv.n0.2.2.2.1),bC (Ne.symm hv.n0.2.2.2.2)];exact hv.r0
  have f:=Ch hM hn (pool:=pool) (turn:=turn) (P:=P) (Q:=Q) (i:=i) (o10:=o10) (Dd.ok_a oD.1) (JO e2' hk1.ob (mF hzl)) hk2
  have eB:lB (lR M d.b pool L turn P Q (iO (i:Nat)) o9 o10) z=.nx (lR M d.a pool L turn P Q (iO (i:Nat)) (some Pn.back.w) o10) z2:=cn e1 (cn (cQ (aZ (bA kx bR (dH rfl))) (cn (cH (aZ (bA (cu kn (l6 (b_ pP))) bR (fm (hl0 _ (by simp))))) eM) (cn (d9 (hZ kv (df pQ) kn (l_ pQ (by simp;omega)))) (bg (hZ kv (df pP2) aX (vb pP2)))))) f)
  refine⟨d.a,a,b,Q,d.tn.ct M,sd,d::tk,_,_,_,z2,.inl eB,?_⟩
  exact⟨hk2,(h3.2 0 (fC q0) hv.n0.1 hv.n0.2.1 hv.n0.2.2.1).trans q0,(h3.2 P (fC qa) hv.nP.1 hv.nP.2.1 hv.nP.2.2.1).trans qa,(h3.2 Q (fC qb) hv.nQ.1 hv.nQ.2.1 hv.nQ.2.2).trans (qb.trans (by rw[bv,a8];rfl)),c2,⟨rfl,hv.ct⟩,oD.2.1,Dd.ok_a oD.1,fun x hx=>hv.os x (aR _ hx),fun x hx=>by
   rcases aS.mp hx with rfl|hx
   ·exact oD
   ·exact hv.ot x hx,by rw[bd];omega,hv.n0,hv.nP,hv.nQ⟩
theorem Ci(hM:lK M n)(hn:1<=n){ns:List Int}{pool:List Nat}{turn:Int}{P Q i:Nat}{o9 o10:Option W}(hv:Lv M ns L a b P Q t k sd tk i z)(hi:i<100)(hp:mC [.loc 0,.int (i:Nat),.int 10,bG t.po,.str pool] z=.ok Pn.again.w z):Go M ns pool turn L P (i+1) (lB (lR M t pool L turn P Q (iO (i:Nat)) o9 o10) z):=by
 have e1:be 9 (cx 5 mC (ai (ag 0) (ai (ag 8) (ai (eI 10) (ai (ag 2) (ai (ag 3) aD)))))) (lR M t pool L turn P Q (iO (i:Nat)) o9 o10) z=.nx (lR M t pool L turn P Q (iO (i:Nat)) (some Pn.again.w) o10) z:=bg (cz (aw kv (aw kv (aw bR (aw kv kn)))) hp rfl)
 have pP:=hv.pP
 have pQ:=hv.pQ
 have hln:=hv.ln
 cases tk with
 |nil=>exact⟨t,a,b,Q,k,sd,[],_,_,_,z,.inr (cn e1 (sV (cH (aZ (bA kx bR (dH rfl))) (cQ (aZ (bA kx bR (dH rfl))) (sV (cQ (aZ (bA (cu kn (l6 (b_ pQ))) bR (fm rfl))) rfl)))))),hv.up (by omega)⟩
 |cons d tk=>
  rw[bd]at hln
  obtain⟨c1,c2⟩:=hv.ct
  subst c1
  rw[bv,a8]at pQ
  have pQ2:(z.set P (.lst (sd.reverse.map (fun d=>bG d.a.po)++[bG d.a.po])))[Q]?=some (.lst (tk.reverse.map (fun d=>bG d.b.po)++[bG d.b.po])):=by rw[bC hv.nP.2.2.2];exact pQ
  have hl0:∀x:List W,x.length=tk.length+1->((x.length:Int)==0)=false:=fun x hx=>by rw[bj];omega
  have hk1:n5 M L a b d.a k sd (d::tk) ((z.set P (.lst (sd.reverse.map (fun d=>bG d.a.po)++[bG d.a.po]))).set Q (.lst (tk.reverse.map fun d=>bG d.b.po))):=hv.ks.fr (by rw[bC hv.nQ.1,bC hv.nP.1]) (by rw[bC hv.nQ.2.1,bC hv.nP.2.1]) (by rw[bC hv.nQ.2.2,bC hv.nP.2.2.1])
  have oD:=hv.ot d bB
  obtain⟨z2,e2',hk2,h3,hzl⟩:=Hf hM hn oD.1 hk1 (by omega)
  have qb:((z.set P (.lst (sd.reverse.map (fun d=>bG d.a.po)++[bG d.a.po]))).set Q (.lst (tk.reverse.map fun d=>bG d.b.po)))[P]?=some (.lst (sd.reverse.map (fun d=>bG d.a.po)++[bG d.a.po])):=by rw[bC (Ne.symm hv.nP.2.2.2)];exact dO pP
  have qa:((z.set P (.lst (sd.reverse.map (fun d=>bG d.a.po)++[bG d.a.po]))).set Q (.lst (tk.reverse.map fun d=>bG d.b.po)))[Q]?=some (.lst (tk.reverse.map fun d=>bG d.b.po)):=dO pQ2
  have q0:((z.set P (.lst (sd.reverse.map (fun d=>bG d.a.po)++[bG d.a.po]))).set Q (.lst (tk.reverse.map fun d=>bG d.b.po)))[0]?=some (.ro (ns.map W.int)):=by rw[bC (Ne.symm hv.n0.2.2.2.2),bC (Ne.symm hv.n0.2.2.2.1)];exact hv.r0
  have f:=Ch hM hn (pool:=pool) (turn:=turn) (P:=P) (Q:=Q) (i:=i) (o10:=o10) (Dd.ok_b oD.1) (Hi e2' hk1.ob (mF hzl)) hk2
  have eB:lB (lR M d.a pool L turn P Q (iO (i:Nat)) o9 o10) z=.nx (lR M d.b pool L turn P Q (iO (i:Nat)) (some Pn.again.w) o10) z2:=cn e1 (cn (cH (aZ (bA kx bR (dH rfl))) (cQ (aZ (bA kx bR (dH rfl))) (cn (cH (aZ (bA (cu kn (l6 (b_ pQ))) bR (fm (hl0 _ (by simp))))) eM) (cn (d9 (hZ kv (df pP) kn (l_ pP (by simp;omega)))) (bg (hZ kv (df pQ2) aX (vb pQ2))))))) f)
  refine⟨d.b,a,b,Q,d.ct M,d::sd,tk,_,_,_,z2,.inl eB,?_⟩
  exact⟨hk2,(h3.2 0 (fC q0) hv.n0.1 hv.n0.2.1 hv.n0.2.2.1).trans q0,(h3.2 P (fC qb) hv.nP.1 hv.nP.2.1 hv.nP.2.2.1).trans (qb.trans (by rw[bv,a8];rfl)),(h3.2 Q (fC qa) hv.nQ.1 hv.nQ.2.1 hv.nQ.2.2).trans qa,⟨rfl,hv.cs⟩,c2,oD.2.2,Dd.ok_b oD.1,fun x hx=>by
   rcases aS.mp hx with rfl|hx
   ·exact oD
   ·exact hv.os x hx,fun x hx=>hv.ot x (aR _ hx),by rw[bd];omega,hv.n0,hv.nP,hv.nQ⟩
theorem sX(hM:lK M n)(hn:1<=n){ns:List Int}{pool:List Nat}{turn:Int}{P Q i:Nat}{o9 o10:Option W}(hv:Lv M ns L a b P Q t k sd tk i z)(hi:i<100){p:Pn}(hp:mC [.loc 0,.int (i:Nat),.int 10,bG t.po,.str pool] z=.ok p.w z){s:List Nat}{ws:List W}(hw:p.w=.tup (.str s::ws))(n1:(s==[98,97,99,107])=false)(n2:(s==[97,103,97,105,110])=false)
  {t2:MT} (g2:yT t2) (hc:pT [bG t.po,p.w] z=.ok (bG t2.po) z) (hd:t2.size<=100->∀z1,n5 M L a b t k sd tk z1->∃d z2,mD [.loc L,p.w] z1=.ok .non z2/\d.ok/\d.a=t/\d.b=t2/\n5 M L a z1.length t2 (d.ct M) (d::sd) [] z2/\K3 L a b z1 z2):Go M ns pool turn L P (i+1) (lB (lR M t pool L turn P Q (iO (i:Nat)) o9 o10) z):=by
 have e1:be 9 (cx 5 mC (ai (ag 0) (ai (ag 8) (ai (eI 10) (ai (ag 2) (ai (ag 3) aD)))))) (lR M t pool L turn P Q (iO (i:Nat)) o9 o10) z=.nx (lR M t pool L turn P Q (iO (i:Nat)) (some p.w) o10) z:=bg (cz (aw kv (aw kv (aw bR (aw kv kn)))) hp rfl)
 have pP:=hv.pP
 have pQ:=hv.pQ
 have hln:=hv.ln
 have ix:∀z:List ao,bu p.w (.int 0) z=.ok (.str s) z:=fun z=>by rw[hw];exact lH (f6 (q:=0) rfl)
 have e10:be 10 (cx 2 pT (ai (ag 2) (ai (ag 9) aD))) (lR M t pool L turn P Q (iO (i:Nat)) (some p.w) o10) z=.nx (lR M t pool L turn P Q (iO (i:Nat)) (some p.w) (some (bG t2.po))) z:=bg (cz (aw kv kn) hc rfl)
 have hl2:dG [bG t2.po] z=.ok (.int (t2.size:Nat)) z:=by have:=gu t2.po z;rwa[MT.po_len]at this
 by_cases h:t2.size<=100
 ·have lP:=fC pP
  have lQ:=fC pQ
  have lL:=fC hv.ks.ob
  have lA:=fC hv.ks.s
  have lB':=fC hv.ks.u
  have l0:=fC hv.r0
  have zl:(z.set P (.lst (sd.reverse.map (fun d=>bG d.a.po)++[bG t.po]))).length=z.length:=by simp
  have hk1:n5 M L a b t k sd tk ((z.set P (.lst (sd.reverse.map (fun d=>bG d.a.po)++[bG t.po])))++[.lst []]):=hv.ks.fr (by rw[aK (by omega),bC hv.nP.1]) (by rw[aK (by omega),bC hv.nP.2.1]) (by rw[aK (by omega),bC hv.nP.2.2.1])
  obtain⟨d,z2,ed,dk,da,db,hk2,h3⟩:=hd h _ hk1
  have f:=Ch hM hn (pool:=pool) (turn:=turn) (P:=P) (Q:=z.length) (i:=i) (o10:=some (bG t2.po)) h ed hk2
  have eB:lB (lR M t pool L turn P Q (iO (i:Nat)) o9 o10) z=.nx (lR M t2 pool L turn P z.length (iO (i:Nat)) (some p.w) (some (bG t2.po))) z2:=by
   refine cn e1 (cn (cH (aZ (bA (bA kv bR (ix _)) bR (dH n1))) (cH (aZ (bA (bA kv bR (ix _)) bR (dH n2))) (cn e10 (cn (cH (aZ (bA (cu kn hl2) bR (lG (ba (by omega))))) eM) (cn (d9 (hZ kv (df pP) kn (l_ pP (by simp;omega)))) (cn (bg (nz aX (au rfl))) (bg kv))))))) ?_)
   rw[zl]
   exact f
  have q0:((z.set P (.lst (sd.reverse.map (fun d=>bG d.a.po)++[bG t.po])))++[.lst []])[0]?=some (.ro (ns.map W.int)):=by rw[aK (by omega),bC (Ne.symm hv.n0.2.2.2.1)];exact hv.r0
  have qP:((z.set P (.lst (sd.reverse.map (fun d=>bG d.a.po)++[bG t.po])))++[.lst []])[P]?=some (.lst (sd.reverse.map (fun d=>bG d.a.po)++[bG t.po])):=by rw[aK (by omega)];exact dO pP
  have qQ:((z.set P (.lst (sd.reverse.map (fun d=>bG d.a.po)++[bG t.po])))++[.lst []])[z.length]?=some (.lst []):=by rw[<- zl];exact dm
  have zl2:((z.set P (.lst (sd.reverse.map (fun d=>bG d.a.po)++[bG t.po])))++[ao.lst []]).length=z.length+1:=by simp
  rw[zl2]at hk2
  refine⟨t2,a,z.length+1,z.length,d.ct M,d::sd,[],_,_,_,z2,.inl eB,?_⟩
  exact⟨hk2,(h3.2 0 (fC q0) hv.n0.1 hv.n0.2.1 hv.n0.2.2.1).trans q0,(h3.2 P (fC qP) hv.nP.1 hv.nP.2.1 hv.nP.2.2.1).trans (qP.trans (by rw[bv,a8,<- da];rfl)),(h3.2 z.length (by omega) (by omega) (by omega) (by omega)).trans qQ,⟨db,by rw[da];exact hv.cs⟩,trivial,g2,h,fun x hx=>by
   rcases aS.mp hx with rfl|hx
   ·exact⟨dk,by rw[da];exact hv.gd,by rw[db];exact g2⟩
   ·exact hv.os x hx,fun x hx=>(by cases hx),by rw[bd,nN];omega,⟨hv.n0.1,hv.n0.2.1,by omega,hv.n0.2.2.2.1,by omega⟩,⟨hv.nP.1,hv.nP.2.1,by omega,by omega⟩,⟨by omega,by omega,by omega⟩⟩
 ·have eB:lB (lR M t pool L turn P Q (iO (i:Nat)) o9 o10) z=.ct (lR M t pool L turn P Q (iO (i:Nat)) (some p.w) (some (bG t2.po))) z:=cn e1 (sV (cH (aZ (bA (bA kv bR (ix _)) bR (dH n1))) (cH (aZ (bA (bA kv bR (ix _)) bR (dH n2))) (cn e10 (sV (cQ (aZ (bA (cu kn hl2) bR (lG (bY (by omega))))) rfl))))))
  exact⟨t,a,b,Q,k,sd,tk,_,_,_,z,.inr eB,hv.up (by omega)⟩
theorem JP(hM:lK M n)(hn:1<=n){ns:List Int}{pool:List Nat}(pE:pool.length=4)(yU:∀d∈pool,d∈LL)(Ld:pool.Nodup){turn:Int}{P Q i:Nat}{o9 o10:Option W}(hv:Lv M ns L a b P Q t k sd tk i z)(hi:i<100):Go M ns pool turn L P (i+1) (lB (lR M t pool L turn P Q (iO (i:Nat)) o9 o10) z):=by
 obtain⟨p,hp,e⟩:=Cg hv.r0 (i:Nat) (t:=t) pE yU Ld 10 (by decide)
 have e:mC [.loc 0,.int (i:Nat),.int 10,bG t.po,.str pool] z=.ok p.w z:=e
 have yV:=hv.sz
 have hln:=hv.ln
 have hgd:=hv.gd
 cases p with
 |back=>exact Ej hM hn hv hi e
 |again=>exact Ci hM hn hv hi e
 |wh x=>
  exact sX hM hn hv hi e (s:=[119,104,111,108,101]) rfl rfl rfl hp.2 (Cd _ x z) fun h z1 hk1=>by
   obtain⟨z2,e2',hk2,h3⟩:=He hM hn yV h hk1 (by omega)
   exact⟨.wh t x,z2,QD e2' hk1.ob (ji _ hk1 hk2),⟨yV,h⟩,rfl,rfl,hk2,h3⟩
 |mk B q c=>
  obtain⟨hq,hcL⟩:=hp
  obtain⟨C,l,r,m,rfl,rfl⟩:=uv t q hq
  obtain⟨g1,g2,gm⟩:=hgd.at
  have Dl:=Cf C l r m B c (by omega) gm z
  refine sX hM hn hv hi e (s:=if B then[112,117,116]else[116,97,107,101]) rfl (by cases B<;>rfl) (by cases B<;>rfl) (hgd.plug g1 g2 (by cases B;exact gm.take c;exact gm.put hcL)) Dl fun h z1 hk1=>?_
  cases B with
  |true=>
   obtain⟨z2,e2',hk2,h3⟩:=B' hM hn yV h gm.2 (by have:=gm.ln;omega) hcL hk1 (by omega)
   exact⟨.mk C l r m l r (gj (m++[c])) none,z2,K9 (B:=true) e2' hk1.ob (ji _ hk1 hk2),⟨yV,h,fun _=>rfl,fun _=>rfl⟩,rfl,rfl,hk2,h3⟩
  |false=>
   obtain⟨z2,e2',hk2,h3⟩:=AC hM hn yV h (by have:=gm.ln;omega) hk1 (by omega)
   exact⟨.mk C l r m l r (m.filter fun d=>d != c) none,z2,K9 (B:=false) e2' hk1.ob (ji _ hk1 hk2),⟨yV,h,fun _=>rfl,fun _=>rfl⟩,rfl,rfl,hk2,h3⟩
 |br q s x=>
  obtain⟨hq,hx,K'⟩:=hp
  obtain⟨C,l,r,m,rfl,rfl⟩:=uv t q hq
  obtain⟨g1,g2,gm⟩:=hgd.at
  have Dl:=Ce C l r x m s (by omega) (by omega) z
  refine sX hM hn hv hi e (s:=[98,114,97,110,99,104]) rfl rfl rfl (hgd.plug (by cases s;exact g1;exact K') (by cases s;exact K';exact g2) gm) Dl fun h z1 hk1=>?_
  obtain⟨z2,e2',hk2,h3⟩:=Ef hM hn yV (by omega) h hk1 (by omega)
  exact⟨.mk C l r m (if s then x else l) (if s then r else x) m (some s),z2,QC e2' hk1.ob (ji _ hk1 hk2),⟨yV,h,fun e=>by cases s<;>first|rfl|exact absurd rfl e,fun e=>by cases s<;>first|rfl|exact absurd rfl e⟩,rfl,rfl,hk2,h3⟩
end
theorem law_ok:Kc f_q42:=by
 intro ns SC
 suffices hh:kI (zH fun w bh=>w=.bl true) (K2 ([W.loc 0].map some++List.replicate (11-1) none) [.ro (ns.map W.int)]) by
  obtain⟨w,bh,e,rfl⟩:=hh
  exact⟨_,jf e⟩
 have h0:([ao.ro (ns.map W.int)]:List ao)[0]?=some (.ro (ns.map W.int)):=rfl
 have hl0:([ao.ro (ns.map W.int)]:List ao).length=1:=rfl
 generalize hs0:([ao.ro (ns.map W.int)]:List ao)=s0 at h0 hl0
 obtain⟨M,n,t,pool,hM,hn,hts,htg,pE,yU,Ld,es⟩:=Hh h0
 apply aC
 ·exact w6 (cz kn es rfl) rfl
 obtain⟨z1,ei,hk,AM⟩:=JJ hM hn (t:=t) (by omega) s0
 rw[hl0]at hk
 apply aC
 ·exact bg (NM (aw kv kn) rfl ei)
 rw[hl0]
 have r0:z1[0]?=some (.ro (ns.map W.int)):=pre_get AM h0
 obtain⟨c0,e0⟩:=pi r0 0
 obtain⟨turn,_,em⟩:=Al c0 0 600011 (by decide) z1
 apply aC
 ·exact bg (cz (aw (cz (aw kv (aw bR aX)) e0 rfl) (aw bR (aw bR aX))) em rfl)
 apply bw
 ·exact va (aZ (cz (aw kv (aw kv (aw kv kn))) (xg hM hn (by omega) hk turn) rfl)) rfl
 apply bJ
 apply aC
 ·exact bg (nz aX (au rfl))
 apply aC
 ·exact bg (nz aX (au rfl))
 have l1:=fC hk.u
 have pP:(z1++[ao.lst []]++[.lst []])[z1.length]?=some (.lst []):=c6 dm
 have pQ:(z1++[ao.lst []]++[.lst []])[(z1++[ao.lst []]).length]?=some (.lst []):=dm
 have lQ:(z1++[ao.lst []]).length=z1.length+1:=by simp
 have r0':(z1++[ao.lst []]++[.lst []])[0]?=some (.ro (ns.map W.int)):=c6 (c6 r0)
 rw[lQ]at pQ ⊢
 have hv:Lv M ns 1 2 3 z1.length (z1.length+1) t t.size [] [] 0 (z1++[ao.lst []]++[.lst []]):=⟨hk.app.app,r0',pP,pQ,trivial,trivial,htg,by omega,fun _ h=>(by cases h),fun _ h=>(by cases h),az _,⟨by omega,by omega,by omega,by omega,by omega⟩,⟨by omega,by omega,by omega,by omega⟩,⟨by omega,by omega,by omega⟩⟩
 generalize z1.length=P at *
 generalize z1++[ao.lst []]++[.lst []]=z at *
 have hrange:∃m:Nat,m<=59/\dC (ai (bE DW (ai (eI 59) (ai (bE Bv (ai (eI 3) (ai (e2 mP (bE dG (ai (ag 0) aD)) (eI 4)) aD))) aD))) aD) (lR M t pool 1 turn P (P+1) none none none) z=.ok (gq 0 m,none) z:=by
  have hln:=l6 (qV r0')
  have a1:ai (bE DW (ai (eI 59) (ai (bE Bv (ai (eI 3) (ai (e2 mP (bE dG (ai (ag 0) aD)) (eI 4)) aD))) aD))) aD (lR M t pool 1 turn P (P+1) none none none) z=.ok [.int (if (if ((ns.map W.int).length:Int)-4>3 then((ns.map W.int).length:Int)-4 else 3)<59 then(if ((ns.map W.int).length:Int)-4>3 then((ns.map W.int).length:Int)-4 else 3)else 59)] z:=
   aw (cu (aw bR (aw (cu (aw bR (aw (bA (cu kn hln) bR rfl) aX)) PB) aX)) rfl) aX
  generalize hq:(if (if ((ns.map W.int).length:Int)-4>3 then((ns.map W.int).length:Int)-4 else 3)<59 then(if ((ns.map W.int).length:Int)-4>3 then((ns.map W.int).length:Int)-4 else 3)else 59)=q at a1
  have hq1:0<=q/\q<=59:=by rw[<- hq];split<;>split<;>omega
  exact⟨q.toNat,by omega,jg a1 (by omega)⟩
 obtain⟨m,hm,er⟩:=hrange
 obtain⟨ρ2,cX,e2',t',a,b,Q,k,sd,tk,o8,o9,o10,rfl,hv2⟩:=xh (f:=jy 8) (body:=lB) (fun i ρ st=>∃t a b Q k sd tk o8 o9 o10,ρ=lR M t pool 1 turn P Q o8 o9 o10/\Lv M ns 1 a b P Q t k sd tk i st) (ws:=gq 0 m) (ρ:=lR M t pool 1 turn P (P+1) none none none) (st:=z) 0 ⟨t,2,3,P+1,t.size,[],[],none,none,none,rfl,hv⟩ fun i w ρ st hw hI=>by
  obtain⟨t',a,b,Q,k,sd,tk,o8,o9,o10,rfl,Rq⟩:=hI
  obtain⟨hi,rfl⟩:=jA hw
  rw[nq]at Rq ⊢
  obtain⟨t2,a2,b2,Q2,k2,sd2,tb2,p8,p9,p10,z2,er2,hv2⟩:=JP (turn:=turn) (o9:=o9) (o10:=o10) hM hn pE yU Ld Rq (by omega)
  refine⟨lR M t' pool 1 turn P Q (iO (i:Nat)) o9 o10,lR M t2 pool 1 turn P Q2 p8 p9 p10,z2,by rw[rP];rfl,er2,t2,a2,b2,Q2,k2,sd2,tb2,p8,p9,p10,rfl,hv2⟩
 apply aC
 ·exact(C5 er).trans e2'
 apply bN
 ·exact bR
 ·exact⟨_,_,rfl,rfl⟩
theorem all_mk{l:PySem.W.OpenLaw}{w:World}{K:Frag}{h:Heap}{mg:Str->Option Value}{fa:Addr}(X:K.In h)(G:h.Ns mainGlobals mg)(TD:mg "law"=some (.ref fa))
  {Ct:Addr} {NW HI:Option Addr} {NR:Array (Option Value)} {NQ HR HD HF Cy HJ:Value} {eU:Addr} {s9:Addr} {qp:Addr} {ma:Addr} {wf:Tok}
  (Cs:DefIn K "in_order" MI)
  (AF:DefIn K "letter_of" MJ)
  (Cp:DefIn K "has_left" MK)
  (AR:DefIn K "has_right" ML)
  (Cj:DefIn K "links_of" MM)
  (HA:DefIn K "ups_of" MN)
  (Em:DefIn K "up_from" MO)
  (Cq:DefIn K "sizes_of" MP)
  (wq:DefIn K "check_place" MQ)
  (yP:DefIn K "check_size" FV)
  (Eo:DefIn K "part_at" FW)
  (wn:DefIn K "branches_at" FX)
  (Ck:DefIn K "with_top" FY)
  (yO:DefIn K "branch_put" FZ)
  (yG:DefIn K "room_below" F0)
  (Er:DefIn K "room_at" F1)
  (Cn:DefIn K "rooms_of" F3)
  (HG:DefIn K "turned" F4)
  (yD:DefIn K "with_marks" F6)
  (vH:DefIn K "branch_rooms" F7)
  (Ep:DefIn K "climbed" F8)
  (AK:DefIn K "_law_cell" F9)
  (yF:DefIn K "_law_mixed" F_)
  (yQ:DefIn K "_law_draws" Ga)
  (AU:DefIn K "_law_same" Gb)
  (AH:DefIn K "_law_pool" Gf)
  (yE:DefIn K "_law_marks" Gh)
  (AL:DefIn K "_law_tree" Gi)
  (yL:DefIn K "_law_links" Gj)
  (vI:DefIn K "_law_machine" Gk)
  (wl:DefIn K "_law_letter" Gm)
  (Co:DefIn K "_law_run" Gn)
  (AG:DefIn K "_law_lets" Gp)
  (yS:DefIn K "_law_sizes" Gq)
  (wu:DefIn K "_law_bounds" Gs)
  (ue:DefIn K "_law_branched" Gu)
  (yI:DefIn K "_law_start" Gv)
  (vG:DefIn K "_law_planned" Gw)
  (vN:DefIn K "_law_changed" Gx)
  (yM:DefIn K "_law_doing" Gy)
  (wg:DefIn K "_law_stands" Gz)
  (Lc:nsIn K mainGlobals "law"=some (some (.ref Ct)))
  (QM:K.lookup Ct=some ⟨NQ,NW,.func (fnOf "law" "law" (hW rd) (gp rd) (aP rd) .none HR HD HF HI Cy HJ),NR⟩)
  (Ek:codeIn K Cy "law"=true)
  (Q0:keepIn K (.ref Ct)=true)
  (jk:nsIn K mainGlobals "Kept"=some (some (.ref eU)))
  (cl_Kept:L2.Cls K eU)
  (uc:findIn K (.ref eU) "machine"=some none)
  (yK:findIn K (.ref eU) "many"=some none)
  (wj:findIn K (.ref eU) "rooms"=some none)
  (s_:findIn K (.ref eU) "standing"=some none)
  (qt:findIn K (.ref eU) "taken_back"=some none)
  (yJ:findIn K (.ref eU) "tree"=some none)
  (JT:makesIn K eU=true)
  (JR:keepIn K (.ref eU)=true)
  (dm_Kept___init__:DefM K eU "Kept.__init__" "__init__" j6)
  (dm_Kept_carry_out:DefM K eU "Kept.carry_out" "carry_out" jB)
  (dm_Kept_do_deed:DefM K eU "Kept.do_deed" "do_deed" kR)
  (dm_Kept_mark_deed:DefM K eU "Kept.mark_deed" "mark_deed" jC)
  (dm_Kept_put:DefM K eU "Kept.put" "put" qk)
  (dm_Kept_take:DefM K eU "Kept.take" "take" ou)
  (dm_Kept_branch:DefM K eU "Kept.branch" "branch" l7)
  (dm_Kept_whole:DefM K eU "Kept.whole" "whole" mU)
  (dm_Kept_back:DefM K eU "Kept.back" "back" oz)
  (dm_Kept_again:DefM K eU "Kept.again" "again" mV)
  (dm_Kept_tree_now:DefM K eU "Kept.tree_now" "tree_now" j7)
  (dm_Kept_rooms_now:DefM K eU "Kept.rooms_now" "rooms_now" jD)
  (dm_Kept_lets_now:DefM K eU "Kept.lets_now" "lets_now" j8)
  (Es:nsIn K mainGlobals "NoPlace"=some (some (.ref s9)))
  (Cv:nsIn K mainGlobals "TooGreat"=some (some (.ref qp)))
  (wt:nsIn K mainGlobals "NothingDone"=some (some (.ref ma)))
  (x_NoPlace:excIn K s9 Jg C3=true)
  (x_TooGreat:excIn K qp Jg C3=true)
  (x_NothingDone:excIn K ma Jg C3=true)
  (NZ:nsIn K mainGlobals "bool"=some none)
  (AT:nsIn K mainGlobals "enumerate"=some none)
  (QR:nsIn K mainGlobals "int"=some none)
  (yR:nsIn K mainGlobals "isinstance"=some none)
  (QF:nsIn K mainGlobals "len"=some none)
  (N3:nsIn K mainGlobals "list"=some none)
  (QP:nsIn K mainGlobals "max"=some none)
  (QN:nsIn K mainGlobals "min"=some none)
  (JU:nsIn K mainGlobals "range"=some none)
  (QV:nsIn K mainGlobals "set"=some none)
  (Hw:nsIn K mainGlobals "sorted"=some none)
  (QO:nsIn K mainGlobals "str"=some none)
  (JV:nsIn K mainGlobals "tuple"=some none)
  (QX:nsIn K mainGlobals "zip"=some none)
  (wm:nsIn K mainGlobals "MOST_PLACES"=some (some (.int 100 wf))) :
  ∃fd:FuncData,fd.scope.names.lookup ("_law_script":Str)=some .local/\(∀(s:Shared) (v:Value),BindsTo s fd ⟨[v],[]⟩ [("_law_script",v)])/\∀base:Heap,K.In base->base.Ns mainGlobals mg->cV l.prog w K mg base (hV l.prog w) 42 fa fd GA (iy K mg 1 f_q42):=by
 have e:=TD.symm.trans (mg_of X G Lc)
 cases e
 obtain⟨_,_,F_q1,m_q1⟩:=Cs.fn X G
 obtain⟨_,_,F_q2,m_q2⟩:=AF.fn X G
 obtain⟨_,_,F_q3,m_q3⟩:=Cp.fn X G
 obtain⟨_,_,F_q4,m_q4⟩:=AR.fn X G
 obtain⟨_,_,F_q5,m_q5⟩:=Cj.fn X G
 obtain⟨_,_,F_q6,m_q6⟩:=HA.fn X G
 obtain⟨_,_,F_q7,m_q7⟩:=Em.fn X G
 obtain⟨_,_,F_q8,m_q8⟩:=Cq.fn X G
 obtain⟨_,_,F_q9,m_q9⟩:=wq.fn X G
 obtain⟨_,_,F_q10,m_q10⟩:=yP.fn X G
 obtain⟨_,_,F_q11,m_q11⟩:=Eo.fn X G
 obtain⟨_,_,F_q12,m_q12⟩:=wn.fn X G
 obtain⟨_,_,F_q13,m_q13⟩:=Ck.fn X G
 obtain⟨_,_,F_q14,m_q14⟩:=yO.fn X G
 obtain⟨_,_,F_q15,m_q15⟩:=yG.fn X G
 obtain⟨_,_,F_q16,m_q16⟩:=Er.fn X G
 obtain⟨_,_,F_q17,m_q17⟩:=Cn.fn X G
 obtain⟨_,_,F_q18,m_q18⟩:=HG.fn X G
 obtain⟨_,_,F_q19,m_q19⟩:=yD.fn X G
 obtain⟨_,_,F_q20,m_q20⟩:=vH.fn X G
 obtain⟨_,_,F_q21,m_q21⟩:=Ep.fn X G
 obtain⟨_,_,F_q22,m_q22⟩:=AK.fn X G
 obtain⟨_,_,F_q23,m_q23⟩:=yF.fn X G
 obtain⟨_,_,F_q24,m_q24⟩:=yQ.fn X G
 obtain⟨_,_,xk,AO⟩:=AU.fn X G
 obtain⟨_,_,F_q26,m_q26⟩:=AH.fn X G
 obtain⟨_,_,F_q27,m_q27⟩:=yE.fn X G
 obtain⟨_,_,F_q28,m_q28⟩:=AL.fn X G
 obtain⟨_,_,F_q29,m_q29⟩:=yL.fn X G
 obtain⟨_,_,F_q30,m_q30⟩:=vI.fn X G
 obtain⟨_,_,F_q31,m_q31⟩:=wl.fn X G
 obtain⟨_,_,F_q32,m_q32⟩:=Co.fn X G
 obtain⟨_,_,F_q33,m_q33⟩:=AG.fn X G
 obtain⟨_,_,F_q34,m_q34⟩:=yS.fn X G
 obtain⟨_,_,F_q35,m_q35⟩:=wu.fn X G
 obtain⟨_,_,F_q36,m_q36⟩:=ue.fn X G
 obtain⟨_,_,F_q37,m_q37⟩:=yI.fn X G
 obtain⟨_,_,F_q38,m_q38⟩:=vG.fn X G
 obtain⟨_,_,F_q39,m_q39⟩:=vN.fn X G
 obtain⟨_,_,F_q40,m_q40⟩:=yM.fn X G
 obtain⟨_,_,F_q41,m_q41⟩:=wg.fn X G
 have F_q42:=xC (st:=rd) QM Ek Q0
 have m_q42:=mg_of X G Lc
 have B:Bl mg:=⟨mg_none_of X G NZ,mg_none_of X G AT,mg_none_of X G QR,mg_none_of X G yR,mg_none_of X G QF,mg_none_of X G N3,mg_none_of X G QP,mg_none_of X G QN,mg_none_of X G JU,mg_none_of X G QV,mg_none_of X G Hw,mg_none_of X G QO,mg_none_of X G JV,mg_none_of X G QX⟩
 have C:Cls K mg:=⟨⟨s9,mg_of X G Es,x_NoPlace⟩,⟨qp,mg_of X G Cv,x_TooGreat⟩,⟨ma,mg_of X G wt,x_NothingDone⟩⟩
 have O:Ow K mg:=⟨⟨eU,mg_of X G jk,cl_Kept,fun f hf=>by simp only[aS,gb,oU]at hf;rcases hf with rfl|rfl|rfl|rfl|rfl|rfl;(· exact uc);(· exact yK);(· exact wj);(· exact s_);(· exact qt);(· exact yJ)⟩⟩
 have Gg:Gc K mg:=⟨⟨_,.int 100,mg_of X G wm,⟨_,rfl⟩,fun μ H=>.int⟩⟩
 refine⟨fnOf "law" "law" (hW rd) (gp rd) (aP rd) .none HR HD HF HI Cy HJ,rfl,fun s v=>.of_eq rfl,fun base _ _=>?_⟩
 have NU:bV l.prog w K mg base 1 "in_order" 1 GB:=cL F_q1 m_q1 (P0 F_q1 B)
 have NX:bV l.prog w K mg base 1 "letter_of" 2 GC:=cL F_q2 m_q2 (P2 F_q2)
 have NS:bV l.prog w K mg base 1 "has_left" 1 ym:=cL F_q3 m_q3 (P3 F_q3)
 have En:bV l.prog w K mg base 1 "has_right" 1 vn:=cL F_q4 m_q4 (P4 F_q4)
 have t_:bV l.prog w K mg base 2 "links_of" 1 vo:=cL F_q5 m_q5 (P6 F_q5 B  NS En)
 have NT:bV l.prog w K mg base 3 "ups_of" 1 GD:=cL F_q6 m_q6 (P7 F_q6 B  t_)
 have N0:bV l.prog w K mg base 1 "up_from" 2 D7:=cL F_q7 m_q7 (P8 F_q7)
 have El:bV l.prog w K mg base 3 "sizes_of" 1 BU:=cL F_q8 m_q8 (P_ F_q8 B  t_)
 have yH:bV l.prog w K mg base 1 "check_place" 2 yn:=cL F_q9 m_q9 (Qa F_q9 B C)
 have Hs:bV l.prog w K mg base 1 "check_size" 1 wX:=cL F_q10 m_q10 (M2 F_q10 Gg C)
 have Hz:bV l.prog w K mg base 4 "part_at" 2 zW:=cL F_q11 m_q11 (M3 F_q11   yH El)
 have vL:bV l.prog w K mg base 5 "branches_at" 2 pS:=cL F_q12 m_q12 (M4 F_q12 B  En Hz El)
 have HH:bV l.prog w K mg base 1 "with_top" 3 zX:=cL F_q13 m_q13 (M5 F_q13 B)
 have Hq:bV l.prog w K mg base 6 "branch_put" 4 zY:=cL F_q14 m_q14 (M6 F_q14 B  vL Hs HH)
 have Dn:bV l.prog w K mg base 1 "room_below" 2 wY:=cL F_q15 m_q15 (M7 F_q15)
 have xj:bV l.prog w K mg base 2 "room_at" 4 re:=cL F_q16 m_q16 (M8 F_q16   NX Dn)
 have pU:bV l.prog w K mg base 3 "rooms_of" 2 nG:=cL F_q17 m_q17 (M9 F_q17 B  t_ xj)
 have Hm:bV l.prog w K mg base 1 "turned" 1 zZ:=cL F_q18 m_q18 (M_ F_q18)
 have Hy:bV l.prog w K mg base 1 "with_marks" 3 z9:=cL F_q19 m_q19 (M' F_q19)
 have Ht:bV l.prog w K mg base 6 "branch_rooms" 3 wZ:=cL F_q20 m_q20 (Na F_q20 B  vL pU)
 have Hj:bV l.prog w K mg base 4 "climbed" 4 z_:=cL F_q21 m_q21 (Nb F_q21 B  t_ xj N0 NT)
 have ke:Jr l.prog w K mg base 4 "Kept" 3 gE:=MB dm_Kept___init__ (mg_of X G jk) JT JR (fun F=>sM F B O pU)
 have dq:g_ l.prog w K mg base 7 "Kept" "carry_out" 2 dh:=j4 dm_Kept_carry_out (mg_of X G jk) cl_Kept (fun F=>rh F B O Ht Hj pU)
 have dR:g_ l.prog w K mg base 8 "Kept" "do_deed" 2 dN:=j4 dm_Kept_do_deed (mg_of X G jk) cl_Kept (fun F=>t6 F O dq)
 have eZ:g_ l.prog w K mg base 9 "Kept" "mark_deed" 3 eu:=j4 dm_Kept_mark_deed (mg_of X G jk) cl_Kept (fun F=>rj F O dR Hy)
 have qs:g_ l.prog w K mg base 10 "Kept" "put" 3 jF:=j4 dm_Kept_put (mg_of X G jk) cl_Kept (fun F=>Aa F O eZ yH NU)
 have oO:g_ l.prog w K mg base 10 "Kept" "take" 3 iY:=j4 dm_Kept_take (mg_of X G jk) cl_Kept (fun F=>yo F O eZ yH)
 have md:g_ l.prog w K mg base 9 "Kept" "branch" 4 gK:=j4 dm_Kept_branch (mg_of X G jk) cl_Kept (fun F=>vp F B O dR Hq)
 have m7:g_ l.prog w K mg base 9 "Kept" "whole" 2 ia:=j4 dm_Kept_whole (mg_of X G jk) cl_Kept (fun F=>wb F O dR)
 have oP:g_ l.prog w K mg base 8 "Kept" "back" 1 iZ:=j4 dm_Kept_back (mg_of X G jk) cl_Kept (fun F=>yq F B C O dq Hm)
 have m8:g_ l.prog w K mg base 8 "Kept" "again" 1 ib:=j4 dm_Kept_again (mg_of X G jk) cl_Kept (fun F=>wc F B C O dq)
 have j_:g_ l.prog w K mg base 1 "Kept" "tree_now" 1 gF:=j4 dm_Kept_tree_now (mg_of X G jk) cl_Kept (fun F=>sO F O)
 have jG:g_ l.prog w K mg base 1 "Kept" "rooms_now" 1 f7:=j4 dm_Kept_rooms_now (mg_of X G jk) cl_Kept (fun F=>rq F O)
 have j':g_ l.prog w K mg base 1 "Kept" "lets_now" 1 gG:=j4 dm_Kept_lets_now (mg_of X G jk) cl_Kept (fun F=>sQ F B O)
 have nI:bV l.prog w K mg base 1 "_law_cell" 2 lJ:=cL F_q22 m_q22 (Nc F_q22 B)
 have xn:bV l.prog w K mg base 1 "_law_mixed" 3 tN:=cL F_q23 m_q23 (Nd F_q23)
 have oN:bV l.prog w K mg base 2 "_law_draws" 3 kS:=cL F_q24 m_q24 (Nf F_q24 B  xn)
 have vK:=C_ (P:=l.prog) (w:=w) (base:=base) xk AO B  40
 have Hu:bV l.prog w K mg base 3 "_law_pool" 3 w4:=cL F_q26 m_q26 (Ng F_q26 B  oN)
 have Ho:bV l.prog w K mg base 1 "_law_marks" 2 Ad:=cL F_q27 m_q27 (Nh F_q27 B)
 have xo:bV l.prog w K mg base 2 "_law_tree" 2 vq:=cL F_q28 m_q28 (Ni F_q28 B  Ho)
 have HK:bV l.prog w K mg base 1 "_law_links" 1 Ae:=cL F_q29 m_q29 (Nj F_q29 B)
 have HS:bV l.prog w K mg base 1 "_law_machine" 4 Af:=cL F_q30 m_q30 (Nk F_q30 B)
 have HQ:bV l.prog w K mg base 1 "_law_letter" 2 w5:=cL F_q31 m_q31 (Nl F_q31 B)
 have xi:bV l.prog w K mg base 2 "_law_run" 2 vt:=cL F_q32 m_q32 (Nm F_q32   HQ)
 have HP:bV l.prog w K mg base 3 "_law_lets" 2 Ag:=cL F_q33 m_q33 (Nn F_q33 B  xi)
 have Hl:bV l.prog w K mg base 1 "_law_sizes" 1 Ah:=cL F_q34 m_q34 (No F_q34)
 have HN:bV l.prog w K mg base 2 "_law_bounds" 2 Ai:=cL F_q35 m_q35 (Np F_q35   HK Hl)
 have HC:bV l.prog w K mg base 3 "_law_branched" 4 Aj:=cL F_q36 m_q36 (Nq F_q36 B  HN)
 have HM:bV l.prog w K mg base 4 "_law_start" 1 Ak:=cL F_q37 m_q37 (Nr F_q37 B  nI oN HS Hu xo)
 have Hk:bV l.prog w K mg base 3 "_law_planned" 5 mC:=cL F_q38 m_q38 (Nt F_q38 B  nI oN xo)
 have Hv:bV l.prog w K mg base 4 "_law_changed" 2 pT:=cL F_q39 m_q39 (Nu F_q39 B  HC)
 have Hr:bV l.prog w K mg base 11 "_law_doing" 2 mD:=cL F_q40 m_q40 (Nv F_q40   m8 oP md qs oO m7)
 have Dk:bV l.prog w K mg base 41 "_law_stands" 4 tO:=cL F_q41 m_q41 (Nw F_q41 B  j' jG j_ HP xi vK)
 exact Nx F_q42 B  ke nI Hv Hr xn Hk Dk HM
end P
end
namespace PySem.W.Fast
def tw16322809387948670751:=0
def tw18263997352419608894:=0
def tw4598521036034589116:=0
def tw5617883372384627385:=0
def tw12122613584485043992:=0
def tw11156680029298091831:=0
def tw6831718231052554710:=0
def tw5403587559580265558:=0
def tw11139562787743627029:=0
def tw16215922843373668307:=0
def tw17966681922052117459:=0
def tw7833979947799192690:=0
def tw15424304684009208177:=0
def tw15755297853720718511:=0
def tw15402627742505654062:=0
def tw6074297091634021003:=0
def tw12650224750448371626:=0
def tw7993231437772092138:=0
def tw4984164165050042826:=0
def tw5988903356287549321:=0
def tw14398548982314335303:=0
def tw16271127598023724549:=0
def tw6746744309369380932:=0
def tw4911513255794043362:=0
def tw3211905999322749989:=0
def tw829933352005443078:=0
def tw3237021939677513608:=0
def tw7326721914620792601:=0
def tw4447652682542161724:=0
def tw9750478368713590718:=0
def tw2269748064644229188:=0
def tw10422054614450923826:=0
def tw14361121962438977346:=0
def tw10471030333224494793:=0
def tw7426606710269785871:=0
def tw5285165626663420419:=0
def tw6577649703267425070:=0
def tw431401593382053517:=0
def tw15187582881003809947:=0
def tw2340076213925735097:=0
def tw14714925728903041414:=0
def tw12601981137669273499:=0
def tw12922613760317173004:=0
def tw17958111662623169418:=0
def tw7899302638205328621:=0
def tw9982209601941640877:=0
def tw17195645123953551066:=0
def tw10370654473835521758:=0
def tw5975274681414797731:=0
def tw1182364888814477148:=0
def tw1696232849043587746:=0
def tw2303444621805373587:=0
def tw1182318831163734762:=0
def tw4100920956009226867:=0
def tw17432350555921803840:=0
def tw9564319338432344432:=0
def tw17141981806195936658:=0
def tw13254581697137779240:=0
def tw14205527616273194398:=0
def tw12770262207350627744:=0
def tw3506562609309897417:=0
def tw4713520597964108916:=0
def tw10208587090782837693:=0
def tw5533143947669213523:=0
def tw8619653892748893559:=0
def tw7902016962100052882:=0
def tw7123213561873962086:=0
def tw13196753919969855014:=0
def tw13911173782321194932:=0
def tw11403421141814847283:=0
def tw10253458557761811270:=0
def tw3648558825068309285:=0
def tw8022395208006361813:=0
def tw9533938623362410203:=0
def tw12718020201815764873:=0
def tw10974370068463242935:=0
def tw176155659671927855:=0
def tw4602817303986498661:=0
def tw3401878618220412672:=0
def tw18264389038369929372:=0
def tw8654397320694633821:=0
def tw9974857498381725676:=0
def tw2174911975612159504:=0
def tw12431841589997483728:=0
def tw997231236024592499:=0
def tw1142737943293164389:=0
def tw4506749328241912395:=0
def tw14015449307914204627:=0
def tw9816516542713489984:=0
def tw3263851015175947861:=0
def tw18404002515953699023:=0
def tw7696265382577457487:=0
def tw9002824550731801817:=0
def tw3880466457288175783:=0
def tw9698164874966331153:=0
def tw83250600218801823:=0
def tw9120007989930739479:=0
def tw17794902181476616501:=0
def tw1030839607303451286:=0
def tw4587784425677858956:=0
def tw2864608807626427874:=0
def tw217772330655695259:=0
def tw13672069747567443364:=0
def tw4383389570117676916:=0
def tw13751300010564338923:=0
def tw15397904559571521982:=0
def tw10293473824275435174:=0
def tw6889182655240203199:=0
def tw10453269223763637241:=0
def tw14758079483354494669:=0
def tw10992277638241818685:=0
def tw532852500080428333:=0
def tw18231154291357199928:=0
def tw3614214176796581240:=0
def tw6213541612071895358:=0
def tw15599455099589553353:=0
def tw8239127238110683588:=0
def tw10794858690976555318:=0
def tw15935138869312520007:=0
def tw12015786715534704459:=0
def tw9390595910515393359:=0
def tw5356700054704827243:=0
def tw3268094480012741564:=0
def tw18098088425723789426:=0
def tw18058417009910908230:=0
def tw4866936695290340766:=0
def tw17275528564040547635:=0
def tw1898324021457581316:=0
def tw14787067894034430191:=0
def tw1109655705787043032:=0
def tw10055744436995934357:=0
def tw16235148427150861915:=0
def tw9000165885370921621:=0
def tw14661724529636046576:=0
def tw13945024238629754349:=0
def tw9526026419336977464:=0
def tw7464098671820851840:=0
def tw12294035295705597178:=0
def tw15172438317316180524:=0
def tw12486565703606484759:=0
def tw2583265957889959959:=0
def tw279141008542618134:=0
def tw1512698998419688098:=0
def tw10246718506509303572:=0
def tw15402619529298680184:=0
def tw17197733325619876006:=0
def tw3792176964086642611:=0
def tw14213364289258461389:=0
def tw13630591303415949630:=0
def tw7046524399760207570:=0
def tw16286488775150919130:=0
def tw16730701321062894333:=0
def tw14023434165224092340:=0
def tw13029412010829436519:=0
def tw8525446022396325653:=0
def tw4133474975287494187:=0
def tw5164738790944863809:=0
def tw17504999940937756402:=0
def tw15574156798466169676:=0
def tw16339247245597454028:=0
def tw446295057289041258:=0
def tw4382745964698687055:=0
def tw15557212656042828860:=0
def tw12268250910658614103:=0
def tw7563641907634607079:=0
def tw5296465082135878051:=0
def tw1402646396205677664:=0
def tw11746301061521355662:=0
def tw9862371647263293390:=0
def tw3735076955811242575:=0
def tw4973022112121506944:=0
def tw11359408717695405159:=0
def tw10231422325689626170:=0
def tw15050175003046793365:=0
def tw12259769491708639715:=0
def tw18057966246825323332:=0
def tw4232675689479984286:=0
def tw15108612352094779163:=0
def tw3429623324038766799:=0
def tw15696305782102282597:=0
def tw3181120026829513974:=0
def tw15986931045191409760:=0
def tw13117144803383433896:=0
def tw790191495804104446:=0
def tw1259297526264463838:=0
def tw1284296145310284278:=0
def tw9496769923142092142:=0
def tw6382827360887075000:=0
def tw2349631229545339775:=0
def tw8608010641324444158:=0
def tw16684614763464858646:=0
def tw4715584854602450071:=0
def tw6930455892400319455:=0
def tw13389003014151162641:=0
def tw4155282587209956229:=0
def tw13202527046785231711:=0
def tw4106400734430599654:=0
def tw7326189232071033848:=0
def tw11786086346949704140:=0
def tw8831669303666437197:=0
def tw8991520170365039511:=0
def tw847855082232440950:=0
def tw12567362608951878532:=0
def tw13704740946445276462:=0
def tw12253205693902241785:=0
def tw4127432458779874635:=0
def tw3595660214624328543:=0
def tw15045004167472709391:=0
def tw12136366460421499608:=0
def tw8350367177194353141:=0
def tw17701680571042592267:=0
def tw2520827961192643907:=0
def tw8930369076563436220:=0
def tw12694541277387574191:=0
def tw7801118258428703249:=0
def tw11959865105634175743:=0
def tw8035016013085750233:=0
def tw3740188942080032945:=0
def tw5808289399162588490:=0
def tw2418134094854359079:=0
def tw16476873242201114838:=0
def tw12642325324308943020:=0
def tw4999384818446861632:=0
def tw18277785363215268266:=0
def tw11443167783692916460:=0
def tw94946229287093938:=0
def tw14361515119675699312:=0
def tw1336912617005798833:=0
def tw10299843688840763818:=0
def tw10831480271782849832:=0
def tw3059251466297041252:=0
def tw8210966267831535462:=0
def tw9915148664796199326:=0
def tw6333104936383395198:=0
def tw8002898638279740177:=0
def tw15048464376549507078:=0
def tw2478719322161986235:=0
def tw13209361630745234839:=0
def tw29405333504486072:=0
def tw11381676875603008872:=0
def tw5244207834812300016:=0
def tw7656248413507513194:=0
def tw7581248554194557352:=0
def tw14152805198701081408:=0
def tw10635474602052092955:=0
def tw13985854880747864658:=0
def tw4145553403678230238:=0
def tw364958864238635877:=0
def tw3407293846492154057:=0
def tw2789999123935669125:=0
def tw15964352915539977058:=0
def tw9650082238498121537:=0
def tw5820110861084884806:=0
def tw5174043611920422723:=0
def tw18271747008208856331:=0
def tw13726505758883008945:=0
def tw3869050387986265467:=0
def tw5690827178532273876:=0
def tw5201407238115859139:=0
def tw13257131994262244569:=0
def tw6823355122312175524:=0
def tw325397611273440961:=0
def tw13741041243149263162:=0
def tw1204656694331447903:=0
def tw6870398959022324151:=0
def tw12176386209362124936:=0
def tw5705285871343802041:=0
def tw4141345342089430257:=0
def tw8528811232620831790:=0
def tw3445242337667886282:=0
def tw9021594969653007798:=0
def tw729324054134139212:=0
def tw8196887196353845162:=0
def tw5627311463590506725:=0
def tw6712131218531331017:=0
def tw10173297925448759477:=0
def tw2645002452176168583:=0
def tw622832372489073685:=0
def tw16576063021501079052:=0
def tw8208362472590080726:=0
def tw13112660771126685753:=0
def tw4327046414176593196:=0
def tw4900078351322828548:=0
def tw9135336523415129323:=0
def tw7535376241634925414:=0
def tw7322160511662237996:=0
def tw14530874425995259664:=0
def tw13420736513413139080:=0
def tw3440219047915349712:=0
def tw15733472396912817198:=0
def tw13317217343580466793:=0
def tw11124396811567193855:=0
def tw13260918990408069551:=0
def tw10902271349624626747:=0
def tw112514531845113884:=0
def tw10002487037292158677:=0
def tw5034865590159936385:=0
def tw13485205630435233401:=0
def tw896928251040834230:=0
def tw6473109571488191524:=0
def tw3805306078981495815:=0
def tw3744034961753411534:=0
def tw13266091532249248541:=0
end PySem.W.Fast
open PySem PySem.W PyProof.Rows
set_option maxRecDepth 100000 in
set_option maxHeartbeats 0 in
theorem PySem.Challenge.cw_trunksay_k65_kept_rooms_holds : PySem.Challenge.rw_trunksay_k65_kept_rooms.Holds := by
 w_on; o_law; k_head; (case hw => w_witness2)
 k_fill
 refine L2.walkW (l := PySem.Challenge.rw_trunksay_k65_kept_rooms) (k := 42) (x := "_law_script") (G := P.f_q42) rfl rfl ⟨rfl, by decide, by decide⟩ (fun w h Y => PySem.W.kIn_of Y) ?F P.law_ok
 case F =>
  intro w mg fa h KX G hmg
  refine' P.all_mk KX G hmg ?_ ?_ ?_ ?_ ?_ ?_ ?_ ?_ ?_ ?_ ?_ ?_ ?_ ?_ ?_ ?_ ?_ ?_ ?_ ?_ ?_ ?_ ?_ ?_ ?_ ?_ ?_ ?_ ?_ ?_ ?_ ?_ ?_ ?_ ?_ ?_ ?_ ?_ ?_ ?_ ?_ ?_ ?_ ?_ ?_ ?_ ?cl_Kept ?_ ?_ ?_ ?_ ?_ ?_ ?_ ?_ ?dm_Kept___init__ ?dm_Kept_carry_out ?dm_Kept_do_deed ?dm_Kept_mark_deed ?dm_Kept_put ?dm_Kept_take ?dm_Kept_branch ?dm_Kept_whole ?dm_Kept_back ?dm_Kept_again ?dm_Kept_tree_now ?dm_Kept_rooms_now ?dm_Kept_lets_now ?_ ?_ ?_ ?x_NoPlace ?x_TooGreat ?x_NothingDone ?_ ?_ ?_ ?_ ?_ ?_ ?_ ?_ ?_ ?_ ?_ ?_ ?_ ?_ ?_
  any_goals (refine' L2.DefIn.mk ?a ?l ?c ?k; (case a => k_is); (case l => k_is); (case c => k_is); (case k => k_is))
  any_goals k_is
  (case cl_Kept => exact ⟨by kernel_rfl, by kernel_rfl, by kernel_rfl, by first | k_is | kernel_rfl⟩)
  (case dm_Kept___init__ => (refine' L2.DefM.mk ?a ?i ?l ?c ?k; (case a => k_is); (case i => first | k_is | kernel_rfl); (case l => k_is); (case c => k_is); (case k => k_is)))
  (case dm_Kept_carry_out => (refine' L2.DefM.mk ?a ?i ?l ?c ?k; (case a => k_is); (case i => first | k_is | kernel_rfl); (case l => k_is); (case c => k_is); (case k => k_is)))
  (case dm_Kept_do_deed => (refine' L2.DefM.mk ?a ?i ?l ?c ?k; (case a => k_is); (case i => first | k_is | kernel_rfl); (case l => k_is); (case c => k_is); (case k => k_is)))
  (case dm_Kept_mark_deed => (refine' L2.DefM.mk ?a ?i ?l ?c ?k; (case a => k_is); (case i => first | k_is | kernel_rfl); (case l => k_is); (case c => k_is); (case k => k_is)))
  (case dm_Kept_put => (refine' L2.DefM.mk ?a ?i ?l ?c ?k; (case a => k_is); (case i => first | k_is | kernel_rfl); (case l => k_is); (case c => k_is); (case k => k_is)))
  (case dm_Kept_take => (refine' L2.DefM.mk ?a ?i ?l ?c ?k; (case a => k_is); (case i => first | k_is | kernel_rfl); (case l => k_is); (case c => k_is); (case k => k_is)))
  (case dm_Kept_branch => (refine' L2.DefM.mk ?a ?i ?l ?c ?k; (case a => k_is); (case i => first | k_is | kernel_rfl); (case l => k_is); (case c => k_is); (case k => k_is)))
  (case dm_Kept_whole => (refine' L2.DefM.mk ?a ?i ?l ?c ?k; (case a => k_is); (case i => first | k_is | kernel_rfl); (case l => k_is); (case c => k_is); (case k => k_is)))
  (case dm_Kept_back => (refine' L2.DefM.mk ?a ?i ?l ?c ?k; (case a => k_is); (case i => first | k_is | kernel_rfl); (case l => k_is); (case c => k_is); (case k => k_is)))
  (case dm_Kept_again => (refine' L2.DefM.mk ?a ?i ?l ?c ?k; (case a => k_is); (case i => first | k_is | kernel_rfl); (case l => k_is); (case c => k_is); (case k => k_is)))
  (case dm_Kept_tree_now => (refine' L2.DefM.mk ?a ?i ?l ?c ?k; (case a => k_is); (case i => first | k_is | kernel_rfl); (case l => k_is); (case c => k_is); (case k => k_is)))
  (case dm_Kept_rooms_now => (refine' L2.DefM.mk ?a ?i ?l ?c ?k; (case a => k_is); (case i => first | k_is | kernel_rfl); (case l => k_is); (case c => k_is); (case k => k_is)))
  (case dm_Kept_lets_now => (refine' L2.DefM.mk ?a ?i ?l ?c ?k; (case a => k_is); (case i => first | k_is | kernel_rfl); (case l => k_is); (case c => k_is); (case k => k_is)))
  (case x_NoPlace => k_exc)
  (case x_TooGreat => k_exc)
  (case x_NothingDone => k_exc)
