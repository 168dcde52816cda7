import PyProof.Rows.All
import Wide.All
import OpenK.AllK
import Wide.FinOn
import Lean
import PyProof.EqAt
import PyProof.EqKinds
import PyProof.TupleCall
import PyProof.StrLawsIn
import PyProof.StationsW
import PyProof.NeData
import OpenK.KOwn
import PyProof.NsDelKeeps
import PyProof.ExcArgsOwn
import PyProof.ExcAttrAll.ValueError
import PyProof.IsiH_tuple
import KE.KIsAll
import PyProof.CollectStr
import PyProof.ZipIter
import PyProof.Rows.ZipGen
import PyProof.JoinWalk
import PyProof.CollectIter
import PyProof.EnumMake
import PyProof.SumAny
import PyProof.MeetsSeq3
import PyProof.ListRange
import PyProof.Rows.SortShellK
import PyProof.StrCalls6
import PySem.Challenge.RW_trunksay_k07_dressed_and_borne
set_option Elab.async false
set_option linter.all false
set_option maxRecDepth 100000
def aa:=@PySem.wpAny_bind
def af:=@List.getElem?_eq_getElem
def ag:=@PySem.Heap.get?_push_of_some
def ah:=@Nat.le_refl
def ai:=@PySem.wpAny_pure
def aj:=@List.prefix_refl
def al:=@List.getElem?_eq_some_iff
def am:=@if_pos
def ar:=@PySem.Heap.get?_push_size
def au:=@if_neg
def av:=@PySem.Heap.lt_size
def ay:=@Nat.lt_of_lt_of_le
def az:=@List.length_map
def aA:=@Nat.le_trans
def aB:=@PyProof.Rows.wpS_bind
def aC:=@List.mem_cons
def aD:=@PyProof.Rows.wpS_pure
def aF:=@Array.getElem?_toList
def aG:=@List.mem_singleton
def aI:=@List.getD_eq_getElem?_getD
def aJ:=@List.length_append
def aK:=@Nat.ne_of_lt
def aL:=@List.getElem?_map
def aO:=@Array.length_toList
def aP:=@decide_eq_false
def aQ:=@List.length_take
def aR:=@List.size_toArray
def aS:=@Array.getElem?_eq_getElem
def aT:=@List.mem_append_right
def aU:=@Nat.le_of_ble_eq_true
def aW:=@List.mem_cons_of_mem
def aX:=@Array.toList_append
def aY:=@List.append_assoc
def aZ:=@List.mem_append
def a7:=@List.map_cons
def a8:=@Nat.le_succ
def a9:=@decide_eq_true
def a_:=@List.pairwise_cons
def bb:=@List.map_map
def bd:=@List.getElem?_eq_none
def be:=@Option.some.inj
def bf:=@PySem.Heap.get?_update_other
def bh:=@PySem.Heap.size_push
def bq:=@List.drop_eq_nil_of_le
def br:=@Nat.zero_le
def bt:=@PySem.Around.under_plainId
def bw:=@List.getElem?_append_left
def bx:=@PySem.wpAny_newObj_type
def bz:=@Nat.lt_succ_of_lt
def bB:=@Nat.lt_succ_self
def bC:=@List.mem_map
def bD:=@PySem.wpAny_call_entry
def bE:=@PySem.wpAny_holding
def bF:=@PySem.Heap.get?_update_self
def bH:=@List.map_append
def bI:=@PySem.codeAny_builtin
def bK:=@PyProof.Rows.F.plain_set_update_loop
def bM:=@List.getElem?_set_self
def bN:=@Array.getD_eq_getD_getElem?
def bO:=@List.length_drop
def bP:=@Int.toNat_natCast
def bQ:=@List.prefix_append
def bS:=@getElem?_pos
def bT:=@PySem.wpAny_callSpecial?_slot
def bU:=@List.getElem_mem
def bV:=@List.mem_of_getElem?
def bW:=@PyProof.Rows.KeyOrd.kle_of_klt
def bX:=@List.mem_cons_self
def bY:=@Bool.false_eq_true
def bZ:=@List.getElem?_take_of_lt
def b6:=@List.length_filter_le
def b_:=@Nat.lt_irrefl
def cb:=@List.drop_eq_getElem_cons
def cf:=@List.take_of_length_le
def cm:=@PyProof.Rows.wpS_forRange
def cq:=@Bool.and_eq_true
def cr:=@List.length_cons
def cu:=@List.not_mem_nil
def cv:=@PyProof.Rows.KeyOrd.kle_trans
def cw:=@List.map_congr_left
def cA:=@if_false
def cB:=@Array.toList_push
def cD:=@Bool.false_ne_true
def cE:=@List.getElem?_append_right
def cF:=@PySem.wpAny_Call_Name_kw
def cH:=@PySem.isSubtype_type
def cI:=@List.append_nil
def cJ:=@PySem.wpAny_loadPart'
def cK:=@List.find?_cons
def cL:=@PySem.plainId_quiet
def cM:=@Option.map_eq_some_iff
def cQ:=@beq_eq_false_iff_ne
def cR:=@List.filterMap_cons
def cS:=@PyProof.Rows.F.entry_set_update_loop
def cU:=@PySem.wpAny_setState_of
def cV:=@List.drop_sublist
def cX:=@PySem.Calls.spliced_cons
def cZ:=@List.mem_append_left
def c7:=@List.getElem?_set_ne
def c8:=@Array.toList_extract
def c9:=@PyProof.Rows.callWith_type1
def dr:=@List.mem_range
def du:=@Nat.ne_of_gt
def dv:=@beq_iff_eq
def dw:=@List.length_range
def dy:=@Array.getElem?_eq_some_iff
def dB:=@List.mem_filter
def dC:=@PyProof.Rows.slot_tuple_getitem
def dE:=@List.extract_eq_take_drop
def dG:=@PySem.boot_len
def dJ:=@Nat.lt_of_le_of_lt
def dL:=@PySem.wpAny_rule
def dQ:=@Nat.le_of_lt
def dX:=@PySem.wpAny_field
def dY:=@List.Perm.refl
def d4:=@Nat.le_succ_of_le
def d5:=@PySem.Calls.spliced_nil
def d6:=@PySem.wpAny_loadPart_at
def d7:=@PyProof.Rows.KeyOrd.kle_refl
def d9:=@PySem.Heap.SameBut.update
def d_:=@PySem.wpAny_setEntries_of
def eB:=@PySem.codeAny_mono
def eL:=@congrArg
def eM:=@Array.perm_iff_toList_perm
def eN:=@PySem.F.slot_tuple_iterator_next
def eO:=@PySem.wpAny_setField_rec
def eP:=@PyProof.Rows.boot_tuple
def eR:=@List.length_singleton
def eW:=@List.pairwise_iff_getElem
def eX:=@PySem.wpAny_passesOwn
def e6:=@PySem.wpAny_truthy_bool
def e7:=@Bool.not_eq_true'
def e_:=@List.ext_getElem?
def fg:=@List.pairwise_append
def fj:=@List.mem_of_mem_drop
def fx:=@Nat.not_lt
def fy:=@List.getElem_of_mem
def fz:=@List.length_reverse
def fH:=@Array.eq_empty_of_size_eq_zero
def fI:=@PyProof.Rows.callWith_builtin1
def fJ:=@PyProof.Rows.wpS_mono
def fL:=@List.eq_nil_of_length_eq_zero
def fP:=@PySem.wpAny_mono
def fQ:=@List.length_eq_one_iff
def fR:=@PySem.wpAny_typeOf
def fS:=@Nat.lt_or_ge
def fT:=@Nat.zero_add
def fX:=@List.nodup_cons
def fY:=@Nat.not_lt_zero
def fZ:=@List.nil_append
def gc:=@PySem.StrLaws.glued_eq_join
def gf:=@List.take_append_drop
def gj:=@of_decide_eq_true
def gr:=@PySem.sizeLine_eq
def gs:=@Array.mem_toList_iff
def gu:=@PySem.codeAny_call_builtin
def gz:=@PySem.wpAny_nameGoes_keeps
def gA:=@List.mem_of_mem_take
def gB:=@List.perm_ext_iff_of_nodup
def gD:=@if_true
def gE:=@PySem.wpAny_isInstance
def gG:=@PySem.Calls.call_function_entry
def gJ:=@List.getElem?_range
def gK:=@PySem.wpAny_isSubtype_exc
def gM:=@List.reverse_append
def gO:=@PySem.wpAny_attempt
def gP:=@or_false
def gQ:=@Bool.and_true
def gU:=@PySem.wpAny_execs_nil
def gW:=@PySem.wpAny_updateSeq
def gX:=@Int.emod_nonneg
def gY:=@Bool.eq_iff_iff
def g7:=@PySem.wpAny_pyIter_tuple
def g8:=@List.lookup_append
def g9:=@PySem.Obj.data_mapFields
def g_:=@PyProof.Rows.wpS_modify
def hJ:=@List.getElem?_drop
def hU:=@decide_eq_true_iff
def ii:=@PySem.wpAny_pyNext_ascii_item
def ij:=@List.map_id
def ik:=@List.pairwise_singleton
def il:=@List.findIdx?_eq_some_iff_getElem
def iz:=@PySem.wpAny_pyNext_wide_item
def iA:=@PySem.wpAny_storeSet_of
def iB:=@PySem.fits_of_scanBound
def iC:=@List.nodup_append
def iD:=@PySem.wpAny_runValue
def iF:=@Nat.lt_of_succ_lt_succ
def iG:=@PySem.wpAny_noteFrame_againW
def iH:=@List.reverse_cons
def iI:=@List.pairwise_map
def iT:=@PySem.F.typeOf_object_class
def iU:=@List.getElem?_reverse
def iV:=@Array.mem_of_getElem?
def iW:=@List.set_append_right
def iX:=@List.Pairwise.sublist
def i6:=@List.lookup_cons
def i7:=@PySem.putSet_of
def i8:=@List.filter_cons
def jd:=@Bool.or_false
def je:=@PyProof.Rows.wpS_get
def jj:=@PySem.Calls.evalArgs_plain
def jk:=@PyProof.Rows.entry_proto_collect'
def jl:=@Array.toList_reverse
def jm:=@Array.getElem_toList
def jr:=@List.of_mem_zip
def js:=@PySem.pushCells_keeps
def jt:=@PySem.F.args_tuple_iterator_next_1
def ju:=@PySem.wpAny_ite_split
def jv:=@PyProof.Rows.boot_isinstance
def jw:=@List.filter_map
def jA:=@PySem.Value.isStrOf_shape
def jB:=@List.filter_eq_self
def jG:=@List.map_nil
def jH:=@Nat.add_zero
def jI:=@PySem.F.entry_tuple_iterator_next
def jJ:=@Int.zero_add
def jU:=@PySem.Calls.Name_function_global
def jV:=@List.mem_filterMap
def jW:=@Int.fdiv_eq_ediv_of_nonneg
def jX:=@PySem.wpAny_newFunctionEnv_cells
def jY:=@PySem.typeIs_str
def jZ:=@PySem.wpAny_pyIter_ascii
def j4:=@PySem.wpAny_seqItems
def j6:=@PySem.wpAny_call
def j7:=@PySem.Code.quiet_builtin
def j8:=@PySem.wpAny_fieldsOf
def j9:=@List.take_zero
def j_:=@List.contains_cons
def kc:=@Array.toList_setIfInBounds
def ke:=@Nat.add_sub_cancel
def kg:=@Int.emod_lt_of_pos
def ki:=@List.findIdx?_eq_none_iff
def kF:=@PySem.Value.isInt_shape
def kG:=@List.take_sublist
def kH:=@PySem.wpAny_pyIter_wide
def kI:=@PySem.Heap.get?_push_ne
def kJ:=@PySem.wpAny_pyIter_slot
def kK:=@PySem.wpAny_setEpoch_of
def kL:=@List.flatten_cons
def kM:=@List.reverse_perm
def kW:=@PySem.wpAny_getItem_list_slice
def kZ:=@List.any_cons
def k6:=@Bool.false_or
def k7:=@PySem.wpAny_newList
def k8:=@PyProof.Rows.boot_sorted
def k9:=@Nat.lt_succ_iff_lt_or_eq
def k_:=@List.sum_cons
def lx:=@List.getElem?_replicate
def ly:=@PySem.noFill_tuple_add
def lz:=@LawfulBEq.eq_of_beq
def lA:=@Nat.le_of_not_lt
def lB:=@PySem.wpAny_askSetting
def lD:=@PyProof.Rows.entry_list_iadd'
def lE:=@decide_eq_false_iff_not
def lF:=@Int.eq_ofNat_of_zero_le
def lG:=@List.length_eq_zero_iff
def lH:=@PyProof.Rows.wpS_lift
def lI:=@List.mem_reverse
def l7:=@PyProof.Rows.subscriptTail_builtinR
def l8:=@List.range_succ_eq_map
def l9:=@PySem.wpAny_Call_method_late
def l_:=@PySem.Calls.callWith_builtin
def ma:=@Nat.sub_zero
def md:=@List.drop_of_length_le
def me:=@Nat.sub_self
def mf:=@Array.getElem?_eq_none
def mv:=@List.length_nil
def mw:=@PySem.codeAny_of_tree
def mx:=@PyProof.Rows.entry_list_sort
def my:=@PyProof.Rows.KK_mirror_equal
def mz:=@Nat.min_eq_left
def mD:=@PySem.wpAny_storeName_local
def mE:=@PySem.wpAny_isTrue_Compare1
def mF:=@PySem.codeAny_call_function
def mG:=@PySem.Obj.isFreed_of_fields
def mH:=@PySem.F.slot_enumerate_next
def mI:=@PySem.builtinLookup_eq_fast
def mJ:=@PySem.hashByValue_scannable
def mK:=@PySem.weight_type_call_type
def mL:=@List.Perm.append_left
def mM:=@PyProof.Rows.boot_set
def mO:=@List.perm_append_comm
def mP:=@List.pairwise_reverse
def ni:=@List.drop_zero
def nj:=@Prod.mk.inj
def nn:=@PyProof.Rows.sorted_out_str
def no:=@PySem.wpAny_setField
def nq:=@PySem.isSubtype_stop
def nr:=@List.nodup_nil
def nv:=@PyProof.Rows.slot_list_sort
def ny:=@PyProof.Rows.args_list_sort
def nz:=@PyProof.Rows.sortedHeap_old
def n_:=@PySem.wpAny_standAt
def og:=@PySem.seq_tuple_add
def oh:=@PySem.evalPart_none
def ol:=@PyProof.Rows.strKind_oneLt
def om:=@PyProof.Rows.sortedHeap_at
def on:=@PySem.SeqAt.str_beq
def oM:=@PySem.wpAny_load
def oN:=@PySem.call_meets
def oO:=@Nat.not_le
def oP:=@Int.not_lt
def pP:=@PySem.concat_meets
def pQ:=@Nat.lt_trans
def pR:=@PyProof.Rows.keyKind_strs
def pS:=@PyProof.Rows.plain_sorted
def pT:=@PyProof.Rows.entry_sorted
def pU:=@PyProof.Rows.args_sorted1
def pV:=@PySem.wpAny_landsW
def qz:=@PyProof.Rows.boot_bool
set_option compiler.extract_closed false
noncomputable section
open PySem.W (Frag)
open PySem.W (hideAll of_hideAll findIn kitOne kia_one fnOf codeIn keepIn excIn nsIn mg_of mg_none_of)
namespace L2
open PySem PySem.Spec PyProof.Rows
theorem uG{M:Model}{Γ:PySem.Ctx}{p:Pos}{t:Sem Fin}{fs:List Frame}{s s':Shared}{e:End}(h:Runs M Γ p t fs s e s'):s.toks<=s'.toks:=by
 induction h
 case fresh ih=>exact aA (a8 _) ih
 case call i1 i2=>exact aA i1 i2
 case resumeFresh i1 i2=>exact aA i1 i2
 case resumeSuspended i1 i2=>exact aA i1 i2
 case segRet i1 i2=>exact aA i1 i2
 case segGen i1 i2=>exact aA i1 i2
 case segSuspGen i1 i2=>exact aA i1 i2
 all_goals first|exact ah _|assumption
theorem AA{M:Model}{Γ:PySem.Ctx}{p:Pos}{g:Nat}{r:Resume}{s s':Shared}{res:GenResult}(h:Wakes M Γ p g r s res s'):s.toks<=s'.toks:=by
 unfold Wakes at h
 split at h
 ·exact h.elim
 ·split at h
  ·obtain⟨e,s1,h1,_,_,rfl⟩:=h;have q:=uG h1;exact q
  ·rw[h.2];exact ah _
  ·rw[h.2];exact ah _
 ·obtain⟨e,s1,h1,_,_,rfl⟩:=h;have q:=uG h1;exact q
 ·rw[h.2];exact ah _
 ·rw[h.2];exact ah _
theorem Jy{α:Type}{M:Model}{Γ:PySem.Ctx}(n:Nat)(m:Sem α):∀{Q:α->Pos->Shared->Prop} {E:Value->Pos->Shared->Prop} {p:Pos} {s:Shared},n<=s.toks->Sem.wp M Γ m Q E p s ->
  Sem.wp M Γ m (fun a p' s'=>n<=s'.toks/\Q a p' s') (fun e p' s'=>n<=s'.toks/\E e p' s') p s:=by
 induction m
 all_goals intro Q E p s hn h
 all_goals (first|(rename_i ih)|skip)
 all_goals (try simp only[Sem.wp]at h ⊢)
 all_goals first
  |exact⟨hn,h⟩
  |exact ih _ hn h
  |exact ih _ (d4 hn) h
  |(obtain⟨o,h1,h2⟩:=h;exact⟨o,h1,ih _ hn h2⟩)
  |exact⟨h.1,ih _ hn h.2⟩
  |(obtain⟨r,s',h1,h2⟩:=h;exact⟨r,s',h1,ih _ (aA hn (uG h1)) h2⟩)
  |(obtain⟨r,s',h1,h2⟩:=h;exact⟨r,s',h1,ih _ (aA hn (AA h1)) h2⟩)
theorem up{α:Type}{M:Model}{A:Around}{m:Sem α}{Q:α->Shared->Prop}{E:Value->Shared->Prop}{s:Shared}(h:wpAny M A m (fun a s'=>s.toks<=s'.toks->Q a s') (fun e s'=>s.toks<=s'.toks->E e s') s):wpAny M A m Q E s:=fun Γ p hΓ=>
 Sem.wp_mono M Γ m (fun a p' s' h'=>h'.2 h'.1) (fun e p' s' h'=>h'.2 h'.1) p s (Jy s.toks m (ah _) (h Γ p hΓ))
end L2
namespace L2
variable{nk:Nat}
open PySem PySem.Spec PyProof.Rows
abbrev jf:=Sum Int Str
def tZ:jf->Value->Bool
 |.inl k,v=>Value.isInt k v
 |.inr x,v=>Value.isStrOf x v
def Ml(w:World):jf->Int
 |.inl k=>hashInt k
 |.inr x=>hashStr w x
theorem eY:∀{k:jf} {v:Value},tZ k v=true->(∃i t,k=Sum.inl i/\v=Value.int i t)\/(∃x t,k=Sum.inr x/\v=Value.str x t)
 |.inl i,v,h=>by
  obtain⟨t,e⟩:=kF (k:=i) (v:=v) h
  exact .inl ⟨i,t,rfl,e⟩
 |.inr x,v,h=>by
  obtain⟨t,e⟩:=jA (x:=x) (v:=v) h
  exact .inr ⟨x,t,rfl,e⟩
theorem zm(i:Int)(t:Tok):tZ (.inl i) (.int i t)=true:=by simp[tZ,Value.isInt]
theorem zn(x:Str)(t:Tok):tZ (.inr x) (.str x t)=true:=by simp[tZ,Value.isStrOf]
theorem Gs(a b:Int):decide ((Sum.inl a:jf)=Sum.inl b)=(a==b):=by
 by_cases e:a=b
 ·subst e;simp
 ·have h:¬ (Sum.inl a:jf)=Sum.inl b:=fun q=>e (Sum.inl.inj q)
  rw[aP h]
  exact(cQ.mpr e).symm
theorem Gu(a b:Str):decide ((Sum.inr a:jf)=Sum.inr b)=decide (a=b):=by
 by_cases e:a=b
 ·subst e;simp
 ·have h:¬ (Sum.inr a:jf)=Sum.inr b:=fun q=>e (Sum.inr.inj q)
  rw[aP h,aP e]
theorem Gv(a:Int)(b:Str):decide ((Sum.inl a:jf)=Sum.inr b)=false:=aP (fun q=>nomatch q)
theorem Gw(a:Str)(b:Int):decide ((Sum.inr a:jf)=Sum.inl b)=false:=aP (fun q=>nomatch q)
def gC(prog:Program)(w:World):PySem.KeyKind prog w jf where
 is:=tZ
 hash:=Ml w
 inj:=fun v a b ha hb=>by
  rcases eY ha with⟨i,t,rfl,rfl⟩|⟨x,t,rfl,rfl⟩
  ·rcases eY hb with⟨j,u,rfl,e⟩|⟨y,u,rfl,e⟩
   ·injection e with e1 _;rw[e1]
   ·exact nomatch e
  ·rcases eY hb with⟨j,u,rfl,e⟩|⟨y,u,rfl,e⟩
   ·exact nomatch e
   ·injection e with e1 _;rw[e1]
 byValue:=fun k v h=>by
  rcases eY h with⟨i,t,rfl,rfl⟩|⟨x,t,rfl,rfl⟩<;>rfl
 pyHash:=fun hv h=>by
  rcases eY hv with⟨i,t,rfl,rfl⟩|⟨x,t,rfl,rfl⟩
  ·exact wpAny_pyHash_int h
  ·exact wpAny_pyHash_str h
 eqBool:=fun hu hv h=>by
  rcases eY hu with⟨i,t,rfl,rfl⟩|⟨x,t,rfl,rfl⟩
  ·rcases eY hv with⟨j,u,rfl,rfl⟩|⟨y,u,rfl,rfl⟩
   ·rw[Gs]at h;exact wpAny_eqBool_int h
   ·rw[Gv]at h;exact SeqAt.EqAt.int_str i t y u _ _ _ _ h
  ·rcases eY hv with⟨j,u,rfl,rfl⟩|⟨y,u,rfl,rfl⟩
   ·rw[Gw]at h;exact SeqAt.EqAt.str_int x t j u _ _ _ _ h
   ·rw[Gu]at h;exact wpAny_eqBool_str h
 «strs»:=fun k x t v h=>by
  rcases eY h with⟨i,u,rfl,e⟩|⟨y,u,rfl,e⟩
  ·exact nomatch e
  ·injection e with e1 _
   subst e1
   cases v<;>rfl
theorem vx(prog:Program)(w:World)(i:Int)(t:Tok):(gC prog w).is (.inl i) (.int i t)=true:=zm i t
theorem vy(prog:Program)(w:World)(x:Str)(t:Tok):(gC prog w).is (.inr x) (.str x t)=true:=zn x t
end L2
namespace L2
variable{nk:Nat}
open PySem PySem.Spec PyProof.Rows
inductive V where
 |non|bl (b:Bool)|int (i:Int)|str (x:Str)|byt (b:Array UInt8)|flt (b:UInt64)|ref (a:Addr)|ty (n:String)
 deriving DecidableEq
def Tk(n:Nat)(x:Str):Type:={ t:Tok // x.length=1->0<t/\t<n }
instance {n:Nat} {x:Str}:CoeOut (Tk n x) Tok:=⟨fun t=>t.1⟩
def Tk.up{n n':Nat}{x:Str}(h:n<=n')(t:Tk n x):Tk n' x:=⟨t.1,fun e=>⟨(t.2 e).1,ay (t.2 e).2 h⟩⟩
def cN(n:Nat):V->Value->Prop
 |.non,u=>u=Value.none
 |.bl b,u=>u=Value.bool b
 |.int i,u=>∃t,u=Value.int i t
 |.str x,u=>∃t:Tk n x,u=Value.str x t.1
 |.byt b,u=>∃t,u=Value.bytes b t
 |.flt b,u=>∃t,u=Value.float b t
 |.ref a,u=>u=Value.ref a
 |.ty n,u=>u=Value.type n
theorem cN.up{n n':Nat}(h:n<=n'){v:V}{u:Value}(r:cN n v u):cN n' v u:=by
 cases v with
 |str x=>obtain⟨t,e⟩:=r;exact⟨t.up h,e⟩
 |_=>exact r
abbrev b7(n:Nat):List V->List Value->Prop:=Paired (cN n)
theorem b7.up{n n':Nat}(h:n<=n'):∀{xs:List V} {us:List Value},b7 n xs us->b7 n' xs us
 |_,_,.nil=>.nil
 |_,_,.cons r t=>.cons (r.up h) (b7.up h t)
theorem b7.length{xs:List V}{us:List Value}(r:b7 nk xs us):xs.length=us.length:=Paired.length r
theorem b7.get:∀{xs:List V} {us:List Value} {i:Nat} {x:V},b7 nk xs us->xs[i]?=some x->∃u,us[i]?=some u/\cN nk x u
 |_,_,_,_,.nil,e=>by simp at e
 |_,_,0,_,.cons r _,e=>by simp at e;subst e;exact⟨_,rfl,r⟩
 |_,_,i+1,x,.cons _ t,e=>by
  obtain⟨u,h1,h2⟩:=b7.get (i:=i) (x:=x) t (by simpa using e)
  exact⟨u,by simpa using h1,h2⟩
theorem b7.append:∀{xs ys:List V} {us ws:List Value},b7 nk xs us->b7 nk ys ws->b7 nk (xs++ys) (us++ws)
 |_,_,_,_,.nil,s=>s
 |_,_,_,_,.cons r t,s=>.cons r (b7.append t s)
theorem b7.take:∀{xs:List V} {us:List Value} (n:Nat),b7 nk xs us->b7 nk (xs.take n) (us.take n)
 |_,_,0,_=>.nil
 |_,_,_+1,.nil=>.nil
 |_,_,n+1,.cons r t=>.cons r (b7.take n t)
theorem b7.drop:∀{xs:List V} {us:List Value} (n:Nat),b7 nk xs us->b7 nk (xs.drop n) (us.drop n)
 |_,_,0,r=>r
 |_,_,_+1,.nil=>.nil
 |_,_,n+1,.cons _ t=>b7.drop n t
def tF(n:Nat):Option V->Option Value->Prop
 |some v,some u=>cN n v u
 |none,none=>True
 |_,_=>False
theorem tF.up{n n':Nat}(h:n<=n'):∀{o:Option V} {u:Option Value},tF n o u->tF n' o u
 |some _,some _,r=>cN.up h r
 |none,none,_=>trivial
 |none,some _,r=>r
 |some _,none,r=>r
def KV{κ:Type}(n:Nat):List (κ×V)->List (κ×Value)->Prop:=Paired fun(p:κ×V) (q:κ×Value)=>p.1=q.1/\cN n p.2 q.2
def kV:jf->V
 |.inl i=>.int i
 |.inr x=>.str x
inductive HO where
 /-- a list -/
 |lst (xs:List V)
 /-- a tuple (never changes) -/
 |tup (xs:List V)
 /-- a dict whose keys are ints and texts;one whose keys are tuples of ints and texts (the empty one is both) -/
 |dK (kvs:List (jf×V))|dT (kvs:List (List jf×V))
 /-- a set of ints: bv members,bv size -/
 |set (S:Int->Bool) (n:Nat)
 /-- an instance of the class at C,bv dict at dx,bv attributes -/
 |ins (C dx:Addr) (fs:List (Str×V))
 /-- the dict of the instance at x -/
 |own (x:Addr)
 /-- the dict of an exception -/
 |xd (fs:List (Str×V))
 /-- a bound method,f of x -/
 |met (f x:Addr)
 /-- a range object lo,lo+1,.. below hi -/
 |rng (lo hi:Int)
 /-- a thing that is known to the object (the script;a dict while a loop walks it): read,never written while it is so -/
 |frz (o:Obj) (u:HO)
 /-- a code object's table -/
 |tbl (ps:Array Value)
 /-- any other thing,by what is true of bv one object (a def of NJ own: SetO a S n:=HO.ext fun h=>..) -/
 |ext (φ:Heap->Prop)
abbrev Hp:=Addr->Option HO
def gb(H:Hp)(a:Addr)(o:HO):Hp:=fun b=>if b=a then some o else H b
theorem gm{H:Hp}{a:Addr}{o:HO}:gb H a o a=some o:=by unfold gb;rw[am rfl]
theorem cx{H:Hp}{a b:Addr}{o:HO}(h:b≠a):gb H a o b=H b:=by unfold gb;rw[au h]
theorem Jz{H:Hp}{a b:Addr}{o u:HO}(h:H a=some o)(h':H b=some u)(d:o≠u):a≠b:=by
 intro e;subst e;rw[h]at h';exact d (be h')
theorem eF{H:Hp}{a b:Addr}{o:HO}(h:H a=some o)(h':H b=none):a≠b:=by
 intro e;subst e;rw[h]at h';cases h'
section
variable(P:Program)(w:World)
def dS(n:Nat)(H:Hp)(h:Heap)(a:Addr):HO->Prop
 |.lst xs=>xs.length<=sizeLine/\∃(bv:List Value) (m:Nat),b7 n xs bv/\h.get? a=some { cls:=.type "list",data:=.seq bv.toArray m }
 |.tup xs=>xs.length<=sizeLine/\∃bv:List Value,b7 n xs bv/\IsTup h a bv.toArray
 |.dK kvs=>kvs.length<=sizeLine/\(a==sysModules)=false/\∃vs,KV n kvs vs/\h.DictOf (gC P w) a vs
 |.dT kvs=>kvs.length<=sizeLine/\(a==sysModules)=false/\∃xs:List (List jf×Addr×Value),
   Paired (fun(p:List jf×V) (q:List jf×Addr×Value)=>p.1=q.1/\H q.2.1=some (.tup (p.1.map kV))/\cN n p.2 q.2.2) kvs xs /\
   ∃o es ep,h.get? a=some o/\o.ExactDict/\o.data=.dict es ep/\es.toList=xs.map (entryOfKey (tupleKind (gC P w)))/\(xs.map (·.1)).Nodup
 |.set S m=>h.SetOf (intKind P w) a S m
 |.ins C dx fs=>H dx=some (.own a)/\fs.length<=1000/\dx≠a/\h.get? a=some (PySem.W.instObj C dx) /\
   ∃mA,h.Ns1 dx mA/\(∀f,tF n (fs.lookup f) (mA f))/\PySem.Within mA (fs.map (·.1))
 |.own _=>∃o,h.get? a=some o
 |.xd fs=>∃mA,h.Ns1 a mA/\∀f,tF n (fs.lookup f) (mA f)
 |.rng lo hi=>∃t u v,h.get? a=some { cls:=.type "range",data:=.fields #[.int lo t,.int hi u,.int 1 v] }
 |.frz o u=>h.get? a=some o/\dS n H h a u
 |.tbl ps=>h.get? a=some { cls:=.none,data:=.fields ps }
 |.met f x=>h.get? a=some (PySem.W.methodObj (.ref f) (.ref x))
 |.ext φ=>φ h/\(∃o,h.get? a=some o)/\∀h1 h2:Heap,φ h1->(∀o,h1.get? a=some o->h2.get? a=some o)->φ h2
def nA(n:Nat)(H:Hp)(h:Heap):Prop:=∀a o,H a=some o->dS P w n H h a o
end
section
variable{P:Program}{w:World}{H H':Hp}{h h':Heap}{a:Addr}{o:HO}
theorem dS.lt(x:dS P w nk H h a o):a<h.objs.size:=by
 cases o with
 |lst xs=>obtain⟨_,_,_,_,e⟩:=x;exact av e
 |tup xs=>obtain⟨_,_,_,p⟩:=x;exact p.lt
 |dK kvs=>obtain⟨_,_,_,_,o,_,_,e,_⟩:=x;exact av e
 |dT kvs=>obtain⟨_,_,_,_,o,_,_,e,_⟩:=x;exact av e
 |set S n=>obtain⟨o,_,_,_,e,_⟩:=x;exact av e
 |ins C dx fs=>obtain⟨_,_,_,e,_⟩:=x;exact av e
 |own y=>obtain⟨_,e⟩:=x;exact av e
 |xd fs=>obtain⟨_,⟨_,_,_,e,_⟩,_⟩:=x;exact av e
 |rng lo hi=>obtain⟨_,_,_,e⟩:=x;exact av e
 |frz ob u=>obtain⟨e,_⟩:=x;exact av e
 |tbl ps=>exact av (show h.get? a=some _ from x)
 |met f y=>exact av (show h.get? a=some _ from x)
 |ext φ=>obtain⟨_,⟨_,e⟩,_⟩:=x;exact av e
theorem Paired.mapP{α β:Type}{F G:α->β->Prop}:∀{l₁:List α} {l₂:List β},Paired F l₁ l₂->(∀a b,F a b->G a b)->Paired G l₁ l₂
 |_,_,.nil,_=>.nil
 |_,_,.cons r t,f=>.cons (f _ _ r) (Paired.mapP t f)
theorem Paired.imp'{α β:Type}{F G:α->β->Prop}(f:∀a b,F a b->G a b){l₁:List α}{l₂:List β}(r:Paired F l₁ l₂):Paired G l₁ l₂:=Paired.mapP r f
theorem dS.stay(x:dS P w nk H h a o)(k:∀b u,(b=a\/H b=some (.own a))->h.get? b=some u->h'.get? b=some u)
  (ho:∀b,H b=some (.own a)->H' b=some (.own a)) (ht:∀b xs,H b=some (.tup xs)->H' b=some (.tup xs)):dS P w nk H' h' a o:=by
 induction o with
 |lst xs=>obtain⟨z,bv,n,r,e⟩:=x;exact⟨z,bv,n,r,k _ _ (.inl rfl) e⟩
 |tup xs=>obtain⟨z,bv,r,ob,e,c⟩:=x;exact⟨z,bv,r,ob,k _ _ (.inl rfl) e,c⟩
 |dK kvs=>obtain⟨z,y,vs,r,ob,es,ep,e,c⟩:=x;exact⟨z,y,vs,r,ob,es,ep,k _ _ (.inl rfl) e,c⟩
 |dT kvs=>
  obtain⟨z,y,xs,r,ob,es,ep,e,c⟩:=x
  exact⟨z,y,xs,Paired.mapP r fun p q z=>⟨z.1,ht _ _ z.2.1,z.2.2⟩,ob,es,ep,k _ _ (.inl rfl) e,c⟩
 |set S n=>obtain⟨ob,es,ep,t,e,c⟩:=x;exact⟨ob,es,ep,t,k _ _ (.inl rfl) e,c⟩
 |ins C dx fs=>
  obtain⟨d,z,ne,e,mA,⟨od,es,ep,e2,c⟩,r⟩:=x
  exact⟨ho _ d,z,ne,k _ _ (.inl rfl) e,mA,⟨od,es,ep,k _ _ (.inr d) e2,c⟩,r⟩
 |own y=>obtain⟨ob,e⟩:=x;exact⟨ob,k _ _ (.inl rfl) e⟩
 |xd fs=>obtain⟨mA,⟨od,es,ep,e,c⟩,r⟩:=x;exact⟨mA,⟨od,es,ep,k _ _ (.inl rfl) e,c⟩,r⟩
 |rng lo hi=>obtain⟨t,u,v,e⟩:=x;exact⟨t,u,v,k _ _ (.inl rfl) e⟩
 |frz ob u ih=>obtain⟨e,q⟩:=x;exact⟨k _ _ (.inl rfl) e,ih q⟩
 |tbl ps=>
  have e:h.get? a=some { cls:=.none,data:=.fields ps }:=x
  show h'.get? a=some { cls:=.none,data:=.fields ps }
  exact k a _ (.inl rfl) e
 |met f y=>
  have e:h.get? a=some (PySem.W.methodObj (.ref f) (.ref y)):=x
  show h'.get? a=some (PySem.W.methodObj (.ref f) (.ref y))
  exact k a _ (.inl rfl) e
 |ext φ=>obtain⟨p,⟨o,e⟩,st⟩:=x;exact⟨st _ _ p fun o q=>k _ _ (.inl rfl) q,⟨o,k _ _ (.inl rfl) e⟩,st⟩
theorem Paired.upR{n n':Nat}(h:n<=n'){κ:Type}{l₁:List (κ×V)}{l₂:List (κ×Value)}(r:KV n l₁ l₂):KV n' l₁ l₂:=Paired.mapP r fun _ _ z=>⟨z.1,z.2.up h⟩
theorem dS.up{n':Nat}(hn:nk<=n')(x:dS P w nk H h a o):dS P w n' H h a o:=by
 induction o with
 |lst xs=>obtain⟨z,bv,n,r,e⟩:=x;exact⟨z,bv,n,r.up hn,e⟩
 |tup xs=>obtain⟨z,bv,r,ob⟩:=x;exact⟨z,bv,r.up hn,ob⟩
 |dK kvs=>obtain⟨z,y,vs,r,ob⟩:=x;exact⟨z,y,vs,Paired.upR hn r,ob⟩
 |dT kvs=>obtain⟨z,y,xs,r,ob⟩:=x;exact⟨z,y,xs,Paired.mapP r fun p q z=>⟨z.1,z.2.1,z.2.2.up hn⟩,ob⟩
 |ins C dx fs=>obtain⟨d,z,ne,e,mA,c,r,q⟩:=x;exact⟨d,z,ne,e,mA,c,fun f=>(r f).up hn,q⟩
 |xd fs=>obtain⟨mA,c,r⟩:=x;exact⟨mA,c,fun f=>(r f).up hn⟩
 |frz ob u ih=>obtain⟨e,q⟩:=x;exact⟨e,ih q⟩
 |_=>exact x
theorem nA.up{n':Nat}(hn:nk<=n')(x:nA P w nk H h):nA P w n' H h:=fun a o e=>(x a o e).up hn
theorem nA.lt(x:nA P w nk H h)(e:H a=some o):a<h.objs.size:=(x a o e).lt
theorem nA.fresh(x:nA P w nk H h)(e:h.objs.size<=a):H a=none:=by
 cases q:H a with
 |none=>rfl
 |some u=>exact absurd (ay (x.lt q) e) (b_ _)
theorem nA.kept(x:nA P w nk H h)(k:∀b u,h.get? b=some u->h'.get? b=some u):nA P w nk H h':=fun a o e=>
 (x a o e).stay (fun b u _ q=>k b u q) (fun _ q=>q) fun _ _ q=>q
theorem nA.laid(x:nA P w nk H h)(k:∀b u,h.get? b=some u->h'.get? b=some u)(hp:h.objs.size<=a)(new:dS P w nk (gb H a o) h' a o):nA P w nk (gb H a o) h':=fun b u e=>by
 have hn:=x.fresh hp
 by_cases hb:b=a
 ·subst hb;rw[gm]at e;cases e;exact new
 ·rw[cx hb]at e
  exact(x b u e).stay (fun c v _ q=>k c v q) (fun c q=>by rw[cx (eF q hn)];exact q) fun c xs q=>by rw[cx (eF q hn)];exact q
end
def Rd(H:Hp)(a:Addr)(u:HO):Prop:=H a=some u\/∃o,H a=some (.frz o u)
theorem Rd.ok{P:Program}{w:World}{H:Hp}{h:Heap}{a:Addr}{u:HO}(r:Rd H a u)(x:nA P w nk H h):dS P w nk H h a u:=by
 rcases r with r|⟨o,r⟩
 ·exact x a u r
 ·obtain⟨_,q⟩:=x a _ r
  exact q
def JA:Option HO->Prop
 |some (.lst _)=>True
 |some (.dK _)=>True
 |some (.dT _)=>True
 |some (.set _ _)=>True
 |some (.ins _ _ _)=>True
 |some (.ext _)=>True
 |_=>False
section
variable{P:Program}{w:World}{H:Hp}{h h':Heap}{x e:Addr}{o':HO}
theorem nA.write(ok:nA P w nk H h)(mu:JA (H x))(he:e=x\/H e=some (.own x))(k:∀b u,b≠e->h.get? b=some u->h'.get? b=some u)(Dy:∃u,h'.get? e=some u)
  (new:dS P w nk (gb H x o') h' x o'):nA P w nk (gb H x o') h':=fun b u q=>by
 have nown:∀c y,H c=some (.own y)->c≠x:=fun c y r z=>by subst z;rw[r]at mu;exact mu
 have ntup:∀c xs,H c=some (.tup xs)->c≠x:=fun c xs r z=>by subst z;rw[r]at mu;exact mu
 by_cases hb:b=x
 ·subst hb;rw[gm]at q;cases q;exact new
 ·rw[cx hb]at q
  by_cases hbe:b=e
  ·have q':H b=some (.own x):=by
    rcases he with z|z
    ·exact absurd (hbe.trans z) hb
    ·rw[hbe];exact z
   rw[q]at q';cases q'
   obtain⟨v,hv⟩:=Dy
   exact⟨v,by rw[hbe];exact hv⟩
  ·refine(ok b u q).stay (fun c v hc r=>k c v ?_ r) (fun c r=>by rw[cx (nown c b r)];exact r) fun c xs r=>by rw[cx (ntup c xs r)];exact r
   rcases hc with rfl|hc
   ·exact hbe
   ·rintro rfl
    rcases he with z|z
    ·exact nown c b hc z
    ·rw[hc]at z;cases z;exact hb rfl
end
structure Un(fs ex:List Addr)(H H':Hp)(h h':Heap):Prop where
 keep:∀b o,h.get? b=some o->H b=none->b∉fs->b∉ex->h'.get? b=some o
 slot:∀b o,h.get? b=some o->H b=none->b∈fs->b∉ex->∃sl,h'.get? b=some { o with slots:=sl }
 free:∀b o,h.get? b=some o->H b=none->b∉ex->H' b=none
 there:∀b o,h.get? b=some o->b∉ex->∃o',h'.get? b=some o'
 tups:∀b xs,H b=some (.tup xs)->H' b=some (.tup xs)
 frzs:∀b o u,H b=some (.frz o u)->H' b=some (.frz o u)
 tbls:∀b ps,H b=some (.tbl ps)->∃more,H' b=some (.tbl (ps++more))
section
variable{fs N3 ex Oc:List Addr}{H H1 H2:Hp}{h h1 h2 h':Heap}{a x e:Addr}{o:HO}
theorem Un.any(u:Un fs ex H H1 h h1){b:Addr}{ob:Obj}(q:h.get? b=some ob)(n:H b=none)(hx:b∉ex):∃sl,h1.get? b=some { ob with slots:=sl }:=by
 by_cases hb:b∈fs
 ·exact u.slot b ob q n hb hx
 ·exact⟨ob.slots,u.keep b ob q n hb hx⟩
theorem Un.kept(k:∀b u,h.get? b=some u->h'.get? b=some u):Un fs ex H H h h':=
 ⟨fun b ob q _ _ _=>k b ob q,fun b ob q _ _ _=>⟨ob.slots,k b ob q⟩,fun _ _ _ n _=>n,fun b ob q _=>⟨ob,k b ob q⟩,fun _ _ q=>q,fun _ _ _ q=>q,fun _ ps q=>⟨#[],by rw[q];simp⟩⟩
theorem Un.refl:Un fs ex H H h h:=Un.kept fun _ _ q=>q
theorem Un.laid(k:∀b u,h.get? b=some u->h'.get? b=some u)(hp:h.objs.size<=a)(hn:H a=none):Un fs ex H (gb H a o) h h' where
 keep:=fun b u q _ _ _=>k b u q
 slot:=fun b u q _ _ _=>⟨u.slots,k b u q⟩
 free:=fun b u q n _=>by rw[cx (aK (ay (av q) hp))];exact n
 there:=fun b u q _=>⟨u,k b u q⟩
 tups:=fun b xs q=>by rw[cx (eF q hn)];exact q
 frzs:=fun b u xs q=>by rw[cx (eF q hn)];exact q
 tbls:=fun b ps q=>⟨#[],by rw[cx (eF q hn),q];simp⟩
theorem Un.write(mu:JA (H x))(he:e=x\/H e=some (.own x))(k:∀b u,b≠e->h.get? b=some u->h'.get? b=some u)(Dy:∃u,h'.get? e=some u):Un fs ex H (gb H x o) h h':=by
 have hx:∀b,H b=none->b≠x:=fun b n z=>by subst z;rw[n]at mu;exact mu
 have hb:∀b,H b=none->b≠e:=fun b n z=>by
  subst z
  rcases he with r|r
  ·exact hx b n r
  ·rw[n]at r;cases r
 have hm:∀b u,H b=some u->¬ JA (some u)->b≠x:=fun b u q nm z=>by subst z;rw[q]at mu;exact nm mu
 refine⟨fun b u q n _ _=>k b u (hb b n) q,fun b u q n _ _=>⟨u.slots,k b u (hb b n) q⟩,fun b u q n _=>by rw[cx (hx b n)];exact n,fun b u q _=>?_,
  fun b xs q=>by rw[cx (hm b _ q fun z=>z)];exact q,fun b u xs q=>by rw[cx (hm b _ q fun z=>z)];exact q,fun b ps q=>⟨#[],by rw[cx (hm b _ q fun z=>z),q];simp⟩⟩
 by_cases hbe:b=e
 ·subst hbe;exact Dy
 ·exact⟨u,k b u hbe q⟩
end
def L1(h:Heap)(H:Hp):List Addr:=(List.range h.objs.size).filter fun a=>(H a).isSome
def uH(h:Heap)(H:Hp):Heap:=hideAll h (L1 h H)
theorem zo(h:Heap)(H:Hp):(uH h H).objs.size=h.objs.size:=PySem.W.hideAll_size _ _
theorem AB{h:Heap}{H:Hp}{b:Addr}{o:Obj}(e:h.get? b=some o)(n:H b=none):(uH h H).get? b=some o:=
 PySem.W.hideAll_get _ e fun hm=>by
  have q:(H b).isSome=true:=(dB.mp hm).2
  rw[n]at q;simp at q
theorem DA{h:Heap}{H:Hp}{b:Addr}{o:Obj}(e:(uH h H).get? b=some o):h.get? b=some o/\H b=none:=by
 have e':h.get? b=some o:=of_hideAll (L1 h H) e
 refine⟨e',?_⟩
 cases q:H b with
 |none=>rfl
 |some x=>
  have hm:b∈L1 h H:=dB.mpr ⟨dr.mpr (av e'),by simp[q]⟩
  have z:(uH h H).get? b=none:=PySem.W.hideAll_none (L1 h H) hm
  rw[z]at e;cases e
def DB(g h:Heap)(L:Addr):List (Addr×Obj):=(List.range h.objs.size).filterMap fun a=>if a=L\/(g.get? a).isSome=true then none else(h.get? a).map fun o=>(a,o)
def eS(g h:Heap)(L d:Addr):List (Addr×Obj):=(DB g h L).filter fun p=>decide (p.1≠d)
end L2
namespace L2
variable{nk:Nat}
open PySem PySem.Spec PyProof.Rows
structure Mod(K:Frag)(mg:Str->Option Value)(base:Heap):Prop where
 kin:K.In base
 glob:base.Ns mainGlobals mg
 blt:∃mb,base.Ns builtinsNs mb/\∀x:Str,x ≠ "__name__"->mb x=bootBuiltins x
 nolimit:base.NoLimit
structure Cx where
 prog:Program
 w:World
 K:Frag
 mg:Str->Option Value
 base:Heap
 A:Around
 N:List Str
 s₀:Shared
 H₀:Hp
 env:Env
 outer:List Env
 stack:List Env
 ex:List Addr
 fn:Str->Bool
 calm:Bool
 pn:List (Addr×Obj)
 xe:Value->Shared->Prop
def mQ(l:List Env):List Addr:=l.filterMap (·.frame)
abbrev Cx.fs(X:Cx):List Addr:=mQ X.outer
def JB(sc:Scope)(x:Str):Prop:=sc.names.lookup x=some .local\/sc.names.lookup x=some .cell\/sc.names.lookup x=some .free
def Dp(sc:Scope)(x:Str):Prop:=sc.names.lookup x=some .local\/sc.names.lookup x=some .cell
def Mm(env:Env)(h:Heap)(m:Str->Option Value)(x:Str)(u:Value):Prop:=
 (env.kindOf x=some .local/\m x=some u)\/((env.kindOf x=some .cell\/env.kindOf x=some .free)/\∃c,env.cells.lookup x=some c/\h.IsCell c (some u))
structure Cx.Ok(X:Cx):Prop where
 mod:Mod X.K X.mg X.base
 kind:X.env.scope.kind=.function
 glob:X.env.globals=mainGlobals
 blt:X.env.builtins=builtinsNs
 above:X.s₀.heap.objs.size<=X.env.locals
 inj:∀x y c,X.env.cells.lookup x=some c->X.env.cells.lookup y=some c->x=y
 has:∀x,(X.env.kindOf x=some .cell\/X.env.kindOf x=some .free)->∃c,X.env.cells.lookup x=some c
 cab:∀x c,X.fn x=true->X.env.cells.lookup x=some c->X.s₀.heap.objs.size<=c
 hd:X.calm=true->X.A.handled=none
 frames:X.A.frames=some X.stack
 stk:X.stack=X.outer\/(X.stack=X.env::X.outer/\X.env.frame=some X.env.locals)
 exf:∀b∈X.ex,b≠X.env.locals/\∀x c,X.env.cells.lookup x=some c->c≠b
 bs:∀b o,X.base.get? b=some o->X.s₀.heap.get? b=some o/\X.H₀ b=none
 bsz:X.base.objs.size<=X.s₀.heap.objs.size
 noex:∀b o,X.base.get? b=some o->b∉X.ex
 exfs:∀b∈X.ex,b∉X.fs
 funs:X.s₀.heap.FunFrames X.base X.outer
 frf:∀b∈X.fs,X.H₀ b=none
structure bi(X:Cx)(ae:List (Addr×Obj))(σ:List (Option V))(H:Hp)(s:Shared):Prop where
 ok:X.Ok
 os:s.os=X.s₀.os
 bare:AllBare s.gens
 base:Un X.fs X.ex X.H₀ H X.s₀.heap s.heap
 loc:∃m,s.heap.Ns X.env.locals m/\∀(i:Nat) (x:Str) (v:V),X.N[i]?=some x->σ[i]?=some (some v)->JB X.env.scope x->∃u,cN s.toks v u/\Mm X.env s.heap m x u
 cell:∀x c,X.env.cells.lookup x=some c->∃v,s.heap.IsCell c v
 free:H X.env.locals=none
 freeC:∀x c,X.env.cells.lookup x=some c->H c=none
 pin:∀p∈X.pn++ae,s.heap.get? p.1=some p.2/\H p.1=none/\p.1≠X.env.locals/\p.1∉X.fs/\∀v,p.2.data≠.cell v
 hok:nA X.prog X.w s.toks H s.heap
 len:σ.length=X.N.length
 pos:0<s.toks
 tk:X.s₀.toks<=s.toks
section
variable{X:Cx}{ae:List (Addr×Obj)}{σ:List (Option V)}{H H':Hp}{s:Shared}{h':Heap}
theorem Cx.Ok.nofr(ok:X.Ok){b:Addr}{o:Obj}(e:X.base.get? b=some o):b∉X.fs:=fun hb=>by
 have:=(ok.funs.mem hb).1
 rw[e]at this;cases this
theorem bi.bs(I:bi X ae σ H s):∀b o,X.base.get? b=some o->s.heap.get? b=some o/\H b=none:=fun b o e=>
 ⟨I.base.keep b o (I.ok.bs b o e).1 (I.ok.bs b o e).2 (I.ok.nofr e) (I.ok.noex b o e),I.base.free b o (I.ok.bs b o e).1 (I.ok.bs b o e).2 (I.ok.noex b o e)⟩
theorem bi.bk(I:bi X ae σ H s):∀b o,X.base.get? b=some o->s.heap.get? b=some o:=fun b o e=>(I.bs b o e).1
theorem bi.mod(I:bi X ae σ H s):Mod X.K X.mg X.base:=I.ok.mod
theorem bi.kIn(I:bi X ae σ H s):X.K.In s.heap:=I.ok.mod.kin.keeps I.bk
theorem bi.lt(I:bi X ae σ H s):X.env.locals<s.heap.objs.size:=let ⟨_,hn,_⟩:=I.loc;hn.lt
theorem bi.sz(I:bi X ae σ H s):X.s₀.heap.objs.size<=s.heap.objs.size:=aA I.ok.above (dQ I.lt)
theorem bi.nofs(I:bi X ae σ H s){a:Addr}(h:s.heap.objs.size<=a):a∉X.fs:=fun hb=>by
 obtain⟨_,o,ho,_⟩:=I.ok.funs.mem hb
 exact absurd (ay (av ho) (aA I.sz h)) (b_ _)
theorem bi.cne(I:bi X ae σ H s):∀x c,X.env.cells.lookup x=some c->c≠X.env.locals:=fun x c e z=>by
 obtain⟨v,o,ho,hd⟩:=I.cell x c e
 obtain⟨m,⟨o',es,ep,ho',hd',_⟩,_⟩:=I.loc
 rw[z,ho']at ho;cases ho;rw[hd']at hd;cases hd
theorem bi.funs(I:bi X ae σ H s):s.heap.FunFrames X.base X.outer:=by
 have all:∀(l:List Env),(∀b∈mQ l,b∈X.fs)->X.s₀.heap.FunFrames X.base l->s.heap.FunFrames X.base l:=by
  intro l
  induction l with
  |nil=>intro _ _;trivial
  |cons env r ih=>
   intro hs hl
   obtain⟨hk,⟨L,o,hf,hn,ho,hd⟩,hr⟩:=hl
   have hL:L∈X.fs:=hs L (by unfold mQ;rw[cR,hf];exact bX)
   obtain⟨sl,e⟩:=I.base.slot L o ho (I.ok.frf L hL) hL fun z=>I.ok.exfs L z hL
   exact⟨hk,⟨L,_,hf,hn,e,hd⟩,ih (fun b hb=>hs b (by unfold mQ;rw[cR,hf];exact aW _ hb)) hr⟩
 exact all X.outer (fun _ hb=>hb) I.ok.funs
theorem bi.stack(I:bi X ae σ H s):s.heap.FunFrames X.base X.stack:=by
 rcases I.ok.stk with e|⟨e,hf⟩
 ·rw[e];exact I.funs
 ·rw[e]
  obtain⟨m,hn,_⟩:=I.loc
  refine .cons (by rw[I.ok.kind];decide) hf hn ?_ I.funs
  exact Heap.get?_none_of_le (aA I.ok.bsz I.ok.above)
theorem bi.stkSub(I:bi X ae σ H s):∀b∈mQ X.stack,b∈X.env.locals::X.fs:=fun b hb=>by
 rcases I.ok.stk with e|⟨e,hf⟩
 ·rw[e]at hb;exact aW _ hb
 ·rw[e]at hb
  unfold mQ at hb
  rw[cR,hf]at hb
  exact hb
theorem bi.stkFree(I:bi X ae σ H s):∀b∈mQ X.stack,H b=none:=fun b hb=>by
 rcases aC.mp (I.stkSub b hb)with e|hb
 ·rw[e];exact I.free
 ·obtain⟨_,o,ho,_⟩:=I.ok.funs.mem hb
  exact I.base.free b o ho (I.ok.frf b hb) fun z=>I.ok.exfs b z hb
theorem bi.step{g':Array GenState}{t':Nat}{d':Drawn}{ch:List Addr}(I:bi X ae σ H s)
  (Dz:∀b∈ch,(b∈X.ex\/X.s₀.heap.objs.size<=b)/\b≠X.env.locals/\(∀x c,X.env.cells.lookup x=some c->c≠b)/\∀p∈X.pn++ae,p.1≠b)
  (keep:∀b o,b≠X.env.locals->b∉X.fs->b∉ch->s.heap.get? b=some o->H b=none->h'.get? b=some o)
  (slot:∀b o,b≠X.env.locals->b∈X.fs->b∉ch->s.heap.get? b=some o->H b=none->∃sl,h'.get? b=some { o with slots:=sl }) (free:∀b o,b∉ch->s.heap.get? b=some o->H b=none->H' b=none)
  (there:∀b o,b∉ch->s.heap.get? b=some o->∃o',h'.get? b=some o')
  (tups:∀b xs,H b=some (.tup xs)->H' b=some (.tup xs)) (frzs:∀b o u,H b=some (.frz o u)->H' b=some (.frz o u)) (tbls:∀b ps,H b=some (.tbl ps)->∃more,H' b=some (.tbl (ps++more)))
  (ns:∀m,s.heap.Ns X.env.locals m->h'.Ns X.env.locals m) (hok:nA X.prog X.w t' H' h') (hg:AllBare g') (hk:s.toks<=t') :
  bi X ae σ H' { s with heap:=h',gens:=g',drawn:=d',toks:=t' }:=by
 have neL:∀b o,X.s₀.heap.get? b=some o->b≠X.env.locals:=fun b o e=>aK (ay (av e) I.ok.above)
 have neC:∀b o,X.s₀.heap.get? b=some o->b∉X.ex->b∉ch:=fun b o e hx hb=>by
  rcases(Dz b hb).1 with z|z
  ·exact hx z
  ·exact absurd (ay (av e) z) (b_ _)
 have cellK:∀x c,X.env.cells.lookup x=some c->∀v,s.heap.IsCell c v->h'.IsCell c v:=fun x c e v ⟨o,ho,hd⟩=>by
  have nch:c∉ch:=fun z=>(Dz c z).2.2.1 x c e rfl
  by_cases hc:c∈X.fs
  ·obtain⟨sl,q⟩:=slot c o (I.cne x c e) hc nch ho (I.freeC x c e)
   exact⟨_,q,hd⟩
  ·exact⟨o,keep c o (I.cne x c e) hc nch ho (I.freeC x c e),hd⟩
 refine⟨I.ok,I.os,hg,⟨fun b o e n hb hx=>?_,fun b o e n hb hx=>?_,fun b o e n hx=>?_,fun b o e hx=>?_,fun b xs e=>tups b xs (I.base.tups b xs e),fun b o xs e=>frzs b o xs (I.base.frzs b o xs e),fun b ps e=>?_⟩,?_,fun x c e=>?_,?_,fun x c e=>?_,fun p hp=>?_,hok,I.len,ay I.pos hk,aA I.tk hk⟩
 ·exact keep b o (neL b o e) hb (neC b o e hx) (I.base.keep b o e n hb hx) (I.base.free b o e n hx)
 ·obtain⟨sl,e1⟩:=I.base.slot b o e n hb hx
  obtain⟨sl',e2⟩:=slot b _ (neL b o e) hb (neC b o e hx) e1 (I.base.free b o e n hx)
  exact⟨sl',e2⟩
 ·obtain⟨o',e1⟩:=I.base.there b o e hx
  exact free b o' (neC b o e hx) e1 (I.base.free b o e n hx)
 ·obtain⟨o',e1⟩:=I.base.there b o e hx
  exact there b o' (neC b o e hx) e1
 ·obtain⟨m1,e1⟩:=I.base.tbls b ps e
  obtain⟨m2,e2⟩:=tbls b _ e1
  exact⟨m1++m2,by rw[e2,Array.append_assoc]⟩
 ·obtain⟨m,hn,hl⟩:=I.loc
  refine⟨m,ns m hn,fun i x v e1 e2 e3=>?_⟩
  obtain⟨u,r,l⟩:=hl i x v e1 e2 e3
  refine⟨u,r.up hk,?_⟩
  rcases l with l|⟨k,c,e,z⟩
  ·exact .inl l
  ·exact .inr ⟨k,c,e,cellK x c e _ z⟩
 ·obtain⟨v,z⟩:=I.cell x c e
  exact⟨v,cellK x c e v z⟩
 ·obtain⟨m,⟨o,_,_,ho,_⟩,_⟩:=I.loc
  exact free _ o (fun z=>(Dz _ z).2.1 rfl) ho I.free
 ·obtain⟨v,o,ho,hd⟩:=I.cell x c e
  exact free c o (fun z=>(Dz c z).2.2.1 x c e rfl) ho (I.freeC x c e)
 ·obtain⟨e,n,ne,nf,d⟩:=I.pin p hp
  have nch:p.1∉ch:=fun z=>(Dz p.1 z).2.2.2 p hp rfl
  exact⟨keep p.1 p.2 ne nf nch e n,free p.1 p.2 nch e n,ne,nf,d⟩
theorem bi.un{t':Nat}(I:bi X ae σ H s)(u:Un X.fs [] H H' s.heap h')(hok:nA X.prog X.w t' H' h')(hk:s.toks<=t':=by first|exact ah _|exact a8 _|assumption|omega):bi X ae σ H' { s with heap:=h',toks:=t' }:=by
 obtain⟨m,⟨o,es,ep,ho,r⟩,_⟩:=id I.loc
 obtain⟨sl,hL⟩:=u.any ho I.free (by simp)
 exact I.step (g':=s.gens) (d':=s.drawn) (ch:=[]) (fun _ z=>nomatch z) (fun b o _ hb _ e n=>u.keep b o e n hb (by simp)) (fun b o _ hb _ e n=>u.slot b o e n hb (by simp)) (fun b o _ e n=>u.free b o e n (by simp)) (fun b o _ e=>u.there b o e (by simp)) u.tups u.frzs u.tbls (fun m' hm=>by
  obtain⟨o',es',ep',ho',r'⟩:=hm
  rw[ho]at ho';cases ho'
  exact⟨_,es',ep',hL,r'⟩) hok I.bare hk
theorem bi.call{g':Array GenState}{t':Nat}{d':Drawn}{ch:List Addr}(I:bi X ae σ H s)(u:Un (mQ X.stack) ch H H' s.heap h')(hok:nA X.prog X.w t' H' h')(hg:AllBare g')
  (Dz:∀b∈ch,(b∈X.ex\/X.s₀.heap.objs.size<=b)/\b≠X.env.locals/\(∀x c,X.env.cells.lookup x=some c->c≠b)/\∀p∈X.pn++ae,p.1≠b) (hk:s.toks<=t') :
  bi X ae σ H' { s with heap:=h',gens:=g',drawn:=d',toks:=t' }:=by
 obtain⟨m,⟨o,es,ep,ho,r⟩,_⟩:=id I.loc
 obtain⟨sl,hL⟩:=u.any ho I.free fun z=>(Dz _ z).2.1 rfl
 exact I.step (ch:=ch) Dz (fun b o hL hb hc e n=>u.keep b o e n (fun z=>(aC.mp (I.stkSub b z)).elim hL hb) hc) (fun b o _ _ hc e n=>u.any e n hc) (fun b o hc e n=>u.free b o e n hc) (fun b o hc e=>u.there b o e hc) u.tups u.frzs u.tbls (fun m' hm=>by
  obtain⟨o',es',ep',ho',r'⟩:=hm
  rw[ho]at ho';cases ho'
  exact⟨_,es',ep',hL,r'⟩) hok hg hk
theorem bi.turned{t':Nat}{it:Addr}(I:bi X ae σ H s)(k:∀b o,b≠it->s.heap.get? b=some o->h'.get? b=some o)(hn:H it=none)(hL:it≠X.env.locals)
  (h1:it∈X.ex\/X.s₀.heap.objs.size<=it) (h2:∀x c,X.env.cells.lookup x=some c->c≠it) (h3:∀p∈X.pn++ae,p.1≠it) (hk:s.toks<=t':=by first|exact ah _|exact a8 _|assumption|omega):bi X ae σ H { s with heap:=h',toks:=t' }:=by
 have nit:∀b u,H b=some u->b≠it:=fun b u e z=>by rw[z,hn]at e;cases e
 refine I.step (g':=s.gens) (d':=s.drawn) (ch:=[it]) (fun b hb=>?_) (fun b o _ _ hc e _=>k b o (fun z=>hc (by simp[z])) e) (fun b o _ _ hc e _=>⟨o.slots,k b o (fun z=>hc (by simp[z])) e⟩) (fun _ _ _ _ n=>n)
  (fun b o hc e=>⟨o,k b o (fun z=>hc (by simp[z])) e⟩) (fun _ _ e=>e) (fun _ _ _ e=>e) (fun b ps e=>⟨#[],by rw[e];simp⟩) (fun m hm=>?_) (fun b u e=>?_) I.bare hk
 ·have e:b=it:=by simpa using hb
  subst e
  exact⟨h1,hL,h2,h3⟩
 ·obtain⟨o,es,ep,ho,r⟩:=hm
  exact⟨o,es,ep,k _ o (Ne.symm hL) ho,r⟩
 ·refine((I.hok b u e).up hk).stay (fun c v hc q=>k c v ?_ q) (fun _ q=>q) fun _ _ q=>q
  rcases hc with z|z
  ·rw[z];exact nit b u e
  ·exact nit c _ z
theorem bi.tok(I:bi X ae σ H s)(t:Nat)(hk:s.toks<=t:=by first|exact ah _|exact a8 _|assumption|omega):bi X ae σ H { s with toks:=t }:=I.un (h':=s.heap) (t':=t) Un.refl (I.hok.up hk) hk
theorem bi.kept{t':Nat}(I:bi X ae σ H s)(k:∀b u,s.heap.get? b=some u->h'.get? b=some u)(hk:s.toks<=t':=by first|exact ah _|exact a8 _|assumption|omega):bi X ae σ H { s with heap:=h',toks:=t' }:=I.un (Un.kept k) ((I.hok.kept k).up hk) hk
theorem bi.laid{a:Addr}{o:HO}{t':Nat}(I:bi X ae σ H s)(k:∀b u,s.heap.get? b=some u->h'.get? b=some u)(hp:s.heap.objs.size<=a)(new:dS X.prog X.w t' (gb H a o) h' a o)(hk:s.toks<=t':=by first|exact ah _|exact a8 _|assumption|omega) :
  bi X ae σ (gb H a o) { s with heap:=h',toks:=t' }:=I.un (Un.laid k hp (I.hok.fresh hp)) ((I.hok.up hk).laid k hp new) hk
theorem bi.write{x e:Addr}{o:HO}{t':Nat}(I:bi X ae σ H s)(mu:JA (H x))(he:e=x\/H e=some (.own x))(k:∀b u,b≠e->s.heap.get? b=some u->h'.get? b=some u)(Dy:∃u,h'.get? e=some u)
  (new:dS X.prog X.w t' (gb H x o) h' x o) (hk:s.toks<=t':=by first|exact ah _|exact a8 _|assumption|omega):bi X ae σ (gb H x o) { s with heap:=h',toks:=t' }:=I.un (Un.write mu he k Dy) ((I.hok.up hk).write mu he k Dy new) hk
theorem bi.pins_of{pins':List (Addr×Obj)}(I:bi X ae σ H s)(h:∀p∈pins',s.heap.get? p.1=some p.2/\H p.1=none/\p.1≠X.env.locals/\p.1∉X.fs/\∀v,p.2.data≠.cell v):bi X pins' σ H s:=
 ⟨I.ok,I.os,I.bare,I.base,I.loc,I.cell,I.free,I.freeC,fun p hp=>(aZ.mp hp).elim (fun z=>I.pin p (cZ _ z)) (h p),I.hok,I.len,I.pos,I.tk⟩
theorem rE{N:List Str}(hN:N.Nodup){i j:Nat}{x:Str}(a:N[i]?=some x)(b:N[j]?=some x):i=j:=by
 obtain⟨h1,e1⟩:=al.mp a
 obtain⟨h2,e2⟩:=al.mp b
 exact(List.getElem_inj hN).mp (e1.trans e2.symm)
theorem zp{M:Model}{A:Around}{E:Value->Shared->Prop}{i:Nat}{x:Str}{v:V}{u:Value}{Q:Unit->Shared->Prop}(I:bi X ae σ H s)(hN:X.N.Nodup)(hi:X.N[i]?=some x)(hx:Dp X.env.scope x)(r:cN s.toks v u)
  (h:∀s',bi X ae (σ.set i (some v)) H s'->(∃a,Heap.SameBut a s.heap s'.heap/\(a=X.env.locals\/X.env.cells.lookup x=some a))->Q () s') (hf:X.fn x=true\/X.env.scope.names.lookup x=some .local:=by first|exact .inl rfl|exact .inr rfl|assumption):wpAny M A (storeName X.env x u) Q E s:=by
 obtain⟨m,hn,hl⟩:=id I.loc
 have ym:(X.env.scope.kind==.class||(X.env.scope.kind==.module&&X.env.locals != X.env.globals))=false:=by rw[I.ok.kind];rfl
 have hiσ:i<σ.length:=by rw[I.len];exact(al.mp hi).1
 have cne:=I.cne
 have tracked:∀{a:Addr} {h':Heap},(∃o,s.heap.get? a=some o/\H a=none)->Heap.SameBut a s.heap h'->nA X.prog X.w s.toks H h':=fun{a h'} ha hs b ob e=>by
  obtain⟨_,_,hfree⟩:=ha
  refine(I.hok b ob e).stay (fun c w' hc q=>(hs.2 c ?_).trans q) (fun _ q=>q) fun _ _ q=>q
  rintro rfl
  rcases hc with rfl|hc
  ·rw[hfree]at e;cases e
  ·rw[hfree]at hc;cases hc
 rcases hx with hk|hk
 ·refine mD hk hn (fun h' LR hs=>?_) ym
  obtain⟨oL,_,_,hoL,_⟩:=id hn
  refine h { s with heap:=h',toks:=s.toks+1 } ⟨I.ok,I.os,I.bare,⟨fun b o e n hb hx=>?_,fun b o e n hb hx=>?_,I.base.free,fun b o e hx=>?_,I.base.tups,I.base.frzs,I.base.tbls⟩,⟨_,LR,fun j y v' e1 e2 e3=>?_⟩,fun y c e=>?_,I.free,I.freeC,fun p hp=>?_,(tracked ⟨oL,hoL,I.free⟩ hs).up (a8 _),by simpa using I.len,Nat.succ_pos _,d4 I.tk⟩ ⟨_,hs,.inl rfl⟩
  ·exact(hs.2 b (aK (ay (av e) I.ok.above))).trans (I.base.keep b o e n hb hx)
  ·obtain⟨sl,e1⟩:=I.base.slot b o e n hb hx
   exact⟨sl,(hs.2 b (aK (ay (av e) I.ok.above))).trans e1⟩
  ·obtain⟨o',e1⟩:=I.base.there b o e hx
   exact⟨o',(hs.2 b (aK (ay (av e) I.ok.above))).trans e1⟩
  ·by_cases hj:j=i
   ·subst hj
    rw[hi]at e1;cases e1
    rw[bM hiσ]at e2
    cases e2
    exact⟨u,r.up (a8 _),.inl ⟨hk,by simp⟩⟩
   ·rw[c7 (Ne.symm hj)]at e2
    obtain⟨u',r',q⟩:=hl j y v' e1 e2 e3
    refine⟨u',r'.up (a8 _),?_⟩
    rcases q with⟨k,e⟩|⟨k,c,e,z⟩
    ·refine .inl ⟨k,?_⟩
     have:y≠x:=fun e=>hj (rE hN e1 (e▸hi))
     simp[this,e]
    ·exact .inr ⟨k,c,e,z.sameBut hs (cne y c e)⟩
  ·obtain⟨w',z⟩:=I.cell y c e
   exact⟨w',z.sameBut hs (cne y c e)⟩
  ·obtain⟨e,n,ne,nf,d⟩:=I.pin p hp
   exact⟨(hs.2 p.1 ne).trans e,n,ne,nf,d⟩
 ·have hfn:X.fn x=true:=by
   rcases hf with z|z
   ·exact z
   ·rw[z]at hk;cases hk
  obtain⟨c,hc⟩:=I.ok.has x (.inl hk)
  obtain⟨w',z⟩:=I.cell x c hc
  refine wpAny_storeName_cell I.ok.kind hk hc z (fun h' hc' hs=>?_)
  obtain⟨oc,hoc,hocd⟩:=id z
  refine h { s with heap:=h' } ⟨I.ok,I.os,I.bare,⟨fun b o e n hb hx=>?_,fun b o e n hb hx=>?_,I.base.free,fun b o e hx=>?_,I.base.tups,I.base.frzs,I.base.tbls⟩,⟨m,hn.sameBut hs (Ne.symm (cne x c hc)),fun j y v' e1 e2 e3=>?_⟩,fun y c' e=>?_,I.free,I.freeC,fun p hp=>?_,tracked ⟨oc,hoc,I.freeC x c hc⟩ hs,by simpa using I.len,I.pos,I.tk⟩ ⟨c,hs,.inr hc⟩
  ·exact(hs.2 b (aK (ay (av e) (I.ok.cab x c hfn hc)))).trans (I.base.keep b o e n hb hx)
  ·obtain⟨sl,e1⟩:=I.base.slot b o e n hb hx
   exact⟨sl,(hs.2 b (aK (ay (av e) (I.ok.cab x c hfn hc)))).trans e1⟩
  ·obtain⟨o',e1⟩:=I.base.there b o e hx
   exact⟨o',(hs.2 b (aK (ay (av e) (I.ok.cab x c hfn hc)))).trans e1⟩
  ·by_cases hj:j=i
   ·subst hj
    rw[hi]at e1;cases e1
    rw[bM hiσ]at e2
    cases e2
    exact⟨u,r,.inr ⟨.inl hk,c,hc,hc'⟩⟩
   ·rw[c7 (Ne.symm hj)]at e2
    obtain⟨u',r',q⟩:=hl j y v' e1 e2 e3
    refine⟨u',r',?_⟩
    rcases q with q|⟨k,c',e,z'⟩
    ·exact .inl q
    ·refine .inr ⟨k,c',e,z'.sameBut hs ?_⟩
     rintro rfl
     exact hj (rE hN e1 (I.ok.inj _ _ _ e hc▸hi))
  ·by_cases hcc:c'=c
   ·subst hcc;exact⟨_,hc'⟩
   ·obtain⟨w2,z2⟩:=I.cell y c' e
    exact⟨w2,z2.sameBut hs hcc⟩
  ·obtain⟨e,n,ne,nf,d⟩:=I.pin p hp
   refine⟨(hs.2 p.1 ?_).trans e,n,ne,nf,d⟩
   intro q
   rw[q,hoc]at e
   have q':oc=p.2:=be e
   exact d w' (by rw[<- q'];exact hocd)
theorem rF{M:Model}{A:Around}{E:Value->Shared->Prop}{i:Nat}{x:Str}{v:V}{u:Value}{Q:Unit->Shared->Prop}(I:bi X ae σ H s)(hN:X.N.Nodup)(hi:X.N[i]?=some x)(hx:Dp X.env.scope x)(r:cN s.toks v u)
  (h:∀s',bi X ae (σ.set i (some v)) H s'->Q () s') (hf:X.fn x=true\/X.env.scope.names.lookup x=some .local:=by first|exact .inl rfl|exact .inr rfl|assumption):wpAny M A (storeName X.env x u) Q E s:=
 zp I hN hi hx r (fun s' I' _=>h s' I') hf
theorem bi.call'{s':Shared}{ch:List Addr}(I:bi X ae σ H s)(ho:s'.os=s.os)(u:Un (mQ X.stack) ch H H' s.heap s'.heap)(hok:nA X.prog X.w s'.toks H' s'.heap)(hg:AllBare s'.gens)
  (Dz:∀b∈ch,(b∈X.ex\/X.s₀.heap.objs.size<=b)/\b≠X.env.locals/\(∀x c,X.env.cells.lookup x=some c->c≠b)/\∀p∈X.pn++ae,p.1≠b) (hk:s.toks<=s'.toks):bi X ae σ H' s':=by
 obtain⟨h',g',d',t',o'⟩:=s'
 have e:o'=s.os:=ho
 subst e
 exact I.call (g':=g') (t':=t') (d':=d') u hok hg Dz hk
end
abbrev XK:=Value->Option Addr->Hp->Prop
abbrev St:=List (Option V)
abbrev VK:=V->Hp->Prop
abbrev TE:=St->Hp->VK->Prop
abbrev TT:=St->Hp->(Bool->Hp->Prop)->Prop
abbrev TA:=St->Hp->(List V->Hp->Prop)->Prop
structure vz where
 nx:St->Hp->Prop
 rt:VK
 bk:St->Hp->Prop:=fun _ _=>False
 ct:St->Hp->Prop:=fun _ _=>False
abbrev TS:=vz->St->Hp->Prop
def EP(X:Cx)(ae:List (Addr×Obj))(σ:St)(Q:VK)(u:Value)(s':Shared):Prop:=∃v H',bi X ae σ H' s'/\cN s'.toks v u/\Q v H'
def TP(X:Cx)(ae:List (Addr×Obj))(σ:St)(Q:Bool->Hp->Prop)(b:Bool)(s':Shared):Prop:=∃H',bi X ae σ H' s'/\Q b H'
def AP(X:Cx)(ae:List (Addr×Obj))(σ:St)(Q:List V->Hp->Prop)(us:List Value)(s':Shared):Prop:=∃vs H',bi X ae σ H' s'/\b7 s'.toks vs us/\Q vs H'
def SP(X:Cx)(ae:List (Addr×Obj))(D:vz)(f:Flow)(s':Shared):Prop:=
 match f with
 |.next=>∃σ' H',bi X ae σ' H' s'/\D.nx σ' H'
 |.brk=>∃σ' H',bi X ae σ' H' s'/\D.bk σ' H'
 |.cont=>∃σ' H',bi X ae σ' H' s'/\D.ct σ' H'
 |.ret u=>∃v σ' H',bi X ae σ' H' s'/\cN s'.toks v u/\D.rt v H'
def PE(X:Cx)(e:Expr)(t:TE):Prop:=
 ∀(ae:List (Addr×Obj)) (s:Shared) (σ:St) (H:Hp) (Q:VK),bi X ae σ H s->t σ H Q->wpAny (model X.prog X.w) X.A (eval e X.env) (EP X ae σ Q) X.xe s
def PT(X:Cx)(e:Expr)(t:TT):Prop:=
 ∀(ae:List (Addr×Obj)) (s:Shared) (σ:St) (H:Hp) (Q:Bool->Hp->Prop),bi X ae σ H s->t σ H Q->wpAny (model X.prog X.w) X.A (isTrue e X.env (eval e X.env)) (TP X ae σ Q) X.xe s
def PW(X:Cx)(e:Expr)(t:TT):Prop:=
 ∀(tj:Sem Value) (ae:List (Addr×Obj)) (s:Shared) (σ:St) (H:Hp) (Q:Bool->Hp->Prop),bi X ae σ H s->t σ H Q->wpAny (model X.prog X.w) X.A (isTrue e X.env tj) (TP X ae σ Q) X.xe s
theorem PW.pt{X:Cx}{e:Expr}{t:TT}(h:PW X e t):PT X e t:=h _
def PA(X:Cx)(es:List Expr)(t:TA):Prop:=
 ∀(pos:Pos) (ae:List (Addr×Obj)) (s:Shared) (σ:St) (H:Hp) (Q:List V->Hp->Prop),bi X ae σ H s->t σ H Q->wpAny (model X.prog X.w) X.A (spliced (backTo pos (starEach es X.env))) (AP X ae σ Q) X.xe s
def PS(X:Cx)(st:Stmt)(t:TS):Prop:=
 ∀(ae:List (Addr×Obj)) (s:Shared) (σ:St) (H:Hp) (D:vz),bi X ae σ H s->t D σ H->wpAny (model X.prog X.w) X.A (exec st X.env) (SP X ae D) X.xe s
def yo(X:Cx)(st:List Stmt)(t:TS):Prop:=
 ∀(ae:List (Addr×Obj)) (s:Shared) (σ:St) (H:Hp) (D:vz),bi X ae σ H s->t D σ H->wpAny (model X.prog X.w) X.A (execs st X.env) (SP X ae D) X.xe s
theorem jx{α:Type}{t:Sem α}{Q Q':α->Shared->Prop}{M:Model}{A:Around}{E:Value->Shared->Prop}{s:Shared}(h:wpAny M A t Q E s)(hQ:∀a s',s.toks<=s'.toks->Q a s'->Q' a s'):wpAny M A t Q' E s:=
 up (fP h (fun a s' q k=>hQ a s' k q) fun _ _ x _=>x)
theorem wX{α:Type}{t:Sem α}{Q Q':α->Shared->Prop}{M:Model}{A:Around}{E:Value->Shared->Prop}{s:Shared}(h:wpAny M A t Q E s)(hQ:∀a s,Q a s->Q' a s):wpAny M A t Q' E s:=fP h hQ fun _ _ x=>x
end L2
namespace L2
variable{nk:Nat}
open PySem PySem.Spec PyProof.Rows
section
variable{X:Cx}
def JC(i:Nat):TE:=fun σ H Q=>∃v,σ[i]?=some (some v)/\Q v H
def tC(v:V):TE:=fun _ H Q=>Q v H
theorem Gx{i:Nat}{x:Str}{pos:Pos}(hN:X.N[i]?=some x)(hv:JB X.env.scope x)(hd:(x==("__debug__":Str))=false:=by decide)(tD:(x==("__classdict__":Str))=false:=by decide):PE X (.Name x pos) (JC i):=by
 intro ae s σ H Q I h
 obtain⟨v,e,h⟩:=h
 obtain⟨m,hn,hl⟩:=I.loc
 obtain⟨u,r,l⟩:=hl i x v hN e hv
 have fin:EP X ae σ Q u s:=⟨v,H,I,r,h⟩
 rcases l with⟨hk,hm⟩|⟨hk,c,hc,eU⟩
 ·exact wpAny_Name (wpAny_loadName_local I.ok.kind hk hn hm fin) hd
 ·rcases hk with hk|hk
  ·exact wpAny_Name (wpAny_loadName_cell I.ok.kind hk hc eU fin) hd
  ·exact wpAny_Name (wpAny_loadName_free I.ok.kind hk hc eU fin tD) hd
theorem Gy{i j pos}:PE X (.Constant (.int i) j pos) (tC (.int i)):=fun _ _ _ H _ I h=>wpAny_Constant_int ⟨.int i,H,I.tok _,⟨_,rfl⟩,h⟩
theorem JD{b j pos}:PE X (.Constant (.bool b) j pos) (tC (.bl b)):=fun _ _ _ H _ I h=>Constant_bool ⟨.bl b,H,I,rfl,h⟩
theorem bi.tkS{ae:List (Addr×Obj)}{σ:St}{H:Hp}{s:Shared}{x:Str}(I:bi X ae σ H s):cN (s.toks+1) (.str x) (.str x s.toks):=⟨⟨s.toks,fun _=>⟨I.pos,bB _⟩⟩,rfl⟩
theorem Gz{x j pos}:PE X (.Constant (.str x) j pos) (tC (.str x)):=fun _ _ _ H _ I h=>Calls.Constant_str ⟨.str x,H,I.tok _,I.tkS,h⟩
def Gl(X:Cx)(x:Str):Prop:=X.env.kindOf x=some .globalImplicit
theorem nB{E:Value->Shared->Prop}{ae:List (Addr×Obj)}{s:Shared}{σ:St}{H:Hp}{x:Str}{u:Value}{pos:Pos}{Q:Value->Shared->Prop}(I:bi X ae σ H s)(hg:Gl X x)(hm:X.mg x=some u)(h:Q u s)
  (hd:(x==("__debug__":Str))=false:=by decide):wpAny (model X.prog X.w) X.A (eval (.Name x pos) X.env) Q E s:=
 jU I.ok.kind hg (Calls.loadGlobal_global (by rw[I.ok.glob];exact I.mod.glob.keeps I.bk) hm h) hd
theorem lL{E:Value->Shared->Prop}{ae:List (Addr×Obj)}{s:Shared}{σ:St}{H:Hp}{x:Str}{u:Value}{pos:Pos}{Q:Value->Shared->Prop}(I:bi X ae σ H s)(hg:Gl X x)(hm:X.mg x=none)(hv:bootBuiltins x=some u)(h:Q u s)
  (hn:x ≠ "__name__":=by decide) (hd:(x==("__debug__":Str))=false:=by decide):wpAny (model X.prog X.w) X.A (eval (.Name x pos) X.env) Q E s:=by
 obtain⟨mb,h1,h2⟩:=I.mod.blt
 exact jU I.ok.kind hg (Calls.loadGlobal_builtin (by rw[I.ok.glob];exact I.mod.glob.keeps I.bk) hm (by rw[I.ok.blt];exact h1.keeps I.bk) ((h2 x hn).trans hv) h) hd
theorem DC{x:Str}{v:V}{u:Value}{pos:Pos}(hg:Gl X x)(hm:X.mg x=some u)(r:cN 0 v u)(hd:(x==("__debug__":Str))=false:=by decide):PE X (.Name x pos) (tC v):=
 fun _ _ _ H _ I h=>nB I hg hm ⟨v,H,I,r.up (br _),h⟩ hd
theorem yp{x:Str}{v:V}{u:Value}{pos:Pos}(hg:Gl X x)(hm:X.mg x=none)(hv:bootBuiltins x=some u)(r:cN 0 v u)(hn:x ≠ "__name__":=by decide)(hd:(x==("__debug__":Str))=false:=by decide):PE X (.Name x pos) (tC v):=
 fun _ _ _ H _ I h=>lL I hg hm hv ⟨v,H,I,r.up (br _),h⟩ hn hd
variable{a b:Expr}{ta tb:TE}{pos:Pos}
def PC(X:Cx)(op:CmpOp)(a b:Expr)(t:TE):Prop:=
 ∀(ae:List (Addr×Obj)) (s:Shared) (σ:St) (H:Hp) (Q:VK),bi X ae σ H s->t σ H Q ->
  wpAny (model X.prog X.w) X.A (eval a X.env) (fun v s₁=>wpAny (model X.prog X.w) X.A (eval b X.env) (fun u s₂=>wpAny (model X.prog X.w) X.A (compareOp op v u) (EP X ae σ Q) X.xe s₂) X.xe s₁) X.xe s
theorem vA(b:Expr){op:CmpOp}(h:op≠.In)(h2:op≠.NotIn):behindInMarks op b=false:=by
 have e1:(op==CmpOp.In)=false:=by cases op<;>first|rfl|exact absurd rfl h
 have e2:(op==CmpOp.NotIn)=false:=by cases op<;>first|rfl|exact absurd rfl h2
 cases b<;>simp[behindInMarks,e1,e2]
def JE(ta:TE):TE:=fun σ H Q=>ta σ H fun x H1=>Q (.bl (decide (x=.non))) H1
theorem cN.none_iff{x:V}{v:Value}(r:cN nk x v):(v==Value.none)=decide (x=.non):=by
 cases x with
 |non=>cases r;rfl
 |bl _=>cases r;rfl
 |int _=>obtain⟨t,rfl⟩:=r;rfl
 |str _=>obtain⟨t,rfl⟩:=r;rfl
 |byt _=>obtain⟨t,rfl⟩:=r;rfl
 |flt _=>obtain⟨t,rfl⟩:=r;rfl
 |ref _=>cases r;rfl
 |ty _=>cases r;rfl
theorem AC{j jp}(ha:PE X a ta):PC X .Is a (.Constant .none j jp) (JE ta):=by
 intro ae s σ H Q I h
 refine jx (ha ae s σ H _ I h) fun v s1 kt1 ⟨x,H1,I1,r1,q1⟩=>?_
 exact Constant_none (is_none_gen ⟨.bl _,H1,I1,by rw[r1.none_iff];rfl,q1⟩)
def tB(t:TE):TT:=fun σ H Q=>t σ H fun x H1=>∃c,x=.bl c/\Q c H1
theorem GA{op:CmpOp}{t:TE}(h:PC X op a b t)(h1:behindInMarks op b=false:=by first|exact vA _ (by decide) (by decide)|rfl):PE X (.Compare a [op] [b] pos) t:=fun ae s σ H Q I hw=>wpAny_Compare1 (h ae s σ H Q I hw) h1
theorem GB{op:CmpOp}{t:TE}(h:PC X op a b t)(h1:behindInMarks op b=false:=by first|exact vA _ (by decide) (by decide)|rfl):PT X (.Compare a [op] [b] pos) (tB t):=by
 intro ae s σ H Q I hw
 refine mE (wX (h ae s σ H _ I hw) fun v s1 h1=>wX h1 fun u s2 h2=>wX h2 fun c s3 ⟨x,H1,I1,r1,q1⟩=>?_) h1
 obtain⟨d,rfl,q⟩:=q1
 cases r1
 exact e6 ⟨H1,I1,q⟩
theorem GC{e:Expr}{t:TE}(h:PE X e t)(he:∀tj,isTrue e X.env tj=(do let v <- tj;standAt e.pos;holding [v] (truthy v)):=by intro _;rfl):PT X e (tB t):=by
 intro ae s σ H Q I hw
 refine isTrue_plain (jx (h ae s σ H _ I hw) fun v s1 kt1 ⟨x,H1,I1,r1,q1⟩=>?_) (he _)
 obtain⟨d,rfl,q⟩:=q1
 cases r1
 exact e6 ⟨H1,I1,q⟩
variable{tA LS:TT}{eS:List Expr}
def Mn(t u:TT):TT:=fun σ H Q=>t σ H fun c H1=>if c=true then u σ H1 Q else Q false H1
def NL(t u:TT):TT:=fun σ H Q=>t σ H fun c H1=>if c=true then Q true H1 else u σ H1 Q
def Mo(t:TT):TT:=fun σ H Q=>t σ H fun c H1=>Q (!c) H1
theorem DD(ha:PT X a tA):PW X (.BoolOp .And [a] pos) tA:=by
 intro wh ae s σ H Q I h
 refine isTrue_and (wX (ha ae s σ H Q I h) fun c s1 e=>?_)
 cases c with
 |true=>exact isTrue_and_nil e
 |false=>exact e
theorem GD(ha:PT X a tA):PW X (.BoolOp .Or [a] pos) tA:=by
 intro wh ae s σ H Q I h
 refine isTrue_or (wX (ha ae s σ H Q I h) fun c s1 e=>?_)
 cases c with
 |false=>exact isTrue_or_nil e
 |true=>exact e
theorem GE(ha:PT X a tA)(hb:PW X (.BoolOp .And (b::eS) pos) LS):PW X (.BoolOp .And (a::b::eS) pos) (Mn tA LS):=by
 intro wh ae s σ H Q I h
 refine isTrue_and (jx (ha ae s σ H _ I h) fun c s1 kt1 ⟨H1,I1,q1⟩=>?_)
 cases c with
 |true=>exact hb wh ae s1 σ H1 Q I1 q1
 |false=>exact⟨H1,I1,q1⟩
theorem JF(ha:PT X a tA)(hb:PW X (.BoolOp .Or (b::eS) pos) LS):PW X (.BoolOp .Or (a::b::eS) pos) (NL tA LS):=by
 intro wh ae s σ H Q I h
 refine isTrue_or (jx (ha ae s σ H _ I h) fun c s1 kt1 ⟨H1,I1,q1⟩=>?_)
 cases c with
 |true=>exact⟨H1,I1,q1⟩
 |false=>exact hb wh ae s1 σ H1 Q I1 q1
theorem GF(ha:PT X a tA):PT X (.UnaryOp .Not a pos) (Mo tA):=by
 intro ae s σ H Q I h
 exact isTrue_not (ha ae s σ H (fun c H1=>Q (!c) H1) I h)
def JG(ta tb:TE):TE:=fun σ H Q=>ta σ H fun x H1=>∃c,x=.bl c/\if c=true then tb σ H1 Q else Q (.bl false) H1
def Mp(ta tb:TE):TE:=fun σ H Q=>ta σ H fun x H1=>∃c,x=.bl c/\if c=true then Q (.bl true) H1 else tb σ H1 Q
def JH(ta:TE):TE:=fun σ H Q=>ta σ H fun x H1=>∃c,x=.bl c/\Q (.bl (!c)) H1
theorem GG{op}{t:TE}(h:PE X a t):PE X (.BoolOp op [a] pos) t:=fun ae s σ H Q I hw=>BoolOp_one (h ae s σ H Q I hw)
theorem GH(ha:PE X a ta)(hb:PE X (.BoolOp .And (b::eS) pos) tb):PE X (.BoolOp .And (a::b::eS) pos) (JG ta tb):=by
 intro ae s σ H Q I h
 refine BoolOp_and (jx (ha ae s σ H _ I h) fun v s1 kt1 ⟨x,H1,I1,r1,q1⟩=>?_)
 obtain⟨c,rfl,q1⟩:=q1
 cases r1
 refine e6 ?_
 cases c with
 |true=>exact hb ae s1 σ H1 Q I1 q1
 |false=>exact⟨.bl false,H1,I1,rfl,q1⟩
theorem JI(ha:PE X a ta)(hb:PE X (.BoolOp .Or (b::eS) pos) tb):PE X (.BoolOp .Or (a::b::eS) pos) (Mp ta tb):=by
 intro ae s σ H Q I h
 refine BoolOp_or (jx (ha ae s σ H _ I h) fun v s1 kt1 ⟨x,H1,I1,r1,q1⟩=>?_)
 obtain⟨c,rfl,q1⟩:=q1
 cases r1
 refine e6 ?_
 cases c with
 |false=>exact hb ae s1 σ H1 Q I1 q1
 |true=>exact⟨.bl true,H1,I1,rfl,q1⟩
theorem GI(ha:PE X a ta):PE X (.UnaryOp .Not a pos) (JH ta):=by
 intro ae s σ H Q I h
 refine UnaryOp_ (jx (ha ae s σ H _ I h) fun v s1 kt1 ⟨x,H1,I1,r1,q1⟩=>?_)
 obtain⟨c,rfl,q1⟩:=q1
 cases r1
 exact not_of (e6 ⟨.bl (!c),H1,I1,rfl,q1⟩)
end
end L2
namespace L2
variable{nk:Nat}
open PySem PySem.Spec PyProof.Rows
def pW(K:Frag)(H:Hp)(a:Addr)(xs:List V):Prop:=
 Rd H a (.lst xs) \/
  ∃(o:Obj) (bv:Array Value) (n:Nat),K.lookup a=some o/\o.cls=.type "list"/\o.dict=none/\o.data=.seq bv n/\bv.size<=sizeLine/\b7 0 xs bv.toList
def gH(K:Frag)(H:Hp)(a:Addr)(xs:List V):Prop:=
 Rd H a (.tup xs) \/
  ∃(o:Obj) (bv:Array Value) (n:Nat),K.lookup a=some o/\o.cls=.type "tuple"/\o.data=.seq bv n/\bv.size<=sizeLine/\b7 0 xs bv.toList
def Mq:Value->Option V
 |.none=>some .non
 |.bool b=>some (.bl b)
 |.int i _=>some (.int i)
 |.str x _=>some (.str x)
 |.bytes b _=>some (.byt b)
 |.float b _=>some (.flt b)
 |.ref a=>some (.ref a)
 |.type n=>some (.ty n)
 |_=>none
theorem cN.abs{x:V}{u:Value}(r:cN nk x u):Mq u=some x:=by
 cases x with
 |non=>cases r;rfl
 |bl _=>cases r;rfl
 |int _=>obtain⟨t,rfl⟩:=r;rfl
 |str _=>obtain⟨t,rfl⟩:=r;rfl
 |byt _=>obtain⟨t,rfl⟩:=r;rfl
 |flt _=>obtain⟨t,rfl⟩:=r;rfl
 |ref _=>cases r;rfl
 |ty _=>cases r;rfl
theorem cN.inj{x y:V}{u:Value}(r:cN nk x u)(q:cN nk y u):x=y:=be (r.abs.symm.trans q.abs)
theorem b7.inj:∀{xs ys:List V} {us:List Value},b7 nk xs us->b7 nk ys us->xs=ys
 |_,_,_,.nil,.nil=>rfl
 |_,_,_,.cons r t,.cons r' t'=>by rw[r.inj r',b7.inj t t']
section
variable{X:Cx}{ae:List (Addr×Obj)}{σ:St}{H:Hp}{s:Shared}{a:Addr}{xs ys:List V}
theorem pW.of{K:Frag}(h:H a=some (.lst xs)):pW K H a xs:=.inl (.inl h)
theorem gH.of{K:Frag}(h:H a=some (.tup xs)):gH K H a xs:=.inl (.inl h)
theorem bi.list(I:bi X ae σ H s)(h:pW X.K H a xs):∃bv:List Value,b7 s.toks xs bv/\PlainL s.heap a bv.toArray/\xs.length<=sizeLine:=by
 rcases h with h|⟨o,bv,n,hk,hc,hd,hs,hz,r⟩
 ·obtain⟨z,bv,n,r,e⟩:=h.ok I.hok
  exact⟨bv,r,⟨_,n,e,rfl,rfl,rfl⟩,z⟩
 ·refine⟨bv.toList,r.up (br _),⟨o,n,I.kIn a o hk,hc,hd,by simpa using hs⟩,?_⟩
  have e:=r.length
  simp only[aO]at e
  omega
theorem bi.tuple(I:bi X ae σ H s)(h:gH X.K H a xs):∃bv:List Value,b7 s.toks xs bv/\IsTup s.heap a bv.toArray/\xs.length<=sizeLine:=by
 rcases h with h|⟨o,bv,n,hk,hc,hs,hz,r⟩
 ·obtain⟨z,bv,r,p⟩:=h.ok I.hok
  exact⟨bv,r,p,z⟩
 ·refine⟨bv.toList,r.up (br _),⟨o,I.kIn a o hk,hc,n,by simpa using hs⟩,?_⟩
  have e:=r.length
  simp only[aO]at e
  omega
theorem bi.list_inj(I:bi X ae σ H s)(h:pW X.K H a xs)(h':pW X.K H a ys):xs=ys:=by
 obtain⟨bv,r,⟨o,n,e,_,_,d⟩,_⟩:=I.list h
 obtain⟨its',r',⟨o',n',e',_,_,d'⟩,_⟩:=I.list h'
 rw[e]at e';cases e'
 rw[d]at d'
 injection d' with d1 _
 have:bv=its':=by simpa using eL Array.toList d1
 subst this
 exact r.inj r'
theorem bi.tuple_inj(I:bi X ae σ H s)(h:gH X.K H a xs)(h':gH X.K H a ys):xs=ys:=by
 obtain⟨bv,r,⟨o,e,_,n,d⟩,_⟩:=I.tuple h
 obtain⟨its',r',⟨o',e',_,n',d'⟩,_⟩:=I.tuple h'
 rw[e]at e';cases e'
 rw[d]at d'
 injection d' with d1 _
 have:bv=its':=by simpa using eL Array.toList d1
 subst this
 exact r.inj r'
end
section
variable{X:Cx}{ae:List (Addr×Obj)}{σ:St}{H:Hp}{s:Shared}{E:Value->Shared->Prop}
end
section
variable{X:Cx}{st:Stmt}{eS:List Stmt}{t u:TS}{e:Expr}{te:TE}{pos:Pos}
def JJ:TS:=fun D σ H=>D.nx σ H
def Mr(t u:TS):TS:=fun D σ H=>t { D with nx:=u D } σ H
theorem DE:yo X [] JJ:=fun _ _ σ H _ I h=>gU ⟨σ,H,I,h⟩
theorem AD(h1:PS X st t)(h2:yo X eS u):yo X (st::eS) (Mr t u):=by
 intro ae s σ H D I h
 refine wpAny_execs_cons (wX (h1 ae s σ H { D with nx:=u D } I h) fun f s1 q=>?_)
 cases f with
 |next=>
  obtain⟨σ',H',I',q⟩:=q
  exact h2 ae s1 σ' H' D I' q
 |ret v=>exact q
 |brk=>exact q
 |cont=>exact q
theorem DF(h1:PS X st t):yo X [st] t:=by
 intro ae s σ H D I h
 refine wpAny_execs_cons (wX (h1 ae s σ H D I h) fun f s1 q=>?_)
 cases f with
 |next=>exact gU q
 |ret v=>exact q
 |brk=>exact q
 |cont=>exact q
theorem bi.quiet{ae:List (Addr×Obj)}{σ:St}{H:Hp}{s:Shared}(I:bi X ae σ H s):interactive X.env=false:=by simp[interactive,I.ok.kind]
def JK(te:TE):TS:=fun D σ H=>te σ H fun _ H1=>D.nx σ H1
theorem DG(he:PE X e te)(hs:swapsWith e none pos.line X.env=pure false:=by rfl):PS X (.Expr e pos) (JK te):=by
 intro ae s σ H D I h
 exact wpAny_Expr_any (jx (he ae s σ H _ I h) fun v s1 kt1 ⟨x,H1,I1,r1,q1⟩=>⟨σ,H1,I1,q1⟩) I.quiet hs
def Ms(te:TE):TS:=fun D σ H=>te σ H D.rt
theorem GJ(he:PE X e te):PS X (.Return (some e) pos) (Ms te):=by
 intro ae s σ H D I h
 exact wpAny_Return_some (jx (he ae s σ H _ I h) fun v s1 kt1 ⟨x,H1,I1,r1,q1⟩=>⟨x,σ,H1,I1,r1,q1⟩)
def Mt(c:TT)(t u:TS):TS:=fun D σ H=>c σ H fun b H1=>if b=true then t D σ H1 else u D σ H1
theorem JL{c:Expr}{a b:List Stmt}{tc:TT}(hc:PT X c tc)(ha:yo X a t)(hb:yo X b u):PS X (.If c a b pos) (Mt tc t u):=by
 intro ae s σ H D I h
 refine wpAny_If (jx (hc ae s σ H _ I h) fun d s1 kt1 ⟨H1,I1,q1⟩=>?_)
 cases d with
 |true=>exact ha ae s1 σ H1 D I1 q1
 |false=>exact hb ae s1 σ H1 D I1 q1
end
abbrev TG:=V->St->Hp->(St->Hp->Prop)->Prop
abbrev DH:=List V->St->Hp->(St->Hp->Prop)->Prop
def PG(X:Cx)(Ji:Expr)(t:TG):Prop:=
 ∀(ae:List (Addr×Obj)) (s:Shared) (σ:St) (H:Hp) (v:V) (u:Value) (Q:St->Hp->Prop),bi X ae σ H s->cN s.toks v u->t v σ H Q ->
  wpAny (model X.prog X.w) X.A (assign Ji X.env u) (fun _ s'=>∃σ' H',bi X ae σ' H' s'/\Q σ' H') X.xe s
def Fh(X:Cx)(ts:List Expr)(t:DH):Prop:=
 ∀(ae:List (Addr×Obj)) (s:Shared) (σ:St) (H:Hp) (vs:List V) (us:List Value) (Q:St->Hp->Prop),bi X ae σ H s->b7 s.toks vs us->t vs σ H Q ->
  wpAny (model X.prog X.w) X.A (assignInOrder ((assignEach ts X.env).map (·.2)) us) (fun _ s'=>∃σ' H',bi X ae σ' H' s'/\Q σ' H') X.xe s
abbrev DI:=V->V->V->Hp->(Hp->Prop)->Prop
def GK(X:Cx)(t:DI):Prop:=
 ∀(ae:List (Addr×Obj)) (s:Shared) (σ:St) (H:Hp) (o i v:V) (ov iv u:Value) (Q:Hp->Prop),bi X ae σ H s->cN s.toks o ov->cN s.toks i iv->cN s.toks v u->t o i v H Q ->
  wpAny (model X.prog X.w) X.A (setItem ov iv u) (fun _ s'=>∃H',bi X ae σ H' s'/\Q H') X.xe s
section
variable{X:Cx}{pos:Pos}
def Fi(i:Nat):TG:=fun v σ H Q=>Q (σ.set i (some v)) H
theorem DJ{i:Nat}{x:Str}(hN:X.N.Nodup)(hi:X.N[i]?=some x)(hx:Dp X.env.scope x)(hf:X.fn x=true\/X.env.scope.names.lookup x=some .local:=by first|exact .inl rfl|exact .inr rfl|assumption):PG X (.Name x pos) (Fi i):=by
 intro ae s σ H v u Q I r h
 exact wpAny_assign_Name (rF I hN hi hx r (fun s' I'=>⟨_,H,I',h⟩) hf)
def Mu:DH:=fun vs σ H Q=>vs=[]/\Q σ H
def JM(t:TG)(u:DH):DH:=fun vs σ H Q=>∃v r,vs=v::r/\t v σ H fun σ' H'=>u r σ' H' Q
theorem DL:Fh X [] Mu:=by
 intro ae s σ H vs us Q I r h
 obtain⟨e,h⟩:=h
 subst e
 cases r
 exact assignInOrder_nil ⟨σ,H,I,h⟩
theorem AE{e:Expr}{es:List Expr}{t:TG}{u:DH}(h1:PG X e t)(h2:Fh X es u)
  (hs:(assignEach (e::es) X.env).map (·.2)=assign e X.env::(assignEach es X.env).map (·.2):=by rfl):Fh X (e::es) (JM t u):=by
 intro ae s σ H vs us Q I r h
 obtain⟨v,vr,e1,h⟩:=h
 subst e1
 cases r with
 |cons r rr=>
  rw[hs]
  refine assignInOrder_cons (jx (h1 ae s σ H _ _ _ I r h) fun _ s1 kt1 ⟨σ1,H1,I1,q1⟩=>?_)
  exact h2 ae s1 σ1 H1 _ _ Q I1 (b7.up kt1 rr) q1
def Mv(K:Frag)(n:Nat)(t:DH):TG:=fun v σ H Q=>∃a xs,v=.ref a/\gH K H a xs/\xs.length=n/\t xs σ H Q
theorem GL{es:List Expr}{k:Nat}{t:DH}{n:Nat}(hc:X.calm=true)(h:Fh X es t)
  (hn:(assignEach es X.env).length=n:=by rfl) (jq:(assignEach es X.env).findIdx? (·.1)=none:=by rfl):PG X (.Tuple es k pos) (Mv X.K n t):=by
 intro ae s σ H v u Q I r hw
 obtain⟨a,xs,e1,hq,hl,hw⟩:=hw
 subst e1
 cases r
 obtain⟨bv,rv,ht,hz⟩:=I.tuple hq
 refine assign_Tuple_tuple (I.ok.hd hc) ht (by simp[hn,<- hl,rv.length]) jq fun h' hx=>?_
 have I1:bi X ae σ H { s with heap:=h' }:=I.kept (t':=s.toks) fun b o e=>hx b o (aK (av e)) e
 exact h ae _ σ H xs _ Q I1 (by simpa using rv) hw
def Mw(to ti:TE)(t:DI):TG:=fun v σ H Q=>to σ H fun o H1=>ti σ H1 fun i H2=>t o i v H2 fun H3=>Q σ H3
theorem GM{o i:Expr}{to ti:TE}{t:DI}(ho:PE X o to)(hi:PE X i ti)(hs:GK X t)
  (ha:∀v,assign (.Subscript o i pos) X.env v=(do
   let ov <- holding [v] (eval o X.env)
   let iv <- holding [v,ov] (eval i X.env)
   standAt pos
   holding [v,ov,iv] (setItem ov iv v)
   release [v,ov,iv] []):=by intro _;rfl):PG X (.Subscript o i pos) (Mw to ti t):=by
 intro ae s σ H v u Q I r h
 rw[ha]
 refine aa (bE (jx (ho ae s σ H _ I h) fun ov s1 kt1 ⟨x,H1,I1,r1,q1⟩=>?_))
 refine aa (bE (jx (hi ae s1 σ H1 _ I1 q1) fun iv s2 kt2 ⟨y,H2,I2,r2,q2⟩=>?_))
 refine aa (n_ (aa (bE (jx (hs ae s2 σ H2 x y v ov iv u _ I2 (r1.up kt2) r2 (r.up (aA kt1 kt2)) q2) fun _ s3 kt3 ⟨H3,I3,q3⟩=>?_))))
 exact wpAny_release ⟨σ,H3,I3,q3⟩
def DM(te:TE)(g:TG):TS:=fun D σ H=>te σ H fun x H1=>g x σ H1 D.nx
theorem GN{tg e:Expr}{te:TE}{g:TG}(he:PE X e te)(hg:PG X tg g)(hs:swapsWithSole [tg] e pos.line X.env=pure false:=by rfl)(hw:swappedStores [tg] e X.env=pure none:=by rfl)
  (h1:(assignEach [tg] X.env).map (·.2)=[assign tg X.env]:=by rfl):PS X (.Assign [tg] e pos) (DM te g):=by
 intro ae s σ H D I h
 refine wpAny_Assign_stores (jx (he ae s σ H _ I h) fun v s1 kt1 ⟨x,H1,I1,r1,q1⟩=>?_) hs hw
 rw[h1]
 exact wX (hg ae s1 σ H1 x v _ I1 r1 q1) fun _ s2 q=>q
theorem GO{i:Nat}{x:Str}{e:Expr}{te:TE}{jp:Pos}(hN:X.N.Nodup)(hi:X.N[i]?=some x)(hx:Dp X.env.scope x)(he:PE X e te)(hs:swapsWith e (some (.Name x jp)) pos.line X.env=pure false:=by rfl)(hf:X.fn x=true\/X.env.scope.names.lookup x=some .local:=by first|exact .inl rfl|exact .inr rfl|assumption) :
  PS X (.Assign [.Name x jp] e pos) (DM te (Fi i)):=by
 intro ae s σ H D I h
 refine wpAny_Assign_Name (jx (he ae s σ H _ I h) fun v s1 kt1 ⟨y,H1,I1,r1,q1⟩=>?_) hs
 exact rF I1 hN hi hx r1 (fun s2 I2=>⟨_,H1,I2,q1⟩) hf
end
section
variable{X:Cx}{pos:Pos}
def AF(c:TT)(tb:TS):TS:=fun D σ H=>∃W:Nat->St->Hp->Prop,(∃m,W m σ H)/\∀m σ H,W m σ H ->
 c σ H fun b H1=>if b=true then ∃N:St->Hp->Prop,(∀σ' H',N σ' H'->∃m',m'<m/\W m' σ' H')/\tb { D with nx:=N,ct:=N,bk:=D.nx } σ H1 else D.nx σ H1
theorem AG{c:Expr}{body:List Stmt}{tc:TT}{tb:TS}(hp:PassesOwn (model X.prog X.w) X.A X.env X.xe)(hc:PT X c tc)(hb:yo X body tb):PS X (.While c body [] pos) (AF tc tb):=by
 intro ae s σ H D I h
 obtain⟨W,⟨m0,w0⟩,turn⟩:=h
 refine wpAny_While (codeAny_whileLoop (fun n s'=>∃σ' H',bi X ae σ' H' s'/\W n σ' H') ?_ m0 ⟨σ,H,I,w0⟩)
 rintro n s1 ⟨σ1,H1,I1,w1⟩
 refine eX hp (jx (hc ae s1 σ1 H1 _ I1 (turn n σ1 H1 w1)) fun b s2 kt2 ⟨H2,I2,q2⟩=>?_)
 cases b with
 |true=>
  obtain⟨N,hN,q2⟩:=q2
  rw[am rfl]
  refine eX hp (wX (hb ae s2 σ1 H2 _ I2 q2) fun f s3 q3=>?_)
  cases f with
  |next=>
   obtain⟨σ3,H3,I3,n3⟩:=q3
   obtain⟨m',hm,w3⟩:=hN σ3 H3 n3
   exact⟨m',hm,σ3,H3,I3,w3⟩
  |cont=>
   obtain⟨σ3,H3,I3,n3⟩:=q3
   obtain⟨m',hm,w3⟩:=hN σ3 H3 n3
   exact⟨m',hm,σ3,H3,I3,w3⟩
  |brk=>exact q3
  |ret v=>exact q3
 |false=>
  rw[au cD]
  exact gU ⟨σ1,H2,I2,q2⟩
end
structure It where
 go:Nat->Hp->Prop
 yld:Nat->Hp->V->Hp->Prop
 stop:Nat->Hp->Prop
def qQ(X:Cx)(ae:List (Addr×Obj))(H:Hp)(b:Addr):Prop:=
 H b=none/\b≠X.env.locals/\b∉X.fs/\(b∈X.ex\/X.s₀.heap.objs.size<=b)/\(∀x c,X.env.cells.lookup x=some c->c≠b)/\∀p∈X.pn++ae,p.1≠b
theorem bi.fpOk{X:Cx}{ae:List (Addr×Obj)}{σ:St}{H H':Hp}{s:Shared}{b:Addr}(I:bi X ae σ H s)(hb:s.heap.objs.size<=b)(hn:H' b=none):qQ X ae H' b:=by
 refine⟨hn,du (ay I.lt hb),I.nofs hb,.inr (aA I.sz hb),fun x c e z=>?_,fun p hp z=>?_⟩
 ·obtain⟨v,q⟩:=I.cell x c e
  exact absurd (ay q.lt (by rw[z];exact hb)) (b_ _)
 ·exact absurd (ay (av (I.pin p hp).1) (by rw[z];exact hb)) (b_ _)
structure zq(P:Program)(w:World)(K:Frag)(tg:Expr)(J:It)(fp:List Addr)(it:Addr)(tn:Nat->Heap->Prop):Prop where
 mem:it∈fp
 obj:∀i h,tn i h->∀b∈fp,∃o,h.get? b=some o/\∀v,o.data≠.cell v
 keep:∀i h h',tn i h->(∀b∈fp,∀o,h.get? b=some o->h'.get? b=some o)->tn i h'
 item:∀(X:Cx),X.prog=P->X.w=w->X.K=K->X.calm=true->∀(i:Nat) (ae:List (Addr×Obj)) (s:Shared) (σ:St) (H:Hp) (E:Value->Shared->Prop),bi X ae σ H s->(∀b∈fp,qQ X ae H b)->tn i s.heap->J.go i H ->
  wpAny (model P w) X.A (pyNext (.ref it)) (fun r s1=>∃u,r=some u /\
   wpAny (model P w) X.A (letOwnedTupleGo tg (.ref it) u) (fun _ s2=>∃x H',bi X ae σ H' s2/\cN s2.toks x u/\J.yld i H x H'/\tn (i+1) s2.heap/\∀b∈fp,H' b=none) E s1) E s
 done:∀(X:Cx),X.prog=P->X.w=w->X.K=K->X.calm=true->∀(i:Nat) (ae:List (Addr×Obj)) (s:Shared) (σ:St) (H:Hp) (E:Value->Shared->Prop),bi X ae σ H s->(∀b∈fp,qQ X ae H b)->tn i s.heap->J.stop i H ->
  wpAny (model P w) X.A (pyNext (.ref it)) (fun r s1=>r=none/\bi X ae σ H s1) E s
 self:∀(A:Around) (i:Nat) (s:Shared) (Q:Value->Shared->Prop) (E:Value->Shared->Prop),tn i s.heap->Q (.ref it) s->wpAny (model P w) A (pyIter (.ref it)) Q E s
abbrev TI:=St->Hp->(It->Hp->Prop)->Prop
def Nm(X:Cx)(ae:List (Addr×Obj))(σ:St)(tg:Expr)(R:It->Hp->Prop)(Nl:Value)(s2:Shared):Prop:=
 ∃(it:Addr) (fp:List Addr) (tn:Nat->Heap->Prop) (J:It) (H':Hp),Nl=.ref it/\bi X ae σ H' s2/\zq X.prog X.w X.K tg J fp it tn/\tn 0 s2.heap/\(∀b∈fp,qQ X ae H' b)/\R J H'
def PI(X:Cx)(tg dq:Expr)(wi:TI):Prop:=
 ∀(ae:List (Addr×Obj)) (s:Shared) (σ:St) (H:Hp) (R:It->Hp->Prop),bi X ae σ H s->wi σ H R ->
  wpAny (model X.prog X.w) X.A (eval dq X.env) (fun v s1=>wpAny (model X.prog X.w) X.A (pyIter v) (Nm X ae σ tg R) X.xe s1) X.xe s
theorem yq    {M : Model} {A : Around} {E : Value -> Shared -> Prop} {s : Shared} {tg : Expr} {it : Addr} {u : Value} {o : Obj} {n : String} {vs : Array Value} {Q : Unit -> Shared -> Prop} (ho : s.heap.get? it = some o) (hc : o.cls = .type n) (hd : o.data = .fields vs)
    (hn : ["enumerate", "zip", "dict_itemiterator", "dict_reverseitemiterator", "odict_iterator", "itertools.zip_longest", "itertools.pairwise"].contains n = false) (hQ : Q () s) : wpAny M A (letOwnedTupleGo tg (.ref it) u) Q E s := by
  unfold letOwnedTupleGo
  cases tg <;> first
    | exact ai         hQ
    | (cases u <;> first
        | exact ai         hQ
        | (refine aa         (oM         ho ?_)
           rw [hc, hd]
           show wpAny M A (if (["enumerate", "zip", "dict_itemiterator", "dict_reverseitemiterator", "odict_iterator", "itertools.zip_longest", "itertools.pairwise"].contains n && vs[0]? == some (rawInt _)) = true then _ else _) Q E s
           rw [au     (by intro h; rw [hn, Bool.false_and] at h; cases h)]
           exact ai         hQ))
def Nn(K:Frag)(a:Addr):It:=
 ⟨fun i H=>∃xs x,pW K H a xs/\xs[i]?=some x,fun i H x H'=>H'=H/\∀xs,pW K H a xs->xs[i]?=some x,fun i H=>∃xs,pW K H a xs/\xs.length<=i⟩
def No(K:Frag)(a:Addr):It:=
 ⟨fun i H=>∃xs x,gH K H a xs/\xs[i]?=some x,fun i H x H'=>H'=H/\∀xs,gH K H a xs->xs[i]?=some x,fun i H=>∃xs,gH K H a xs/\xs.length<=i⟩
def L3(lo:Int)(n:Nat):It:=⟨fun i _=>i<n,fun i H x H'=>H'=H/\x=.int (lo+i),fun i _=>n<=i⟩
theorem zr{P:Program}{w:World}{K:Frag}{tg:Expr}(a it:Addr):zq P w K tg (Nn K a) [it] it (fun i h=>h.IsListIter it a i) where
 mem:=by simp
 obj:=fun i h st b hb=>by
  have e:b=it:=by simpa using hb
  subst e
  obtain⟨o,e,c,d⟩:=st
  exact⟨o,e,fun v z=>by rw[d]at z;cases z⟩
 keep:=fun i h h' st k=>st.at fun o e=>k it (by simp) o e
 item:=by
  intro X hP hw hK hc i ae s σ H E I hf st hg
  subst hP hw hK
  obtain⟨xs,x,hq,hx⟩:=hg
  obtain⟨bv,rv,p,hz⟩:=I.list hq
  obtain⟨u,hu,ru⟩:=rv.get hx
  obtain⟨f0,f1,f2,f3,f4,f5⟩:=hf it (by simp)
  refine wpAny_pyNext_list_item st p.isList (x:=u) (by simpa using hu) fun h' bp sb=>?_
  have I1:bi X ae σ H { s with heap:=h' }:=I.turned (t':=s.toks) (fun b o hb e=>(sb.2 b hb).trans e) f0 f1 f3 f4 f5
  obtain⟨o,e,c,d⟩:=id bp
  exact⟨u,rfl,yq (s:={ s with heap:=h' }) e c d (by decide) ⟨x,H,I1,ru,⟨rfl,fun ys hy=>by rw[I.list_inj hy hq];exact hx⟩,bp,fun b hb=>(hf b hb).1⟩⟩
 done:=by
  intro X hP hw hK hc i ae s σ H E I hf st hg
  subst hP hw hK
  obtain⟨xs,hq,hx⟩:=hg
  obtain⟨bv,rv,p,hz⟩:=I.list hq
  obtain⟨f0,f1,f2,f3,f4,f5⟩:=hf it (by simp)
  have hl:=rv.length
  exact wpAny_pyNext_list_end (I.ok.hd hc) st p.isList (by simp;omega) fun h' eb=>⟨rfl,I.turned (t':=s.toks) (fun b o hb e=>eb b o hb e) f0 f1 f3 f4 f5⟩
 self:=fun _ _ _ _ _ st h=>wpAny_pyIter_listiter st h
theorem wY{P:Program}{w:World}{K:Frag}{tg:Expr}(a it:Addr):zq P w K tg (No K a) [it] it (fun i h=>h.IsTupleIter it a i) where
 mem:=by simp
 obj:=fun i h st b hb=>by
  have e:b=it:=by simpa using hb
  subst e
  obtain⟨o,e,c,d⟩:=st
  exact⟨o,e,fun v z=>by rw[d]at z;cases z⟩
 keep:=fun i h h' st k=>st.at fun o e=>k it (by simp) o e
 item:=by
  intro X hP hw hK hc i ae s σ H E I hf st hg
  subst hP hw hK
  obtain⟨xs,x,hq,hx⟩:=hg
  obtain⟨bv,rv,p,hz⟩:=I.tuple hq
  obtain⟨u,hu,ru⟩:=rv.get hx
  obtain⟨f0,f1,f2,f3,f4,f5⟩:=hf it (by simp)
  refine wpAny_pyNext_tuple_item st (show s.heap.IsTuple a bv.toArray from p) (x:=u) (by simpa using hu) fun h' bp sb=>?_
  have I1:bi X ae σ H { s with heap:=h' }:=I.turned (t':=s.toks) (fun b o hb e=>(sb.2 b hb).trans e) f0 f1 f3 f4 f5
  obtain⟨o,e,c,d⟩:=id bp
  exact⟨u,rfl,yq (s:={ s with heap:=h' }) e c d (by decide) ⟨x,H,I1,ru,⟨rfl,fun ys hy=>by rw[I.tuple_inj hy hq];exact hx⟩,bp,fun b hb=>(hf b hb).1⟩⟩
 done:=by
  intro X hP hw hK hc i ae s σ H E I hf st hg
  subst hP hw hK
  obtain⟨xs,hq,hx⟩:=hg
  obtain⟨bv,rv,p,hz⟩:=I.tuple hq
  obtain⟨f0,f1,f2,f3,f4,f5⟩:=hf it (by simp)
  have hl:=rv.length
  exact wpAny_pyNext_tuple_end (I.ok.hd hc) st (show s.heap.IsTuple a bv.toArray from p) (by simp;omega) fun h' eb=>⟨rfl,I.turned (t':=s.toks) (fun b o hb e=>eb b o hb e) f0 f1 f3 f4 f5⟩
 self:=fun _ _ _ _ _ st h=>wpAny_pyIter_tupleiter st h
theorem wZ{P:Program}{w:World}{K:Frag}{tg:Expr}(it:Addr)(lo:Int)(n:Nat):zq P w K tg (L3 lo n) [it] it (fun i h=>IsRangeIter h it (lo+(i:Nat)*1) ((n:Int)-(i:Nat)) 1) where
 mem:=by simp
 obj:=fun i h st b hb=>by
  have e:b=it:=by simpa using hb
  subst e
  exact⟨_,st,fun v z=>by
   have z':Data.fields _=Data.cell v:=z
   cases z'⟩
 keep:=fun i h h' st k=>k it (by simp) _ st
 item:=by
  intro X hP hw hK hc i ae s σ H E I hf st hg
  subst hP hw hK
  obtain⟨f0,f1,f2,f3,f4,f5⟩:=hf it (by simp)
  have W:=Walks.range (prog:=X.prog) (w:=X.w) (I.ok.hd hc) it lo 1 n
  refine up (W.item i s _ _ hg st fun v h' tk hv bp kk hk=>?_)
  obtain⟨t,rfl⟩:=hv
  have I1:bi X ae σ H { s with heap:=h',toks:=tk }:=I.turned (fun b o hb e=>kk b o (by simpa using hb) e) f0 f1 f3 f4 f5
  refine⟨_,rfl,yq (s:={ s with heap:=h',toks:=tk }) (n:="range_iterator") bp rfl rfl (by decide) ⟨.int (lo+i),H,I1,⟨t,?_⟩,⟨rfl,rfl⟩,bp,fun b hb=>(hf b hb).1⟩⟩
  rw[Int.mul_one]
 done:=by
  intro X hP hw hK hc i ae s σ H E I hf st hg
  subst hP hw hK
  obtain⟨f0,f1,f2,f3,f4,f5⟩:=hf it (by simp)
  exact wpAny_pyNext_range_end (I.ok.hd hc) st (by have:n<=i:=hg;omega) fun h' eb=>⟨rfl,I.turned (t':=s.toks) (fun b o hb e=>eb b o hb e) f0 f1 f3 f4 f5⟩
 self:=fun _ _ _ _ _ st h=>wpAny_pyIter_rangeiter st h
end L2
namespace L2
variable{nk:Nat}
open PySem PySem.Spec PyProof.Rows
section
variable{X:Cx}{tg:Expr}
def JN(K:Frag)(tl:TE):TI:=fun σ H R=>tl σ H fun x H1=>∃a,x=.ref a/\(∃xs,pW K H1 a xs)/\R (Nn K a) H1
def Mx(K:Frag)(tl:TE):TI:=fun σ H R=>tl σ H fun x H1=>∃a,x=.ref a/\(∃xs,gH K H1 a xs)/\R (No K a) H1
theorem DN{l:Expr}{tl:TE}(hl:PE X l tl):PI X tg l (JN X.K tl):=by
 intro ae s σ H R I h
 refine jx (hl ae s σ H _ I h) fun v s1 kt1 ⟨x,H1,I1,r1,q1⟩=>?_
 obtain⟨a,e,⟨xs,hq⟩,q⟩:=q1
 subst e
 cases r1
 obtain⟨bv,rv,p,hz⟩:=I1.list hq
 refine wpAny_pyIter_list p.isList ?_
 refine⟨s1.heap.objs.size,[s1.heap.objs.size],_,_,H1,rfl,I1.kept (t':=s1.toks) fun b o e=>ag _ e,zr a _,⟨_,ar _ rfl,rfl,rfl⟩,fun b hb=>?_,q⟩
 have e:b=s1.heap.objs.size:=by simpa using hb
 subst e
 exact I1.fpOk (ah _) (I1.hok.fresh (ah _))
theorem GP{l:Expr}{tl:TE}(hl:PE X l tl):PI X tg l (Mx X.K tl):=by
 intro ae s σ H R I h
 refine jx (hl ae s σ H _ I h) fun v s1 kt1 ⟨x,H1,I1,r1,q1⟩=>?_
 obtain⟨a,e,⟨xs,hq⟩,q⟩:=q1
 subst e
 cases r1
 obtain⟨bv,rv,p,hz⟩:=I1.tuple hq
 refine g7 (show s1.heap.IsTuple a bv.toArray from p) ?_
 refine⟨s1.heap.objs.size,[s1.heap.objs.size],_,_,H1,rfl,I1.kept (t':=s1.toks) fun b o e=>ag _ e,wY a _,⟨_,ar _ rfl,rfl,rfl⟩,fun b hb=>?_,q⟩
 have e:b=s1.heap.objs.size:=by simpa using hb
 subst e
 exact I1.fpOk (ah _) (I1.hok.fresh (ah _))
theorem AH{ae:List (Addr×Obj)}{σ:St}{H:Hp}{s:Shared}{R:It->Hp->Prop}{E:Value->Shared->Prop}{lo hi:Int}{t u v:Tok}{tk:Nat}(I:bi X ae σ H s)(hk:s.toks<=tk)(h1:-(2^62)<=lo)(h2:lo<2^62)(h3:-(2^62)<=hi)(h4:hi<2^62)
  (q:R (L3 lo (hi-lo).toNat) H):wpAny (model X.prog X.w) X.A (pyIter (.ref s.heap.objs.size)) (Nm X ae σ tg R) E { s with heap:=s.heap.push { cls:=.type "range",data:=.fields #[.int lo t,.int hi u,.int 1 v] },toks:=tk }:=by
 refine wpAny_pyIter_range (IsRange.new ..) (small_one h1 h2 h3 h4) ?_
 have I1:bi X ae σ H { s with heap:=s.heap.push { cls:=.type "range",data:=.fields #[.int lo t,.int hi u,.int 1 v] },toks:=tk }:=I.kept fun b o e=>ag _ e
 refine⟨(s.heap.push { cls:=.type "range",data:=.fields #[.int lo t,.int hi u,.int 1 v] }).objs.size,[(s.heap.push { cls:=.type "range",data:=.fields #[.int lo t,.int hi u,.int 1 v] }).objs.size],_,_,H,rfl,
  I1.kept (t':=tk) fun b o e=>ag _ e,wZ _ lo (hi-lo).toNat,?_,fun b hb=>?_,q⟩
 ·have e1:lo+((0:Nat):Int)*1=lo:=by simp
  have e2:(((hi-lo).toNat:Nat):Int)-((0:Nat):Int)=Builtin.Range.rangeSize lo hi 1:=by rw[rangeSize_one];split<;>omega
  show IsRangeIter _ _ (lo+((0:Nat):Int)*1) ((((hi-lo).toNat:Nat):Int)-((0:Nat):Int)) 1
  rw[e1,e2]
  exact ar _ rfl
 ·have e:b=(s.heap.push { cls:=.type "range",data:=.fields #[.int lo t,.int hi u,.int 1 v] }).objs.size:=by simpa using hb
  subst e
  exact I1.fpOk (ah _) (I1.hok.fresh (ah _))
def JO(ta:TA):TI:=fun σ H R=>ta σ H fun vs H1=>∃j:Int,vs=[.int j]/\-(2^62)<=j/\j<2^62/\R (L3 0 j.toNat) H1
theorem zt{a:Expr}{ta:TA}{p pos:Pos}(hg:Gl X "range")(hm:X.mg "range"=none)(ha:PA X [a] ta)(hs:starEach [a] X.env=[(false,eval a X.env)]:=by rfl):PI X tg (.Call (.Name "range" p) [a] [] pos) (JO ta):=by
 intro ae s σ H R I h
 refine Call_ (lL I hg hm boot_range (c9 (jx (ha pos ae s σ H _ I h) fun us s1 kt1 ⟨vs,H1,I1,r1,q1⟩=>?_) hs rfl))
 obtain⟨j,e,q1,q2,q⟩:=q1
 subst e
 cases r1 with
 |cons r rr=>
  cases rr
  obtain⟨t,rfl⟩:=r
  exact call_range_1 (AH I1 (by first|exact ah _|exact a8 _|assumption|omega) (by omega) (by omega) q1 q2 (by simpa using q))
def My(wi:TI)(g:TG)(tb:TS):TS:=fun D σ H=>wi σ H fun J H1=>∃W:Nat->Nat->St->Hp->Prop,(∃m,W 0 m σ H1)/\∀i m σ H,W i m σ H ->
 (J.stop i H/\D.nx σ H)\/(J.go i H/\∃N:St->Hp->Prop,(∀σ' H',N σ' H'->∃m',m'<m/\W (i+1) m' σ' H')/\∀x H',J.yld i H x H'->g x σ H' fun σ2 H2=>tb { D with nx:=N,ct:=N,bk:=D.nx } σ2 H2)
def uI(fp:List Addr)(h:Heap):List (Addr×Obj):=fp.filterMap fun b=>(h.get? b).map fun o=>(b,o)
theorem iY{fp:List Addr}{h:Heap}{b:Addr}{o:Obj}(hb:b∈fp)(e:h.get? b=some o):(b,o)∈uI fp h:=jV.mpr ⟨b,hb,by rw[e];rfl⟩
theorem zu{fp:List Addr}{h:Heap}{p:Addr×Obj}(hp:p∈uI fp h):p.1∈fp/\h.get? p.1=some p.2:=by
 obtain⟨b,hb,e⟩:=jV.mp hp
 cases q:h.get? b with
 |none=>rw[q]at e;cases e
 |some o=>
  rw[q]at e
  have e':(b,o)=p:=be e
  subst e'
  exact⟨hb,q⟩
theorem bi.pinned{ae:List (Addr×Obj)}{σ:St}{H:Hp}{s:Shared}{fp:List Addr}(I:bi X ae σ H s)(hf:∀b∈fp,qQ X ae H b)(ho:∀b∈fp,∃o,s.heap.get? b=some o/\∀v,o.data≠.cell v):bi X (ae++uI fp s.heap) σ H s:=
 I.pins_of fun p hp=>(aZ.mp hp).elim (fun z=>I.pin p (aT _ z)) fun z=>by
  obtain⟨hb,e⟩:=zu z
  obtain⟨f0,f1,f2,_⟩:=hf p.1 hb
  obtain⟨o,e',d⟩:=ho p.1 hb
  rw[e]at e';cases e'
  exact⟨e,f0,f1,f2,d⟩
theorem bi.unpinned{ae pl:List (Addr×Obj)}{σ:St}{H:Hp}{s:Shared}(I:bi X (ae++pl) σ H s):bi X ae σ H s:=I.pins_of fun p hp=>I.pin p (aT _ (cZ _ hp))
theorem GQ{dq:Expr}{body:List Stmt}{wi:TI}{g:TG}{tb:TS}{pos:Pos}(hp:PassesOwn (model X.prog X.w) X.A X.env X.xe)(hc:X.calm=true)(hi:PI X tg dq wi)(hg:PG X tg g)(hb:yo X body tb)
  (hs:∀x,foldedSetIterable dq X.env x=pure x:=by intro _;rfl):PS X (.For tg dq body [] pos) (My wi g tb):=by
 intro ae s σ H D I h
 refine wpAny_For (wX (hi ae s σ H _ I h) fun v s1 h1=>wX h1 fun Nl s2 h2=>?_) hs
 obtain⟨it,fp,tn,J,H2,e,I2,T,cP,f2,W,⟨m0,w0⟩,turn⟩:=h2
 subst e
 have stat:∀{H':Hp},(∀b∈fp,H' b=none)->∀b∈fp,qQ X ae H' b:=fun hn b hb=>⟨hn b hb,(f2 b hb).2⟩
 refine codeAny_forLoop_any (fun n s'=>∃i σ' H',bi X ae σ' H' s'/\tn i s'.heap/\(∀b∈fp,H' b=none)/\W i n σ' H') ?_ m0 ⟨0,σ,H2,I2,cP,fun b hb=>(f2 b hb).1,w0⟩
 rintro n s3 ⟨i,σ3,H3,I3,lc,fr3,w3⟩
 rcases turn i n σ3 H3 w3 with⟨stop,qn⟩|⟨go,N,hN,step⟩
 ·refine eX hp (jx (T.done X rfl rfl rfl hc i ae s3 σ3 H3 X.xe I3 (stat fr3) lc stop) fun r s4 kt4 ⟨hr,I4⟩=>?_)
  subst hr
  exact gU ⟨σ3,H3,I4,qn⟩
 ·refine eX hp (jx (T.item X rfl rfl rfl hc i ae s3 σ3 H3 X.xe I3 (stat fr3) lc go) fun r s4 kt4 ⟨u,hr,h4⟩=>?_)
  subst hr
  refine eX hp (wX h4 fun _ s5 ⟨x,H5,I5,r5,y5,st5,fr5⟩=>?_)
  have I5':=I5.pinned (stat fr5) (T.obj _ _ st5)
  refine eX hp (jx (hg _ s5 σ3 H5 x u _ I5' r5 (step x H5 y5)) fun _ s6 kt6 ⟨σ6,H6,I6,q6⟩=>?_)
  refine eX hp (wX (hb _ s6 σ6 H6 _ I6 q6) fun f s7 q7=>?_)
  have again:∀{σ7:St} {H7:Hp},bi X (ae++uI fp s5.heap) σ7 H7 s7->N σ7 H7->∃m,m<n/\∃i σ' H',bi X ae σ' H' s7/\tn i s7.heap/\(∀b∈fp,H' b=none)/\W i m σ' H':=fun{σ7 H7} I7 n7=>by
   obtain⟨m',hm,w7⟩:=hN σ7 H7 n7
   refine⟨m',hm,i+1,σ7,H7,I7.unpinned,T.keep _ _ _ st5 fun b hb o e=>(I7.pin (b,o) (aT _ (aT _ (iY hb e)))).1,fun b hb=>?_,w7⟩
   obtain⟨o,e,d⟩:=T.obj _ _ st5 b hb
   exact(I7.pin (b,o) (aT _ (aT _ (iY hb e)))).2.1
  cases f with
  |next=>obtain⟨σ7,H7,I7,n7⟩:=q7;exact again I7 n7
  |cont=>obtain⟨σ7,H7,I7,n7⟩:=q7;exact again I7 n7
  |brk=>obtain⟨σ7,H7,I7,q7⟩:=q7;exact⟨σ7,H7,I7.unpinned,q7⟩
  |ret v=>obtain⟨x7,σ7,H7,I7,r7,q7⟩:=q7;exact⟨x7,σ7,H7,I7.unpinned,r7,q7⟩
end
end L2
namespace L2
variable{nk:Nat}
open PySem PySem.Spec PyProof.Rows
abbrev R2:=V->V->Hp->VK->Prop
def mR(X:Cx)(f:Value->Value->Sem Value)(r:R2):Prop:=
 ∀(ae:List (Addr×Obj)) (s:Shared) (σ:St) (H:Hp) (x y:V) (v u:Value) (Q:VK),bi X ae σ H s->cN s.toks x v->cN s.toks y u->r x y H Q ->
  wpAny (model X.prog X.w) X.A (f v u) (EP X ae σ Q) X.xe s
def Mz(X:Cx)(f:Value->Sem Value)(r:V->Hp->VK->Prop):Prop:=
 ∀(ae:List (Addr×Obj)) (s:Shared) (σ:St) (H:Hp) (x:V) (v:Value) (Q:VK),bi X ae σ H s->cN s.toks x v->r x H Q ->
  wpAny (model X.prog X.w) X.A (f v) (EP X ae σ Q) X.xe s
def jg(X:Cx)(f:Value)(r:List V->Hp->VK->Prop):Prop:=
 ∀(ae:List (Addr×Obj)) (s:Shared) (σ:St) (H:Hp) (xs:List V) (us:List Value) (Q:VK),bi X ae σ H s->b7 s.toks xs us->r xs H Q ->
  wpAny (model X.prog X.w) X.A (call f us) (EP X ae σ Q) X.xe s
def JP(r:R2)(ta tb:TE):TE:=fun σ H Q=>ta σ H fun x H1=>tb σ H1 fun y H2=>r x y H2 Q
def NM(r:V->Hp->VK->Prop)(ta:TE):TE:=fun σ H Q=>ta σ H fun x H1=>r x H1 Q
def rI(C:Int->Int->Prop)(g:Int->Int->V):R2:=fun x y H Q=>∃i j,x=.int i/\y=.int j/\C i j/\Q (g i j) H
def AI(g:Int->Int->V):R2:=fun x y H Q=>∃i j,x=.int i/\y=.int j/\Q (g i j) H
def rU(g:Int->V):V->Hp->VK->Prop:=fun x H Q=>∃i,x=.int i/\Q (g i) H
section
variable{X:Cx}{a b c:Expr}{ta tb tc:TE}{pos:Pos}
theorem GR(ha:PE X a ta)(hb:PE X b tb){ae:List (Addr×Obj)}{s:Shared}{σ:St}{H:Hp}{R:V->V->Hp->Prop}(I:bi X ae σ H s)
  (h:ta σ H fun x H1=>tb σ H1 fun y H2=>R x y H2) {Q:Value->Shared->Prop} {f:Value->Value->Sem Value}
  (hf:∀v u s2 x y H2,bi X ae σ H2 s2->cN s2.toks x v->cN s2.toks y u->R x y H2->wpAny (model X.prog X.w) X.A (f v u) Q X.xe s2) :
  wpAny (model X.prog X.w) X.A (eval a X.env) (fun v s₁=>wpAny (model X.prog X.w) X.A (eval b X.env) (fun u s₂=>wpAny (model X.prog X.w) X.A (f v u) Q X.xe s₂) X.xe s₁) X.xe s:=by
 refine jx (ha ae s σ H _ I h) fun v s1 kt1 ⟨x,H1,I1,r1,q1⟩=>?_
 refine jx (hb ae s1 σ H1 _ I1 q1) fun u s2 kt2 ⟨y,H2,I2,r2,q2⟩=>?_
 exact hf v u s2 x y H2 I2 (r1.up kt2) r2 q2
theorem JQ{op:Operator}{r:R2}(ho:mR X (binaryOp op) r)(ha:PE X a ta)(hb:PE X b tb):PE X (.BinOp a op b pos) (JP r ta tb):=by
 intro ae s σ H Q I h
 exact wpAny_BinOp (GR ha hb I h fun v u s2 x y H2 I2 rx ry q=>ho ae s2 σ H2 x y v u Q I2 rx ry q)
theorem JR{op:UnaryOp}{r:V->Hp->VK->Prop}(ho:Mz X (unaryOp op) r)(ha:PE X a ta):PE X (.UnaryOp op a pos) (NM r ta):=by
 intro ae s σ H Q I h
 exact UnaryOp_ (jx (ha ae s σ H _ I h) fun v s1 kt1 ⟨x,H1,I1,r1,q1⟩=>ho ae s1 σ H1 x v Q I1 r1 q1)
theorem JS{f:Value->Value->Sem Value}{C:Int->Int->Prop}{g:Int->Int->Int}
  (rule:∀(i j:Int) (t u:Tok) (s:Shared) (Q:Value->Shared->Prop) (E:Value->Shared->Prop),C i j->Q (.int (g i j) s.toks) { s with toks:=s.toks+1 }->wpAny (model X.prog X.w) X.A (f (.int i t) (.int j u)) Q E s) :
  mR X f (rI C fun i j=>.int (g i j)):=by
 intro ae s σ H x y v u Q I rx ry h
 obtain⟨i,j,rfl,rfl,hc,q⟩:=h
 obtain⟨t,rfl⟩:=rx
 obtain⟨t',rfl⟩:=ry
 exact rule i j t t' s _ _ hc ⟨.int (g i j),H,I.tok _,⟨_,rfl⟩,q⟩
theorem GS{f:Value->Value->Sem Value}{g:Int->Int->Int}
  (rule:∀(i j:Int) (t u:Tok) (s:Shared) (Q:Value->Shared->Prop) (E:Value->Shared->Prop),Q (.int (g i j) s.toks) { s with toks:=s.toks+1 }->wpAny (model X.prog X.w) X.A (f (.int i t) (.int j u)) Q E s) :
  mR X f (AI fun i j=>.int (g i j)):=by
 intro ae s σ H x y v u Q I rx ry h
 obtain⟨i,j,rfl,rfl,q⟩:=h
 obtain⟨t,rfl⟩:=rx
 obtain⟨t',rfl⟩:=ry
 exact rule i j t t' s _ _ ⟨.int (g i j),H,I.tok _,⟨_,rfl⟩,q⟩
theorem DO{f:Value->Value->Sem Value}{g:Int->Int->Bool}
  (rule:∀(i j:Int) (t u:Tok) (s:Shared) (Q:Value->Shared->Prop) (E:Value->Shared->Prop),Q (.bool (g i j)) s->wpAny (model X.prog X.w) X.A (f (.int i t) (.int j u)) Q E s) :
  mR X f (AI fun i j=>.bl (g i j)):=by
 intro ae s σ H x y v u Q I rx ry h
 obtain⟨i,j,rfl,rfl,q⟩:=h
 obtain⟨t,rfl⟩:=rx
 obtain⟨t',rfl⟩:=ry
 exact rule i j t t' s _ _ ⟨.bl (g i j),H,I,rfl,q⟩
def MA(i j:Int):Prop:=0<j/\j<1073741824
def MB(i j:Int):Prop:=0<=j/\j<=1000000/\i.natAbs<2^64
def GT(i j:Int):Prop:=(-(2^64)<i/\i<2^64)\/(-(2^64)<j/\j<2^64)
theorem GT.ok{i j:Int}(h:GT i j):IntMulOk i j:=by
 rcases h with⟨h1,h2⟩|⟨h1,h2⟩
 ·exact .of_left (intBits_le_64 h1 h2)
 ·exact .of_right (intBits_le_64 h1 h2)
theorem w4(k:Nat):(0:Int)<=2^k:=by
 rw[two_pow_cast]
 exact Int.natCast_nonneg _
theorem GU:mR X (binaryOp .Add) (AI fun i j=>.int (i+j)):=GS fun _ _ _ _ _ _ _ q=>add_int q
theorem GV:mR X (binaryOp .Sub) (AI fun i j=>.int (i-j)):=GS fun _ _ _ _ _ _ _ q=>sub_int q
theorem GW:mR X (binaryOp .Mult) (rI GT fun i j=>.int (i*j)):=JS fun _ _ _ _ _ _ _ hc q=>mul_int q hc.ok
theorem DP:mR X (binaryOp .FloorDiv) (rI MA fun i j=>.int (i/j)):=JS fun i j _ _ _ _ _ hc q=>by
 have h1:(0:Int)<j:=hc.1
 have h2:j<1073741824:=hc.2
 exact floordiv_int (by omega) (by rw[jW i (by omega)];exact q) (.inl (PyProof.noPylong_small (by omega)))
theorem GX:mR X (binaryOp .Mod) (rI (fun _ j=>0<j) fun i j=>.int (i%j)):=JS fun i j _ _ _ _ _ hc q=>by
 have h1:(0:Int)<j:=hc
 exact mod_int' (by omega) (by rw[Int.fmod_eq_emod_of_nonneg i (by omega)];exact q)
theorem GY:mR X (binaryOp .Pow) (rI MB fun i j=>.int (i^j.toNat)):=JS fun _ _ _ _ _ _ _ hc q=>pow_int_small hc.1 hc.2.1 hc.2.2 q
theorem GZ:mR X (binaryOp .RShift) (rI (fun _ j=>0<=j) fun i j=>.int (i/2^j.toNat)):=JS fun i j _ _ _ _ _ hc q=>
 rshift_int hc (by rw[jW i (w4 _)];exact q)
theorem G0:mR X (binaryOp .BitAnd) (AI fun i j=>.int (Builtin.bitAnd i j)):=GS fun _ _ _ _ _ _ _ q=>and_int q
theorem NN{f:Value->Sem Value}{g:Int->Int}
  (rule:∀(i:Int) (t:Tok) (s:Shared) (Q:Value->Shared->Prop) (E:Value->Shared->Prop),Q (.int (g i) s.toks) { s with toks:=s.toks+1 }->wpAny (model X.prog X.w) X.A (f (.int i t)) Q E s) :
  Mz X f (rU fun i=>.int (g i)):=by
 intro ae s σ H x v Q I rx h
 obtain⟨i,rfl,q⟩:=h
 obtain⟨t,rfl⟩:=rx
 exact rule i t s _ _ ⟨.int (g i),H,I.tok _,⟨_,rfl⟩,q⟩
theorem G1:Mz X (unaryOp .USub) (rU fun i=>.int (-i)):=NN fun _ _ _ _ _ q=>neg_int q
end
section
variable{X:Cx}{a b c:Expr}{ta tb tc:TE}{pos:Pos}
theorem G3{ae:List (Addr×Obj)}{σ:St}{H:Hp}{s:Shared}{Q:VK}{k k':Bool}(I:bi X ae σ H s)(q:Q (.bl k) H)(e:k=k'):EP X ae σ Q (.bool k') s:=by
 subst e
 exact⟨.bl k,H,I,rfl,q⟩
theorem JT:mR X (compareOp .Lt) (AI fun i j=>.bl (decide (i<j))):=DO fun _ _ _ _ _ _ _ q=>lt_int q
theorem JU:mR X (compareOp .LtE) (AI fun i j=>.bl (decide (i<=j))):=DO fun _ _ _ _ _ _ _ q=>le_int q
theorem JV:mR X (compareOp .Gt) (AI fun i j=>.bl (decide (j<i))):=DO fun _ _ _ _ _ _ _ q=>gt_int q
theorem JW:mR X (compareOp .GtE) (AI fun i j=>.bl (decide (j<=i))):=DO fun _ _ _ _ _ _ _ q=>ge_int q
theorem zv:mR X (compareOp .In) (fun x y H Q=>∃i j,x=.str i/\y=.str j/\Q (.bl (!(Builtin.Str.occurrences j i 0 j.length 1).isEmpty)) H):=by
 intro ae s σ H x y v u Q I rx ry h
 obtain⟨i,j,rfl,rfl,q⟩:=h
 obtain⟨t,rfl⟩:=rx
 obtain⟨t',rfl⟩:=ry
 exact in_str (G3 I q rfl)
theorem AJ(b:Expr){op:CmpOp}(h:op≠.In:=by decide)(h2:op≠.NotIn:=by decide):behindInMarks op b=false:=by
 have e1:(op==CmpOp.In)=false:=by cases op<;>first|rfl|exact absurd rfl h
 have e2:(op==CmpOp.NotIn)=false:=by cases op<;>first|rfl|exact absurd rfl h2
 cases b<;>simp[behindInMarks,e1,e2]
theorem DQ{op:CmpOp}{r:R2}(ho:mR X (compareOp op) r)(ha:PE X a ta)(hb:PE X b tb)(hm:behindInMarks op b=false):PE X (.Compare a [op] [b] pos) (JP r ta tb):=by
 intro ae s σ H Q I h
 exact wpAny_Compare1 (GR ha hb I h fun v u s2 x y H2 I2 rx ry q=>ho ae s2 σ H2 x y v u Q I2 rx ry q) hm
def JX(t:TE):TT:=fun σ H Q=>t σ H fun x H'=>∃k,x=.bl k/\Q k H'
theorem DR{op:CmpOp}{r:R2}(ho:mR X (compareOp op) r)(ha:PE X a ta)(hb:PE X b tb)(hm:behindInMarks op b=false):PT X (.Compare a [op] [b] pos) (JX (JP r ta tb)):=by
 intro ae s σ H Q I h
 refine mE (jx (ha ae s σ H _ I h) fun v s1 kt1 ⟨x,H1,I1,r1,q1⟩=>jx (hb ae s1 σ H1 _ I1 q1) fun u s2 kt2 ⟨y,H2,I2,r2,q2⟩=>
  jx (ho ae s2 σ H2 x y v u _ I2 (r1.up kt2) r2 q2) fun c s3 kt3 ⟨z,H3,I3,r3,k,e,q3⟩=>?_) hm
 subst e
 cases r3
 exact e6 ⟨H3,I3,q3⟩
theorem rG:(sizeLine:Nat)<2^63:=by rw[gr];decide
theorem bi.addS{ae:List (Addr×Obj)}{σ:St}{H:Hp}{s:Shared}{Q:VK}{i j:Str}{t:Tk s.toks i}{t':Tk s.toks j}(I:bi X ae σ H s)(q:Q (.str (i++j)) H)(hz:i.length+j.length<=sizeLine) :
  (if i.length==0 then Made.val (.str j t'.1)else if j.length==0 then Made.val (.str i t.1)else Made.str (i++j)).post (EP X ae σ Q) s:=by
 split
 ·rename_i h
  have e:i++j=j:=by
   have h0:i.cps=#[]:=fH (by simpa[Str.length]using h)
   show Str.append i j=j
   cases hj:j;simp[Str.append,h0]
  rw[e]at q
  exact⟨.str j,H,I,⟨t',rfl⟩,q⟩
 ·split
  ·rename_i h
   have e:i++j=i:=by
    have h0:j.cps=#[]:=fH (by simpa[Str.length]using h)
    show Str.append i j=i
    cases hj:i;simp[Str.append,h0]
   rw[e]at q
   exact⟨.str i,H,I,⟨t,rfl⟩,q⟩
  ·exact⟨by rw[strLen_append];exact hz,⟨.str (i++j),H,I.tok _,I.tkS,q⟩⟩
theorem w5:mR X (binaryOp .Add) (fun x y H Q=>∃i j,x=.str i/\y=.str j/\i.length+j.length<=sizeLine/\Q (.str (i++j)) H):=by
 intro ae s σ H x y v u Q I rx ry h
 obtain⟨i,j,rfl,rfl,hz,q⟩:=h
 obtain⟨t,rfl⟩:=rx
 obtain⟨t',rfl⟩:=ry
 exact PySem.P.add_str (I.addS q hz)
theorem oR{x:V}{us:List Value}(r:b7 nk [x] us):∃u,us=[u]/\cN nk x u:=by
 cases r with
 |cons r1 r2=>cases r2;exact⟨_,rfl,r1⟩
end
end L2
namespace L2
variable{nk:Nat}
open PySem PySem.Spec PyProof.Rows
structure G4(h:Heap)(x dx C:Addr)(mA:Str->Option Value):Prop where
 obj:h.get? x=some (PySem.W.instObj C dx)
 ns:h.Ns1 dx mA
 ne:dx≠x
theorem zw{h:Heap}{dx:Addr}{mA:Str->Option Value}(n:h.Ns1 dx mA):∃od,h.get? dx=some od/\∀name,PySem.W.lookIn name od=some (mA name):=by
 obtain⟨o,es,ep,ho,hd,hk,_,hm⟩:=n
 refine⟨o,ho,fun name=>?_⟩
 have e:=hm name
 unfold nsFind findBy at e
 rw[<- Array.find?_toList]at e
 unfold PySem.W.lookIn
 rw[hd]
 dsimp only
 split
 ·rename_i y q
  rw[q]at e
  exact eL some e
 ·rename_i q
  rw[q]at e
  have a:es.toList.any (·.refKey)=false:=by
   rw[List.any_eq_false]
   intro y hy
   obtain⟨z,t,hkey⟩:=hk y (gs.mp hy)
   simp[DictEntry.refKey,hkey]
  have a':¬ es.toList.any (·.refKey)=true:=by rw[a];exact cD
  rw[au a']
  exact eL some e
theorem G4.look{h:Heap}{x dx C:Addr}{mA:Str->Option Value}(I:G4 h x dx C mA):∃od,PySem.W.InstAt h x (PySem.W.instObj C dx) C (some od)/\∀name,PySem.W.lookIn name od=some (mA name):=
 let ⟨od,ho,hl⟩:=zw I.ns
 ⟨od,⟨I.obj,rfl,rfl,ho⟩,hl⟩
section
variable{prog:Program}{w:World}{A:Around}{E:Value->Shared->Prop}{s:Shared}{K:Frag}{x dx C f:Addr}{mA:Str->Option Value}{name:Str}{v:Value}
end
section
variable{P:Program}{w:World}{H H':Hp}{h h':Heap}{a C dx:Addr}{fs N3:List (Str×V)}
theorem DS(hok:nA P w nk H h)(e:H a=some (.ins C dx fs)):∃mA,G4 h a dx C mA/\(∀f,tF nk (fs.lookup f) (mA f))/\PySem.Within mA (fs.map (·.1))/\fs.length<=1000/\H dx=some (.own a):=by
 obtain⟨d,z,ne,ob,mA,n,r,q⟩:=(show dS P w _ H h a (.ins C dx fs)from hok a _ e)
 exact⟨mA,⟨ob,n,ne⟩,r,q,z,d⟩
end
structure Fj(K:Frag)(C:Addr):Prop where
 pg:PySem.W.plainGet K C Str.empty=true
 hd:PySem.W.hasDictIn K C=true
 po:PySem.W.plainOver K C=true
 sa:findIn K (.ref C) "__setattr__"=some (some (.builtin "object.__setattr__"))
theorem Fj.get{K:Frag}{C:Addr}(c:Fj K C)(f:Str):PySem.W.plainGet K C f=true:=c.pg
section
variable{X:Cx}{ae:List (Addr×Obj)}{σ:St}{H:Hp}{s:Shared}{a C dx:Addr}{fs:List (Str×V)}{f:Str}{v:V}{A:Around}{E:Value->Shared->Prop}
end
section
variable{X:Cx}{o e value:Expr}{f:Str}{pos jp Nf:Pos}{ta tv:TE}
end
section
variable{X:Cx}{ae:List (Addr×Obj)}{σ:St}{H:Hp}{s:Shared}{A:Around}{E:Value->Shared->Prop}{Q:Value->Shared->Prop}{c:Value}{b:Bool}
inductive qR(K:Frag)(H:Hp):V->Value->Prop where
 |non:qR K H .non (.type "NoneType")
 |bl (x:Bool):qR K H (.bl x) (.type "bool")
 |int (i:Int):qR K H (.int i) (.type "int")
 |str (x:Str):qR K H (.str x) (.type "str")
 |flt (x:UInt64):qR K H (.flt x) (.type "float")
 |lst {a:Addr} {xs:List V} (e:H a=some (.lst xs)):qR K H (.ref a) (.type "list")
 |frz {a:Addr} {o:Obj} {xs:List V} (e:H a=some (.frz o (.lst xs))):qR K H (.ref a) (.type "list")
 |tup {a:Addr} {xs:List V} (e:H a=some (.tup xs)):qR K H (.ref a) (.type "tuple")
 |dK {a:Addr} {kvs:List (jf×V)} (e:H a=some (.dK kvs)):qR K H (.ref a) (.type "dict")
 |dT {a:Addr} {kvs:List (List jf×V)} (e:H a=some (.dT kvs)):qR K H (.ref a) (.type "dict")
 |ins {a C dx:Addr} {fs:List (Str×V)} (e:H a=some (.ins C dx fs)) (cl:Fj K C) (ha:findIn K (.ref C) "__class__"=some (some (.builtin "object.__class__")))
   (hn:PySem.W.specialIn K (.builtin "object.__class__") "__get__"=some (some (.builtin "getset_descriptor.__get__"))) (Mc:PySem.W.takesIn K (.builtin "object.__class__")=some true)
   (hm:PySem.W.mroIn K C (.type "object")=some true):qR K H (.ref a) (.ref C)
theorem nC{x:V}{u t:Value}(I:bi X ae σ H s)(rx:cN s.toks x u)(ty:qR X.K H x t)(e:kitOne X.K t c=some b)(h:∀tk,Q (.bool b) { s with toks:=tk }) :
  wpAny (model X.prog X.w) A (call (.builtin "isinstance") [u,c]) Q E s:=by
 cases ty with
 |non=>cases(show u=Value.none from rx);exact kia_one PySem.W.kitx_none I.kIn True.intro e (fun z=>nomatch z) h
 |bl y=>cases(show u=Value.bool y from rx);exact kia_one PySem.W.kitx_bool I.kIn True.intro e (fun z=>nomatch z) h
 |int i=>obtain⟨t,q⟩:=(show ∃t,u=Value.int i t from rx);cases q;exact kia_one PySem.W.kitx_int I.kIn True.intro e (fun z=>nomatch z) h
 |str y=>obtain⟨t,q⟩:=(show ∃t:Tk _ y,u=Value.str y t.1 from rx);cases q;exact kia_one PySem.W.kitx_str I.kIn True.intro e (fun z=>nomatch z) h
 |flt y=>obtain⟨t,q⟩:=(show ∃t,u=Value.float y t from rx);cases q;exact kia_one PySem.W.kitx_float I.kIn True.intro e (fun z=>nomatch z) h
 |@lst a xs ea=>
  cases(show u=Value.ref a from rx)
  obtain⟨_,_,n,_,h1⟩:=(show dS X.prog X.w _ H s.heap a (.lst xs)from I.hok a _ ea)
  exact kia_one PySem.W.kitx_list I.kIn ⟨_,h1,rfl⟩ e (fun z=>nomatch z) h
 |@frz a ob xs ea=>
  cases(show u=Value.ref a from rx)
  obtain⟨_,_,_,n,_,h1⟩:=(show dS X.prog X.w _ H s.heap a (.frz ob (.lst xs))from I.hok a _ ea)
  exact kia_one PySem.W.kitx_list I.kIn ⟨_,h1,rfl⟩ e (fun z=>nomatch z) h
 |@tup a xs ea=>
  cases(show u=Value.ref a from rx)
  obtain⟨_,_,_,p⟩:=(show dS X.prog X.w _ H s.heap a (.tup xs)from I.hok a _ ea)
  obtain⟨o,h1,h2,_⟩:=p
  exact kia_one PySem.W.kitx_tuple I.kIn ⟨o,h1,h2⟩ e (fun z=>nomatch z) h
 |@dK a kvs ea=>
  cases(show u=Value.ref a from rx)
  obtain⟨_,_,vs,_,p⟩:=(show dS X.prog X.w _ H s.heap a (.dK kvs)from I.hok a _ ea)
  obtain⟨o,es,ep,h1,h2,_⟩:=p
  exact kia_one PySem.W.kitx_dict I.kIn ⟨o,h1,h2.1⟩ e (fun z=>nomatch z) h
 |@dT a kvs ea=>
  cases(show u=Value.ref a from rx)
  obtain⟨_,_,xs,_,o,es,ep,h1,h2,_⟩:=(show dS X.prog X.w _ H s.heap a (.dT kvs)from I.hok a _ ea)
  exact kia_one PySem.W.kitx_dict I.kIn ⟨o,h1,h2.1⟩ e (fun z=>nomatch z) h
 |@ins a C dx fs ea cl ha hn Mc hm=>
  cases(show u=Value.ref a from rx)
  obtain⟨mA,O,_⟩:=DS I.hok ea
  obtain⟨od,J,_⟩:=O.look
  exact kia_one (PySem.W.kitx_own (cl.get _) cl.hd ha hn Mc hm) I.kIn J e (fun z=>nomatch z) h
end
end L2
namespace L2
variable{nk:Nat}
open PySem PySem.Spec PyProof.Rows
structure im(k:Nat)(A:Around):Prop where
 hd:A.handled=none
 dp:A.depth+2*k+5<recursionLimit
 un:A.units+16*k+200<cLine
theorem im.mono{j k:Nat}{A:Around}(r:im k A)(h:j<=k):im j A:=⟨r.hd,by have:=r.dp;omega,by have:=r.un;omega⟩
theorem im.deeper{k:Nat}{A:Around}(r:im (k+1) A)(env:Env):im k (A.deeper env):=
 ⟨r.hd,by have:=r.dp;show A.depth+1+2*k+5<_;omega,by have:=r.un;show A.units+3+16*k+200<_;omega⟩
theorem im.depth{k:Nat}{A:Around}(r:im k A):A.depth<recursionLimit:=by have:=r.dp;omega
theorem im.units{k:Nat}{A:Around}(r:im k A):A.units+64<cLine:=by have:=r.un;omega
def MC:TA:=fun _ H Q=>Q [] H
def JY(ta:TE)(tr:TA):TA:=fun σ H Q=>ta σ H fun x H1=>tr σ H1 fun xs H2=>Q (x::xs) H2
section
variable{X:Cx}{e:Expr}{es:List Expr}{te:TE}{t:TA}{pos:Pos}
theorem rH:PA X [] MC:=fun _ _ _ _ H Q I h=>d5 ⟨[],H,I,.nil,h⟩
theorem kj(ha:PE X e te)(hr:PA X es t)(hs:starEach (e::es) X.env=(false,eval e X.env)::starEach es X.env:=by rfl):PA X (e::es) (JY te t):=by
 intro pos ae s σ H Q I h
 rw[hs]
 show wpAny _ _ (spliced ((false,eval e X.env)::backTo pos (starEach es X.env))) _ _ s
 refine cX (jx (ha ae s σ H _ I h) fun u s1 kt1 ⟨x,H1,I1,r1,q1⟩=>?_)
 exact jx (hr pos ae s1 σ H1 _ I1 q1) fun us s2 kt2 ⟨xs,H2,I2,r2,q2⟩=>⟨x::xs,H2,I2,.cons (r1.up kt2) r2,q2⟩
end
abbrev Sp:=List V->Hp->VK->XK->Prop
abbrev vB:=List Env->Hp->Shared->XK->Value->Shared->Prop
structure zx(P:Program)(w:World)(K:Frag)(mg:Str->Option Value)(base:Heap)(A:Around)(outer:List Env)(s:Shared)(H:Hp):Prop where
 frames:A.frames=some outer
 mod:Mod K mg base
 bs:∀b o,base.get? b=some o->s.heap.get? b=some o/\H b=none
 bsz:base.objs.size<=s.heap.objs.size
 funs:s.heap.FunFrames base outer
 frf:∀b∈mQ outer,H b=none
 hok:nA P w s.toks H s.heap
 bare:AllBare s.gens
def CE(outer:List Env)(P:Program)(w:World)(H:Hp)(s:Shared)(Q:VK)(u:Value)(s':Shared):Prop:=
 ∃v H',s'.os=s.os/\AllBare s'.gens/\Un (mQ outer) [] H H' s.heap s'.heap/\nA P w s'.toks H' s'.heap/\cN s'.toks v u/\Q v H'
def CR(CX:vB)(outer:List Env)(P:Program)(w:World)(H:Hp)(s:Shared)(Q:VK)(E:XK)(r:Result)(s':Shared):Prop:=
 match r with
 |.ok (.ret u)=>CE outer P w H s Q u s'
 |.ok _=>False
 |.error e=>CX outer H s E e s'
structure gk(P:Program)(w:World)(K:Frag)(mg:Str->Option Value)(base:Heap)(CX:vB)(k:Nat)(f:Addr)(fd:FuncData)(ps:List Str)(sp:Sp):Prop where
 len:∀vs H Q E,sp vs H Q E->vs.length=ps.length
 run:∀(A:Around) (outer:List Env) (s:Shared) (H:Hp) (args:Args) (us:List Value) (vs:List V) (Q:VK) (E:XK),im k A->zx P w K mg base A outer s H->(0<s.toks\/∃n,ps=[n]/\fd.scope.names.lookup n=some .local)->BindsTo s fd args (ps.zip us)->b7 s.toks vs us->sp vs H Q E ->
  codeAny (model P w) A (.call (.ref f) args) (CR CX outer P w H s Q E) s
theorem gk.mono{P:Program}{w:World}{K:Frag}{mg:Str->Option Value}{base:Heap}{CX:vB}{j k:Nat}{f:Addr}{fd:FuncData}{ps:List Str}{sp:Sp}(F:gk P w K mg base CX j f fd ps sp)(h:j<=k) :
  gk P w K mg base CX k f fd ps sp:=⟨F.len,fun A outer s H args us vs Q E hr=>F.run A outer s H args us vs Q E (hr.mono h)⟩
theorem gk.imp{P:Program}{w:World}{K:Frag}{mg:Str->Option Value}{base:Heap}{CX:vB}{k:Nat}{f:Addr}{fd:FuncData}{ps:List Str}{sp NG:Sp}(F:gk P w K mg base CX k f fd ps sp)
  (h:∀vs H Q E,NG vs H Q E->sp vs H Q E):gk P w K mg base CX k f fd ps NG:=
 ⟨fun vs H Q E q=>F.len vs H Q E (h _ _ _ _ q),fun A outer s H args us vs Q E hr he hp hb hv hs=>F.run A outer s H args us vs Q E hr he hp hb hv (h _ _ _ _ hs)⟩
section
variable{X:Cx}{ae:List (Addr×Obj)}{σ:St}{H:Hp}{s s':Shared}
theorem bi.env0(I:bi X ae σ H s):zx X.prog X.w X.K X.mg X.base X.A X.stack s H:=
 ⟨I.ok.frames,I.ok.mod,I.bs,aA I.ok.bsz I.sz,I.stack,I.stkFree,I.hok,I.bare⟩
theorem bi.after{Q:VK}{u:Value}(I:bi X ae σ H s)(h:CE X.stack X.prog X.w H s Q u s')(hk:s.toks<=s'.toks):EP X ae σ Q u s':=by
 obtain⟨v,H',os,bare,un,hok,r,q⟩:=h
 obtain⟨hh,g,d,t,os'⟩:=s'
 obtain rfl:os'=s.os:=os
 exact⟨v,H',I.call (h':=hh) (g':=g) (d':=d) (t':=t) (ch:=[]) un hok bare (fun b z=>absurd z (by simp)) hk,r,q⟩
end
def rJ(K:Frag)(fd:FuncData)(ps:List Str)(ds:List Value):Prop:=
 ∀(s:Shared) (us:List Value),K.In s.heap->(us++ds).length=ps.length->BindsTo s fd ⟨us,[]⟩ (ps.zip (us++ds))
theorem rJ.all{K:Frag}{fd:FuncData}{ps:List Str}(h:∀us:List Value,us.length=ps.length->bindArgs fd ⟨us,[]⟩=pure (ps.zip us)):rJ K fd ps []:=fun s us _ hl=>by
 rw[cI]at hl ⊢
 exact .of_eq (h us hl)
section
variable{X:Cx}{CX:vB}{k:Nat}{f C:Addr}{fd:FuncData}{ps:List Str}{sp:Sp}{Od:List V}{ds:List Value}{E:XK}{x m:Str}{p pos iy:Pos}{e o:Expr}{es:List Expr}{ta:TE}{t:TA}
end
section
variable{X:Cx}{CX:vB}{k:Nat}{f C:Addr}{fd:FuncData}{ps ks:List Str}{sp:Sp}{E:XK}{x m:Str}{p pos iy Ob:Pos}{e o:Expr}{es:List Expr}{Oe:List Keyword}{te ta:TE}{t tk:TA}{nm:Option Str}
variable{g:List Value->List Value->List Value}{gV:List V->List V->List V}
end
structure ce(N P:List Str)(sc:Scope):Prop where
 kind:sc.kind=.function
 co:sc.isCoroutine=false
 gen:sc.isGenerator=false
 nd:N.Nodup
 pre:N.take P.length=P
 par:∀x∈P,sc.names.lookup x=some .local\/sc.names.lookup x=some .cell
 nofree:∀y∈sc.names,y.2≠.free
theorem t0{kindOf:Str->Option NameKind}{x:Str}:∀{binds:List (Str×Value)} {m:Str->Option Value},(∀v,(x,v)∉binds)->bindL kindOf binds m x=m x
 |[],_,_=>rfl
 |(n,v)::r,m,h=>by
  unfold bindL
  rw[t0 fun w hw=>h w (aW _ hw)]
  split
  ·have:x≠n:=by rintro rfl;exact h v bX
   simp[this]
  ·rfl
theorem t4{kindOf:Str->Option NameKind}{x:Str}:∀{binds:List (Str×Value)} {m:Str->Option Value},(∀v,(x,v)∉binds)->bindC kindOf binds m x=m x
 |[],_,_=>rfl
 |(n,v)::r,m,h=>by
  unfold bindC
  rw[t4 fun w hw=>h w (aW _ hw)]
  split
  ·rfl
  ·have:x≠n:=by rintro rfl;exact h v bX
   simp[this]
theorem t5{kindOf:Str->Option NameKind}{x:Str}{v:Value}:∀{P:List Str} {vs:List Value} {i:Nat} {m:Str->Option Value},P.Nodup->P[i]?=some x->vs[i]?=some v->kindOf x=some .local ->
  bindL kindOf (P.zip vs) m x=some v
 |[],_,_,_,_,h,_,_=>by simp at h
 |_::_,[],_,_,_,_,h,_=>by simp at h
 |p::P,w::vs,0,m,nd,h1,h2,hk=>by
  simp at h1 h2;subst h1;subst h2
  show bindL kindOf ((p,w)::P.zip vs) m p=_
  unfold bindL
  rw[t0 fun v hv=>(fX.mp nd).1 (jr hv).1,am hk]
  simp
 |p::P,w::vs,i+1,m,nd,h1,h2,hk=>by
  show bindL kindOf ((p,w)::P.zip vs) m x=_
  unfold bindL
  exact t5 (i:=i) (fX.mp nd).2 (by simpa using h1) (by simpa using h2) hk
theorem t6{kindOf:Str->Option NameKind}{x:Str}{v:Value}:∀{P:List Str} {vs:List Value} {i:Nat} {m:Str->Option Value},P.Nodup->P[i]?=some x->vs[i]?=some v->kindOf x≠some .local ->
  bindC kindOf (P.zip vs) m x=some v
 |[],_,_,_,_,h,_,_=>by simp at h
 |_::_,[],_,_,_,_,h,_=>by simp at h
 |p::P,w::vs,0,m,nd,h1,h2,hk=>by
  simp at h1 h2;subst h1;subst h2
  show bindC kindOf ((p,w)::P.zip vs) m p=_
  unfold bindC
  rw[t4 fun v hv=>(fX.mp nd).1 (jr hv).1,au hk]
  simp
 |p::P,w::vs,i+1,m,nd,h1,h2,hk=>by
  show bindC kindOf ((p,w)::P.zip vs) m x=_
  unfold bindC
  exact t6 (i:=i) (fX.mp nd).2 (by simpa using h1) (by simpa using h2) hk
def jy(N:List Str)(vs:List V):St:=vs.map some++List.replicate (N.length-vs.length) none
def uJ(CX:vB)(P:Program)(w:World)(K:Frag)(mg:Str->Option Value)(base:Heap)(N:List Str)(cW:Str)(scope:Scope)(f:Addr)(cd:Value)(A:Around)(outer:List Env)(s:Shared)(H:Hp)(E:XK):Cx where
 prog:=P
 w:=w
 K:=K
 mg:=mg
 base:=base
 A:=A.deeper (envOfC cW scope s.heap.objs.size f cd)
 N:=N
 s₀:=s
 H₀:=H
 env:=envOfC cW scope s.heap.objs.size f cd
 outer:=outer
 stack:=envOfC cW scope s.heap.objs.size f cd::outer
 ex:=[]
 calm:=true
 fn:=fun _=>true
 pn:=[]
 xe:=fun e s'=>wpAny (model P w) (A.deeper (envOfC cW scope s.heap.objs.size f cd)) (leaving (envOfC cW scope s.heap.objs.size f cd) e) (fun _ s''=>CX outer H s E e s'') (fun e' s''=>CX outer H s E e' s'') s'
theorem lg{sc:Scope}{n:Nat}{x:Str}(h:sc.names.lookup x=some .cell):∃c,(cellsFrom n sc.names []).lookup x=some c:=by
 have q:=PySem.W.cellsFrom_some sc.names n [] (.inl h)
 exact Option.isSome_iff_exists.mp q
theorem w6{M:Model}{A:Around}{E:Value->Shared->Prop}{s:Shared}{scope:Scope}{globals:Addr}{n:Str}{v:Value}{cW:Str}{func:Option Addr}{code:Value}{builtins:Addr}{Q:Env->Shared->Prop}
  (hk:scope.kind=.function) (hl:scope.names.lookup n=some .local)
  (hQ:∀env,env=newEnv scope s.heap.objs.size globals (cellsFrom (s.heap.objs.size+1) scope.names []) cW func code none builtins ->
   ∀s',s.toks<s'.toks->InCallC s env.locals (bindL env.kindOf [(n,v)] fun _=>none) env.cells (bindC env.kindOf [(n,v)] fun _=>none) s'->Q env s') :
  wpAny M A (newFunctionEnv scope globals [] [(n,v)] cW func code none builtins) Q E s:=by
 simp only[newFunctionEnv,Option.isSome_none,bY,cA]
 refine aa (wpAny_alloc ?_)
 refine aa (wpAny_layCells _ (fun name kind cells=>by cases hkc:kind==NameKind.cell<;>simp[hkc]) _ _ _ _ ?_)
 have ok:=cellsFrom_ok scope.names (s.heap.push { cls:=.type "frame",data:=.dict #[] }) (s.heap.objs.size+1) [] ⟨fun _ _ hm=>(nomatch hm),List.Pairwise.nil⟩ (by rw[bh];exact ah _)
 rw[bh]at ok
 rw[show({ s with heap:=s.heap.push { cls:=.type "frame",data:=.dict #[] } }:Shared).heap.objs.size=s.heap.objs.size+1 from bh ..]
 have x:InCallC s s.heap.objs.size (fun _=>none) (cellsFrom (s.heap.objs.size+1) scope.names []) (fun _=>none) { s with heap:=pushCells (s.heap.push { cls:=.type "frame",data:=.dict #[] }) scope.names }:=
  ⟨⟨⟨_,_,rfl⟩,(Heap.Ns.new s.heap (.type "frame")).keeps (js _ _),fun b o e=>js _ _ b o (ag _ e),ah _⟩,
   fun n c hc=>(ok.empty n c (PySem.mem_of_lookup hc)).1,ok.apart,fun n c hm=>(ok.empty n c hm).2⟩
 refine aa ?_
 rw[List.forIn_cons]
 refine aa (aa (mD (env:=newEnv scope s.heap.objs.size globals (cellsFrom (s.heap.objs.size+1) scope.names []) cW func code none builtins) hl x.toInCall.ns (fun h' LR hs'=>ai ?_) (by show(scope.kind==_||(scope.kind==_&&_))=false;rw[hk];rfl)))
 show wpAny M A (forIn [] _ _) _ _ _
 rw[List.forIn_nil]
 refine ai (ai (hQ _ rfl _ (bB _) ?_))
 have e1:bindL (newEnv scope s.heap.objs.size globals (cellsFrom (s.heap.objs.size+1) scope.names []) cW func code none builtins).kindOf [(n,v)] (fun _=>none)=fun y=>if y=n then some v else none:=by
  show(if _=some NameKind.local then _ else _)=_;exact am hl
 have e2:bindC (newEnv scope s.heap.objs.size globals (cellsFrom (s.heap.objs.size+1) scope.names []) cW func code none builtins).kindOf [(n,v)] (fun _=>none)=fun _=>none:=by
  show(if _=some NameKind.local then _ else _)=_;exact am hl
 rw[e1,e2]
 refine⟨⟨?_,LR,fun b o e=>?_,x.toInCall.fresh⟩,fun k c hc=>?_,x.apart,x.above⟩
 ·exact⟨h',_,rfl⟩
 ·exact hs'.extBut b o (aK (ay (av e) x.toInCall.fresh)) (x.toInCall.keep b o e)
 ·exact(x.cell k c hc).sameBut hs' (du (x.above k c (PySem.mem_of_lookup hc)))
theorem t7{CX:vB}{P:Program}{w:World}{K:Frag}{mg:Str->Option Value}{base:Heap}{N ps:List Str}{cW:Str}{scope:Scope}{f:Addr}{cd:Value}{A:Around}{outer:List Env}{s s1:Shared}{H:Hp}{E:XK}{us:List Value}{vs:List V}
  (S:ce N ps scope) (hd:A.handled=none) (e0:zx P w K mg base A outer s H) (hl:vs.length=ps.length) (r:b7 s.toks vs us) (iR:s.toks<=s1.toks) (L0:0<s1.toks)
  (x:InCallC s s.heap.objs.size (bindL (envOfC cW scope s.heap.objs.size f cd).kindOf (ps.zip us) fun _=>none) (cellsFrom (s.heap.objs.size+1) scope.names []) (bindC (envOfC cW scope s.heap.objs.size f cd).kindOf (ps.zip us) fun _=>none) s1) :
  bi (uJ CX P w K mg base N cW scope f cd A outer s H E) [] (jy N vs) H s1:=by
 have nS:ps.length<=N.length:=by have:=eL List.length S.pre;rw[aQ]at this;omega
 obtain⟨h1,tk,rfl,hk⟩:=x.done
 have noA:∀b:Addr,b∉(uJ CX P w K mg base N cW scope f cd A outer s H E).ex:=fun b z=>absurd (show b∈([]:List Addr)from z) (by simp)
 refine⟨⟨e0.mod,S.kind,rfl,rfl,ah _,fun y z c h1 h2=>?_,fun y hy=>?_,fun y c _ h=>?_,fun _=>hd,Around.frames_deeper e0.frames,.inr ⟨rfl,rfl⟩,fun b z=>absurd z (noA b),e0.bs,e0.bsz,fun b _ _=>noA b,fun b z=>absurd z (noA b),e0.funs,e0.frf⟩,
  rfl,e0.bare,Un.kept hk,⟨_,x.toInCall.ns,fun i y v h1 h2 h3=>?_⟩,fun y c h=>⟨_,x.cell y c h⟩,e0.hok.fresh (ah _),fun y c h=>?_,fun p hp=>absurd (show p∈([]:List (Addr×Obj))from hp) (by simp),(e0.hok.kept hk).up iR,?_,L0,iR⟩
 ·exact name_of_addr x.apart (PySem.mem_of_lookup h1) (PySem.mem_of_lookup h2)
 ·have hy:scope.names.lookup y=some .cell\/scope.names.lookup y=some .free:=hy
  rcases hy with hy|hy
  ·exact lg hy
  ·exact absurd rfl (S.nofree _ (PySem.mem_of_lookup hy))
 ·exact dQ (x.above y c (PySem.mem_of_lookup h))
 ·have hi:i<vs.length:=by
   unfold jy at h2
   by_cases hi:i<vs.length
   ·exact hi
   ·rw[cE (by simpa using hi)]at h2
    rw[lx]at h2
    split at h2<;>cases h2
  have ha:vs[i]?=some v:=by
   unfold jy at h2
   rw[bw (by simpa using hi),aL]at h2
   cases e:vs[i]? with
   |none=>rw[e]at h2;cases h2
   |some a=>rw[e]at h2;cases h2;rfl
  obtain⟨u,hu,rv⟩:=r.get ha
  have hp:ps[i]?=some y:=by
   rw[<- S.pre,bZ (by omega)];exact h1
  have ndP:ps.Nodup:=by rw[<- S.pre];exact S.nd.sublist (kG _ _)
  refine⟨u,rv.up iR,?_⟩
  rcases S.par y (bV hp)with k|k
  ·exact .inl ⟨k,t5 ndP hp hu k⟩
  ·obtain⟨c,e⟩:=lg (n:=s.heap.objs.size+1) k
   refine .inr ⟨.inl k,c,e,?_⟩
   have q:=x.cell y c e
   rw[t6 ndP hp hu (by show scope.names.lookup y≠_;rw[k];decide)]at q
   exact q
 ·exact e0.hok.fresh (dQ (x.above y c (PySem.mem_of_lookup h)))
 ·unfold jy
  show _=N.length
  rw[aJ,az,List.length_replicate]
  omega
theorem JZ{CX:vB}{P:Program}{w:World}{K:Frag}{mg:Str->Option Value}{base:Heap}{k:Nat}{f:Addr}{name cW:Str}{params:Arguments}{body:List Stmt}{scope:Scope}{dV kV n9 pm gi ct oc:Value}{an od:Option Addr}
  {Dh:Array (Option Value)} {N ps:List Str} {sp:Sp} (lk:K.lookup f=some ⟨oc,od,.func (fnOf name cW params body scope dV kV n9 pm an gi ct),Dh⟩) (tD:codeIn K gi cW=true) (S:ce N ps scope)
  (len:∀vs H Q E,sp vs H Q E->vs.length=ps.length)
  (pO:∀(A:Around) (outer:List Env) (s:Shared) (H:Hp) (vs:List V) (Q:VK) (E:XK),im k (A.deeper (envOfC cW scope s.heap.objs.size f gi))->sp vs H Q E ->
   ∃t,yo (uJ CX P w K mg base N cW scope f gi A outer s H E) body t/\t { nx:=fun _ H'=>Q .non H',rt:=Q } (jy N vs) H) :
  gk P w K mg base CX (k+1) f (fnOf name cW params body scope dV kV n9 pm an gi ct) ps sp:=by
 refine⟨len,fun A outer s H args us vs Q E hr e0 hp hb r wW=>?_⟩
 have hl:=len _ _ _ _ wW
 have KX:K.In s.heap:=e0.mod.kin.keeps fun b o e=>(e0.bs b o e).1
 have lim:s.heap.NoLimit:=e0.mod.nolimit.keeps fun b o e=>(e0.bs b o e).1
 have iS:∀y∈ps.zip us,scope.names.lookup y.1=some .local\/(scope.names.lookup y.1=some .cell/\((cellsFrom (s.heap.objs.size+1) scope.names []).lookup y.1).isSome=true):=fun⟨n,v⟩ hy=>by
  rcases S.par n (jr hy).1 with q|q
  ·exact .inl q
  ·exact .inr ⟨q,PySem.W.cellsFrom_some _ _ _ (.inl q)⟩
 refine mF hr.depth (KX _ _ lk) rfl S.co S.gen rfl (PySem.W.codeRec_of KX tD) (hb _ _ _ _ ?_)
 suffices hh:∀env,env=newEnv scope s.heap.objs.size mainGlobals (cellsFrom (s.heap.objs.size+1) scope.names []) (cW++".<locals>.") (some f) gi none builtinsNs->∀s1,s.toks<=s1.toks->0<s1.toks->InCallC s env.locals (bindL env.kindOf (ps.zip us) fun _=>none) env.cells (bindC env.kindOf (ps.zip us) fun _=>none) s1->s1.heap.NoLimit/\codeAny (model P w) A (Code.func body env) (CR CX outer P w H s Q E) s1 by
  rcases hp with hp|⟨n,e1,hn⟩
  ·exact up (jX S.kind iS fun env he s1 x iR=>hh env he s1 iR (ay hp iR) x)
  ·subst e1
   have hus:us.length=1:=r.length.symm.trans hl
   obtain⟨u,rfl⟩:∃u,us=[u]:=fQ.mp hus
   exact w6 S.kind hn fun env he s1 hlt x=>hh env he s1 (dQ hlt) (dJ (br _) hlt) x
 intro env he s1 iR L0 x
 subst he
 refine⟨lim.keeps x.toInCall.keep,codeAny_func ?_⟩
 obtain⟨t,ht,hq⟩:=pO A outer s H vs Q E (hr.deeper _) wW
 have I:bi (uJ CX P w K mg base N cW scope f gi A outer s H E) [] (jy N vs) H s1:=t7 S hr.hd e0 hl r iR L0 x
 refine fP (ht [] s1 (jy N vs) H _ I hq) (fun fl s' hs=>?_) fun e s' hs=>hs
 have fin:∀{σ':St} {H':Hp} {v:V} {u:Value},bi (uJ CX P w K mg base N cW scope f gi A outer s H E) [] σ' H' s'->cN _ v u->Q v H'->CE outer P w H s Q u s':=
  fun{σ' H' v u} J rv q=>⟨v,H',J.os,J.bare,J.base,J.hok,rv,q⟩
 cases fl with
 |ret u=>
  obtain⟨v,σ',H',J,rv,q⟩:=hs
  exact fin J rv q
 |next=>
  obtain⟨σ',H',J,q⟩:=hs
  exact fin (v:=V.non) (u:=Value.none) J rfl q
 |brk=>
  obtain⟨_,_,_,q⟩:=hs
  exact False.elim q
 |cont=>
  obtain⟨_,_,_,q⟩:=hs
  exact False.elim q
end L2
namespace L2
variable{nk:Nat}
open PySem PySem.Spec PyProof.Rows
section
variable{X:Cx}{x:Str}{p pos:Pos}{e:Expr}{es:List Expr}{t:TA}{id T:String}{r:List V->Hp->VK->Prop}
def MD(r:List V->Hp->VK->Prop)(t:TA):TE:=fun σ H Q=>t σ H fun vs H1=>r vs H1 Q
theorem oS(hc:jg X (.builtin id) r)(hg:Gl X x)(hm:X.mg x=none)(hv:bootBuiltins x=some (.builtin id))(ha:PA X (e::es) t)(hn:x ≠ "__name__":=by decide)(Aq:(x==("__debug__":Str))=false:=by decide)
  (he:starEach (e::es) X.env=(false,eval e X.env)::starEach es X.env:=by rfl) (nS:(backTo pos (starEach es X.env)).any (·.1)=false:=by rfl):PE X (.Call (.Name x p) (e::es) [] pos) (MD r t):=by
 intro ae s σ H Q I h
 refine cF (lL I hg hm hv ?_ hn Aq)
 exact fI (jx (ha pos ae s σ H _ I h) fun us s1 kt1 ⟨vs,H1,I1,r1,q1⟩=>hc ae s1 σ H1 vs us Q I1 r1 q1) he nS
theorem pX(hc:jg X (.type T) r)(hg:Gl X x)(hm:X.mg x=none)(hv:bootBuiltins x=some (.type T))(ha:PA X (e::es) t)(hn:x ≠ "__name__":=by decide)(Aq:(x==("__debug__":Str))=false:=by decide)
  (he:starEach (e::es) X.env=(false,eval e X.env)::starEach es X.env:=by rfl) (nS:(backTo pos (starEach es X.env)).any (·.1)=false:=by rfl):PE X (.Call (.Name x p) (e::es) [] pos) (MD r t):=by
 intro ae s σ H Q I h
 refine cF (lL I hg hm hv ?_ hn Aq)
 exact c9 (jx (ha pos ae s σ H _ I h) fun us s1 kt1 ⟨vs,H1,I1,r1,q1⟩=>hc ae s1 σ H1 vs us Q I1 r1 q1) he nS
end
end L2
namespace HT
open PySem PyProof.Rows
section
open PySem.SeqAt
open PySem.AutoSeq1 (wpAny_loadPart')
open PySem.MeetsSeq PySem.MeetsSeq2 PySem.MeetsSeq3
end
section
variable{prog:Program}{w:World}{A:Around}{E:Value->Shared->Prop}{s:Shared}
theorem cat_tup{t b:Addr}{vs ws:List Value}{Q:Value->Shared->Prop}(ht:IsTup s.heap t vs.toArray)(hb:IsTup s.heap b ws.toArray)(hv:vs≠[])
  (h1:ws=[]->Q (.ref t) s) (h2:ws≠[]->Q (.ref s.heap.objs.size) { s with heap:=s.heap.push { cls:=.type "tuple",data:=.seq (vs++ws).toArray } })
  (hsz:vs.length+ws.length<=sizeLine):wpAny (model prog w) A (binaryOp .Add (.ref t) (.ref b)) Q E s:=by
 obtain⟨⟨cls,dd,data,sl⟩,ho,hc,n,hd⟩:=id ht
 obtain⟨⟨cls2,dd2,data2,sl2⟩,ho2,hc2,n2,hd2⟩:=id hb
 simp only at hc hd hc2 hd2
 subst hc hd hc2 hd2
 have e:vs.toArray++ws.toArray=(vs++ws).toArray:=by simp
 by_cases hw:ws=[]
 ·exact pP ⟨_,ho,rfl⟩ ⟨_,ho2,rfl⟩ ly og PySem.F.slot_tuple_add PySem.F.entry_tuple_add (PySem.F.args_tuple_add_2 _ _)
   (tuple_addW1 t b vs.toArray ws.toArray n n2 dd dd2 sl sl2 (by simpa using hv) (by simp[hw])) ⟨ho,ho2,h1 hw⟩
 ·refine pP ⟨_,ho,rfl⟩ ⟨_,ho2,rfl⟩ ly og PySem.F.slot_tuple_add PySem.F.entry_tuple_add (PySem.F.args_tuple_add_2 _ _)
   (tuple_addW2 t b vs.toArray ws.toArray n n2 dd dd2 sl sl2 (by simpa using hv) (by simpa using hw) (by rw[aR,aR];exact hsz)) ⟨ho,ho2,?_⟩
  rw[e]
  exact h2 hw
def sIx(n d:Nat):Option Int->Nat
 |none=>d
 |some v=>if v<0 then(v+(n:Int)).toNat else min v.toNat n
theorem sIx_none(n d:Nat):sIx n d none=d:=rfl
theorem sIx_nat(n d k:Nat):sIx n d (some (k:Int))=min k n:=by
 show(if (k:Int)<0 then((k:Int)+(n:Int)).toNat else min (k:Int).toNat n)=min k n
 rw[au (by omega),bP]
theorem sIx_le(n d:Nat)(hd:d<=n)(o:Option Int):sIx n d o<=n:=by
 cases o with
 |none=>exact hd
 |some v=>
  show(if v<0 then(v+(n:Int)).toNat else min v.toNat n)<=n
  by_cases hv:v<0
  ·rw[am hv];omega
  ·rw[au hv];exact Nat.min_le_right _ _
theorem yr(v:Int)(n d:Nat):(if v<0 then max (v+(n:Int)) 0 else min v (n:Int))=((sIx n d (some v):Nat):Int):=by
 show(if v<0 then max (v+(n:Int)) 0 else min v (n:Int))=(((if v<0 then(v+(n:Int)).toNat else min v.toNat n):Nat):Int)
 by_cases hv:v<0
 ·simp only[am hv];omega
 ·simp only[au hv];omega
theorem w9(lo hi:Option Int)(n:Nat):Builtin.Slice.sliceAdjust lo hi 1 (n:Int)=(((sIx n 0 lo:Nat):Int),((sIx n n hi:Nat):Int)):=by
 have h1:¬ ((1:Int)<0):=by omega
 unfold Builtin.Slice.sliceAdjust
 simp only[h1,cA]
 refine Prod.ext ?_ ?_
 ·cases lo with
  |none=>rfl
  |some v=>exact yr v n 0
 ·cases hi with
  |none=>rfl
  |some v=>exact yr v n n
theorem w_(i j:Nat):Builtin.Slice.slicePlaces (i:Int) (j:Int) 1=j-i:=by
 unfold Builtin.Slice.slicePlaces
 have h1:(1:Int)>0:=by omega
 simp only[h1,gD,Int.ediv_one]
 split<;>omega
theorem rK{v:Value}{o:Option Int}{Q:Option Int->Shared->Prop}(p:IsPart v o)(h:Q o s):wpAny (model prog w) A (Builtin.Slice.slicePartIndex v) Q E s:=by
 cases p with
 |none=>exact slicePart_none h
 |int i t=>exact slicePart_int h
theorem sliceApplied_gen{sl:Addr}{vl vu:Value}{lo hi:Option Int}{n:Nat}{Q:Int×Int×Nat->Shared->Prop}(hs:s.heap.IsSliceOf sl vl vu .none)(pl:IsPart vl lo)(pu:IsPart vu hi)
  (h:Q (((sIx n 0 lo:Nat):Int),1,sIx n n hi-sIx n 0 lo) s):wpAny (model prog w) A (Builtin.Slice.sliceApplied (.ref sl) (pure (n:Int))) Q E s:=by
 obtain⟨os,hos,hcs,Az⟩:=id hs
 unfold Builtin.Slice.sliceApplied Builtin.Slice.sliceFields
 refine aa (aa (dX hos Az (x:=vl) rfl (aa (dX hos Az (x:=vu) rfl (aa (dX hos Az (x:=.none) rfl (ai ?_)))))))
 refine aa (slicePart_none ?_)
 show wpAny _ _ (if ((1:Int)==0)=true then _ else _) _ _ s
 rw[au (by decide)]
 refine aa (rK pl (aa (rK pu (aa (ai ?_)))))
 show wpAny _ _ (match Builtin.Slice.sliceAdjust lo hi 1 (n:Int)with|(lo,hi)=>pure (lo,(1:Int),Builtin.Slice.slicePlaces lo hi 1)) _ _ s
 rw[w9 lo hi n]
 show wpAny _ _ (pure (((sIx n 0 lo:Nat):Int),(1:Int),Builtin.Slice.slicePlaces ((sIx n 0 lo:Nat):Int) ((sIx n n hi:Nat):Int) 1)) _ _ s
 rw[w_]
 exact ai h
theorem AK(xs:Array Value)(i k:Nat):((List.range k).filterMap fun(m:Nat)=>xs[((i:Int)+(m:Int)*1).toNat]?).toArray=((xs.toList.drop i).take k).toArray:=by
 have e:(fun(m:Nat)=>xs[((i:Int)+(m:Int)*1).toNat]?)=fun m=>xs[i+m]?:=by
  funext m
  have:((i:Int)+(m:Int)*1).toNat=i+m:=by omega
  rw[this]
 rw[e]
 have:=pick_run xs i k
 rw[List.filterMap_map]at this
 have e2:((fun x=>xs[x]?)∘fun x=>i+x)=fun m=>xs[i+m]?:=rfl
 rw[e2]at this
 rw[this]
theorem getItem_tuple_cut{t sl:Addr}{items:Array Value}{vl vu:Value}{lo hi:Option Int}{Q:Value->Shared->Prop}(ht:IsTup s.heap t items)(hs:s.heap.IsSliceOf sl vl vu .none)(pl:IsPart vl lo)(pu:IsPart vu hi)
  (hw:¬ (sIx items.size 0 lo=0/\sIx items.size items.size hi=items.size))
  (h:Q (.ref s.heap.objs.size) { s with heap:=s.heap.push { cls:=.type "tuple",data:=.seq ((items.toList.drop (sIx items.size 0 lo)).take (sIx items.size items.size hi-sIx items.size 0 lo)).toArray } })
  (hsz:items.size<=sizeLine):wpAny (model prog w) A (getItem (.ref t) (.ref sl)) Q E s:=by
 have htake:sizeOk (.seq ((items.toList.drop (sIx items.size 0 lo)).take (sIx items.size items.size hi-sIx items.size 0 lo)).toArray):=by
  show((items.toList.drop (sIx items.size 0 lo)).take (sIx items.size items.size hi-sIx items.size 0 lo)).toArray.size<=sizeLine
  rw[aR,aQ,bO,aO]
  omega
 have hj:sIx items.size items.size hi<=items.size:=sIx_le _ _ (ah _) hi
 obtain⟨os,hos,hcs,Az⟩:=id hs
 have hTs:s.TypeIs (.ref sl) "slice":=⟨os,hos,hcs⟩
 unfold getItem
 try with_reducible refine bE ?_
 first|refine aa (ai ?_)|skip
 refine aa (wpAny_sequenceKey ht.typeIs (by decide) ?_)
 refine aa (bT (name:=Str.ofString "__getitem__") ht.typeIs dC
  (bD dC ht.typeIs entry_tuple_getitem ?_ (args_tuple_getitem _ _)))
 show wpAny _ _ (Builtin.Tuple.tupleItemsOf (.ref t) >>= _) _ _ s
 refine aa (tupleItemsOf_ ht ?_)
 refine aa (fR hTs ?_)
 rw[am (by decide)]
 refine aa (sliceApplied_gen hs pl pu ?_)
 have hno:¬ ((((sIx items.size 0 lo:Nat):Int)==0&&(1:Int)==1&&(sIx items.size items.size hi-sIx items.size 0 lo)==items.size)=true):=by
  intro q
  rw[cq,cq]at q
  have q1:((sIx items.size 0 lo:Nat):Int)=0:=lz q.1.1
  have q2:sIx items.size items.size hi-sIx items.size 0 lo=items.size:=lz q.2
  exact hw ⟨by omega,by omega⟩
 show wpAny _ _ (if (((sIx items.size 0 lo:Nat):Int)==0&&(1:Int)==1&&(sIx items.size items.size hi-sIx items.size 0 lo)==items.size)=true then _ else _) _ _ s
 rw[au hno,AK]
 first
  |exact aa (m:=Builtin.Tuple.tupleExact _) (bx (ai ⟨_,rfl,ai h⟩) htake)
  |exact aa (m:=Builtin.Tuple.tupleExact _) (bx (aa (ai (ai ⟨_,rfl,ai h⟩))) htake)
  |exact aa (aa (m:=Builtin.Tuple.tupleExact _) (bx (ai (ai ⟨_,rfl,ai h⟩)) htake))
  |exact aa (aa (m:=Builtin.Tuple.tupleExact _) (bx (ai ⟨_,rfl,ai h⟩) htake))
end
end HT
namespace L2
variable{nk:Nat}
open PySem PySem.Spec PyProof.Rows
abbrev TO:=St->Hp->(Option Int->Hp->Prop)->Prop
def PO(X:Cx)(e:Option Expr)(t:TO):Prop:=
 ∀(ae:List (Addr×Obj)) (s:Shared) (σ:St) (H:Hp) (Q:Option Int->Hp->Prop),bi X ae σ H s->t σ H Q ->
  wpAny (model X.prog X.w) X.A (evalPart e X.env) (fun u s'=>∃o H',bi X ae σ H' s'/\IsPart u o/\Q o H') X.xe s
def DT:TO:=fun _ H Q=>Q none H
def J0(t:TE):TO:=fun σ H Q=>t σ H fun x H1=>∃i,x=.int i/\Q (some i) H1
theorem xa{ns:List Int}:∀{us:List Value},b7 nk (ns.map V.int) us->IntsAre us ns:=by
 induction ns with
 |nil=>intro us r;rw[jG]at r;cases r;exact .nil
 |cons n ns ih=>
  intro us r
  rw[a7]at r
  cases r with
  |cons r1 r2=>
   obtain⟨t,e⟩:=r1
   subst e
   exact .cons n t (ih r2)
section
variable{X:Cx}{e:Expr}{te:TE}{lo hi:Option Expr}{tl th:TO}{pos p2:Pos}
theorem DU:PO X none DT:=by
 intro ae s σ H Q I h
 rw[oh]
 exact ai ⟨none,H,I,.none,h⟩
theorem DV(h:PE X e te):PO X (some e) (J0 te):=by
 intro ae s σ H Q I hw
 rw[evalPart_some]
 refine jx (h ae s σ H _ I hw) fun u s1 kt1 ⟨x,H1,I1,r1,q1⟩=>?_
 obtain⟨i,rfl,q⟩:=q1
 obtain⟨t,rfl⟩:=r1
 exact⟨some i,H1,I1,.int i t,q⟩
def J1(X:Cx)(r:V->Option Int->Option Int->Hp->VK->Prop):Prop:=
 ∀(ae:List (Addr×Obj)) (s:Shared) (σ:St) (H:Hp) (x:V) (v vl vu:Value) (lo hi:Option Int) (sl:Addr) (Q:VK),bi X ae σ H s->cN s.toks x v->s.heap.IsSliceOf sl vl vu .none->IsPart vl lo->IsPart vu hi->r x lo hi H Q ->
  ∃T id,typeLookup (.type T) "__getitem__"=pure (some (.builtin id))/\s.TypeIs v T/\wpAny (model X.prog X.w) X.A (getItem v (.ref sl)) (EP X ae σ Q) X.xe s
def NO(r:V->Option Int->Option Int->Hp->VK->Prop)(te:TE)(tl th:TO):TE:=fun σ H Q=>te σ H fun x H1=>tl σ H1 fun l H2=>th σ H2 fun u H3=>r x l u H3 Q
theorem AL{r:V->Option Int->Option Int->Hp->VK->Prop}(hr:J1 X r)(he:PE X e te)(hl:PO X lo tl)(hu:PO X hi th):PE X (.Subscript e (.Slice lo hi none p2) pos) (NO r te tl th):=by
 intro ae s σ H Q I h
 refine Subscript_ (jx (he ae s σ H _ I h) fun v s1 kt1 ⟨x,H1,I1,r1,q1⟩=>?_)
 refine wpAny_Slice (jx (hl ae s1 σ H1 _ I1 q1) fun vl s2 kt2 ⟨l,H2,I2,pl,q2⟩=>jx (hu ae s2 σ H2 _ I2 q2) fun vu s3 kt3 ⟨u,H3,I3,pu,q3⟩=>?_)
 rw[oh]
 refine ai ?_
 have I4:bi X ae σ H3 { s3 with heap:=s3.heap.push { cls:=.type "slice",data:=.fields #[vl,vu,.none] } }:=I3.kept (t':=s3.toks) fun b ob q=>ag _ q
 obtain⟨T,id,hT,ht,hg⟩:=hr ae { s3 with heap:=s3.heap.push { cls:=.type "slice",data:=.fields #[vl,vu,.none] } } σ H3 x v vl vu l u s3.heap.objs.size Q I4 (r1.up (aA kt2 kt3)) (Heap.IsSliceOf.new ..) pl pu q3
 show wpAny (model X.prog X.w) X.A (subscriptTail e (.Slice lo hi none p2) v (.ref s3.heap.objs.size)) (EP X ae σ Q) X.xe { s3 with heap:=s3.heap.push { cls:=.type "slice",data:=.fields #[vl,vu,.none] } }
 exact tail_any (ops:=[.ref s3.heap.objs.size,v]) ht hT hg (by with_unfolding_all rfl)
def rL(xs:List V)(lo hi:Option Int):List V:=(xs.drop (HT.sIx xs.length 0 lo)).take (HT.sIx xs.length xs.length hi-HT.sIx xs.length 0 lo)
theorem qA(xs:List V)(lo hi:Option Int):(rL xs lo hi).length<=xs.length:=by
 unfold rL
 rw[aQ,bO]
 omega
def ME(K:Frag):V->Option Int->Option Int->Hp->VK->Prop:=fun x lo hi H Q=>∃a xs,x=.ref a/\gH K H a xs /\
 ¬ (HT.sIx xs.length 0 lo=0/\HT.sIx xs.length xs.length hi=xs.length)/\∀p,H p=none->Q (.ref p) (gb H p (.tup (rL xs lo hi)))
theorem G5:J1 X (ME X.K):=by
 intro ae s σ H x v vl vu lo hi sl Q I rx hs pl pu h
 obtain⟨a,xs,rfl,hx,hw,q⟩:=h
 cases rx
 obtain⟨bv,r,ht,hz⟩:=I.tuple hx
 have eZ:bv.toArray.size=xs.length:=by rw[aR];exact r.length.symm
 refine⟨"tuple",_,dC.lookup,ht.typeIs,?_⟩
 refine HT.getItem_tuple_cut ht hs pl pu (by rw[eZ];exact hw) ?_ (by rw[eZ];exact hz)
 rw[eZ]
 refine⟨.ref s.heap.objs.size,_,I.laid (t':=s.toks) (o:=.tup (rL xs lo hi)) (fun b ob q=>ag _ q) (ah _) ?_,rfl,q _ (I.hok.fresh (ah _))⟩
 exact⟨aA (qA xs lo hi) hz,_,(r.drop (HT.sIx xs.length 0 lo)).take (HT.sIx xs.length xs.length hi-HT.sIx xs.length 0 lo),IsTup.new _ _⟩
def J2(K:Frag):R2:=fun x y H Q=>∃a b xs ys,x=.ref a/\y=.ref b/\gH K H a xs/\gH K H b ys/\xs≠[]/\xs.length+ys.length<=sizeLine /\
 (ys=[]->Q (.ref a) H)/\(ys≠[]->∀p,H p=none->Q (.ref p) (gb H p (.tup (xs++ys))))
theorem b7.nil_iff{xs:List V}{us:List Value}(r:b7 nk xs us):us=[]↔xs=[]:=by
 cases r with
 |nil=>simp
 |cons _ _=>simp
theorem DW:mR X (binaryOp .Add) (J2 X.K):=by
 intro ae s σ H x y v u Q I rx ry h
 obtain⟨a,b,xs,ys,rfl,rfl,ha,hb,hx,hz,q1,q2⟩:=h
 cases rx
 cases ry
 obtain⟨bv,r1,p1,_⟩:=I.tuple ha
 obtain⟨its2,r2,p2,_⟩:=I.tuple hb
 refine HT.cat_tup p1 p2 (fun z=>hx (r1.nil_iff.mp z)) (fun z=>⟨.ref a,H,I,rfl,q1 (r2.nil_iff.mp z)⟩) (fun z=>?_) (by rw[<- r1.length,<- r2.length];exact hz)
 refine⟨.ref s.heap.objs.size,_,I.laid (t':=s.toks) (o:=.tup (xs++ys)) (fun b ob q=>ag _ q) (ah _) ?_,rfl,q2 (fun w=>z (r2.nil_iff.mpr w)) _ (I.hok.fresh (ah _))⟩
 exact⟨by rw[aJ];exact hz,_,r1.append r2,IsTup.new _ _⟩
theorem vC:jg X (.type "tuple") (fun xs H Q=>∃a ys,xs=[.ref a]/\gH X.K H a ys/\Q (.ref a) H):=by
 intro ae s σ H xs us Q I r h
 obtain⟨a,ys,rfl,ha,q⟩:=h
 obtain⟨u,rfl,ru⟩:=oR r
 cases ru
 obtain⟨bv,_,p1,_⟩:=I.tuple ha
 exact call_tuple_same (items:=bv.toArray) p1 ⟨.ref a,H,I,rfl,q⟩
end
end L2
namespace L2
variable{nk:Nat}
open PySem PySem.Spec PyProof.Rows
def Js(n:Nat)(i:Int):Option Nat:=if 0<=i then(if i<n then some i.toNat else none)else if -(n:Int)<=i then some (i+n).toNat else none
def qS{α:Type}(xs:List α)(i:Int):Option α:=(Js xs.length i).bind fun j=>xs[j]?
theorem DY{n:Nat}{i:Int}{j:Nat}(h:Js n i=some j):seqIndex? i n=some j/\j<n/\-(n:Int)<=i/\i<n:=by
 unfold Js at h
 by_cases h0:0<=i
 ·rw[am h0]at h
  by_cases h1:i<n
  ·rw[am h1]at h
   have e:i.toNat=j:=be h
   exact⟨by rw[seqIndex_of h0 h1,e],by omega,by omega,h1⟩
  ·rw[au h1]at h;cases h
 ·rw[au h0]at h
  by_cases h1:-(n:Int)<=i
  ·rw[am h1]at h
   have e:(i+n).toNat=j:=be h
   exact⟨by rw[seqIndex_neg (by omega) h1,e],by omega,h1,by omega⟩
  ·rw[au h1]at h;cases h
theorem uK{α:Type}{xs:List α}{i:Int}{v:α}(h:qS xs i=some v):∃j,seqIndex? i xs.length=some j/\xs[j]?=some v/\j<xs.length/\-(xs.length:Int)<=i/\i<xs.length:=by
 unfold qS at h
 cases e:Js xs.length i with
 |none=>rw[e]at h;cases h
 |some j=>
  rw[e]at h
  obtain⟨h1,h2,h3,h4⟩:=DY e
  exact⟨j,h1,h,h2,h3,h4⟩
def yt(b:Expr):Prop:=∀o i,subscripted b false o i=operate [o,i] (getItem o i)
def Dq(X:Cx)(r:R2):Prop:=
 ∀(value slice:Expr) (ae:List (Addr×Obj)) (s:Shared) (σ:St) (H:Hp) (x y:V) (v u:Value) (Q:VK),bi X ae σ H s->cN s.toks x v->cN s.toks y u->r x y H Q ->
  subscripted slice false v u=operate [v,u] (getItem v u)->wpAny (model X.prog X.w) X.A (subscriptTail value slice v u) (EP X ae σ Q) X.xe s
def Dr(X:Cx)(id:String)(r:V->List V->Hp->VK->Prop):Prop:=
 ∀(ae:List (Addr×Obj)) (s:Shared) (σ:St) (H:Hp) (x:V) (xs:List V) (v:Value) (us:List Value) (Q:VK),bi X ae σ H s->cN s.toks x v->b7 s.toks xs us->r x xs H Q ->
  wpAny (model X.prog X.w) X.A (call (.builtin id) (v::us)) (EP X ae σ Q) X.xe s
section
variable{X:Cx}{a b:Expr}{ta tb:TE}{pos:Pos}
theorem Dq.or{r r':R2}(h:Dq X r)(h':Dq X r'):Dq X (fun x y H Q=>r x y H Q\/r' x y H Q):=by
 intro value slice ae s σ H x y v u Q I rx ry q hs
 rcases q with q|q
 ·exact h value slice ae s σ H x y v u Q I rx ry q hs
 ·exact h' value slice ae s σ H x y v u Q I rx ry q hs
theorem J3{r:R2}(hr:Dq X r)(ha:PE X a ta)(hb:PE X b tb)(hs:yt b):PE X (.Subscript a b pos) (JP r ta tb):=by
 intro ae s σ H Q I h
 exact Subscript_ (GR ha hb I h fun v u s2 x y H2 I2 rx ry q=>hr a b ae s2 σ H2 x y v u Q I2 rx ry q (hs _ _))
def J4(K:Frag):R2:=fun x y H Q=>∃p xs i v,x=.ref p/\y=.int i/\pW K H p xs/\qS xs i=some v/\Q v H
def J5(K:Frag):R2:=fun x y H Q=>∃p xs i v,x=.ref p/\y=.int i/\gH K H p xs/\qS xs i=some v/\Q v H
def J6:R2:=fun x y H Q=>∃z i c,x=.str z/\y=.int i/\z.length<=sizeLine/\qS z.cps.toList i=some c/\Q (.str ⟨#[c]⟩) H
theorem DZ:Dq X (J4 X.K):=by
 intro value slice ae s σ H x y v u Q I rx ry h hs
 obtain⟨p,xs,i,z,rfl,rfl,hq,he,q⟩:=h
 cases rx
 obtain⟨t,rfl⟩:=ry
 obtain⟨bv,r,pl,hz⟩:=I.list hq
 obtain⟨j,h1,h2,h3,h4,h5⟩:=uK he
 obtain⟨w,ew,vw⟩:=r.get h2
 have hl:=r.length
 have hn:=rG
 have fin:EP X ae σ Q w s:=⟨z,H,I,vw,q⟩
 by_cases h0:0<=i
 ·have hj:i.toNat=j:=by
   rw[seqIndex_of h0 h5]at h1
   exact be h1
  exact item_listR pl.isList h0 (by omega) (by rw[hj];simpa using ew) fin hs
 ·have hj:(i+(bv.toArray.size:Int)).toNat=j:=by
   rw[seqIndex_neg (by omega) h4]at h1
   rw[aR,<- hl]
   exact be h1
  exact l7 (x:=w) pl.isList.typeIs slot_list_getitem.lookup
   (wpAny_getItem_list_neg (Q:=fun r s'=>r=w/\EP X ae σ Q r s') pl.isList (by omega) (by rw[aR]<;>omega) (by omega) (by rw[hj];simpa using ew) ⟨rfl,fin⟩) hs
theorem G6:Dq X (J5 X.K):=by
 intro value slice ae s σ H x y v u Q I rx ry h hs
 obtain⟨p,xs,i,z,rfl,rfl,hq,he,q⟩:=h
 cases rx
 obtain⟨t,rfl⟩:=ry
 obtain⟨bv,r,pl,hz⟩:=I.tuple hq
 obtain⟨j,h1,h2,h3,h4,h5⟩:=uK he
 obtain⟨w,ew,vw⟩:=r.get h2
 have hl:=r.length
 have hn:=rG
 have fin:EP X ae σ Q w s:=⟨z,H,I,vw,q⟩
 exact l7 (x:=w) pl.typeIs slot_tuple_getitem.lookup
  (getItem_tuple (j:=j) (Q:=fun r s'=>r=w/\EP X ae σ Q r s') pl (by omega) (by omega) (by rw[aR,<- hl];exact h1) (by simpa using ew) ⟨rfl,fin⟩) hs
theorem G7:Dq X J6:=by
 intro value slice ae s σ H x y v u Q I rx ry h hs
 obtain⟨z,i,c,rfl,rfl,hz,he,q⟩:=h
 obtain⟨t,rfl⟩:=rx
 obtain⟨t',rfl⟩:=ry
 obtain⟨j,h1,h2,h3,h4,h5⟩:=uK he
 have hl:z.cps.toList.length=z.length:=by simp[Str.length]
 rw[hl]at h1 h4 h5
 have hn:=rG
 exact tail_any (jY s z t) slot_str_getitem.lookup (getItem_str (c:=c) (by
  have e1:decide (i < -(2^63:Int))=false:=aP (by omega)
  have e2:decide (i≥2^63)=false:=aP (by omega)
  rw[e1,e2,jd]) (by rw[h1];simpa using h2) ⟨.str ⟨#[c]⟩,H,I.tok _,I.tkS,q⟩) hs
def NP(K:Frag):R2:=fun x y H Q=>J4 K x y H Q\/J5 K x y H Q\/J6 x y H Q
theorem G8:Dq X (NP X.K):=DZ.or (G6.or G7)
theorem uL(lo hi:Option Int)(n:Nat):(sliceBounds lo hi none n).1=((HT.sIx n 0 lo:Nat):Int)/\(sliceBounds lo hi none n).2.1=((HT.sIx n n hi:Nat):Int)/\(sliceBounds lo hi none n).2.2=1:=by
 refine⟨?_,?_,rfl⟩
 ·cases lo with
  |none=>simp[sliceBounds,HT.sIx]
  |some i=>
   simp only[sliceBounds,HT.sIx,Option.getD_none,show(1:Int)>0 by decide,gD]
   by_cases h:i<0
   ·simp only[h,gD]<;>omega
   ·simp only[h,cA]<;>omega
 ·cases hi with
  |none=>simp[sliceBounds,HT.sIx]
  |some i=>
   simp only[sliceBounds,HT.sIx,Option.getD_none,show(1:Int)>0 by decide,gD]
   by_cases h:i<0
   ·simp only[h,gD]<;>omega
   ·simp only[h,cA]<;>omega
theorem tH(bv:List Value)(lo hi:Option Int):slicePick bv.toArray lo hi none=((bv.drop (HT.sIx bv.length 0 lo)).take (HT.sIx bv.length bv.length hi-HT.sIx bv.length 0 lo)).toArray:=by
 obtain⟨h1,h2,h3⟩:=uL lo hi bv.toArray.size
 unfold slicePick
 rw[h1,h2,h3]
 simp only[sliceRange_one,pick_run,aR]<;>rfl
def MF(K:Frag):V->Option Int->Option Int->Hp->VK->Prop:=fun x lo hi H Q=>∃a xs,x=.ref a/\pW K H a xs/\∀p,H p=none->Q (.ref p) (gb H p (.lst (rL xs lo hi)))
theorem D0:J1 X (MF X.K):=by
 intro ae s σ H x v vl vu lo hi sl Q I rx hs pl pu h
 obtain⟨a,xs,rfl,hx,q⟩:=h
 cases rx
 obtain⟨bv,r,ht,hz⟩:=I.list hx
 have eZ:=r.length
 refine⟨"list",_,slot_list_getitem.lookup,ht.isList.typeIs,?_⟩
 refine kW ht.isList hs pl pu .none (by simp) ?_ (by rw[aR]<;>omega)
 rw[tH,<- eZ]
 refine⟨.ref s.heap.objs.size,_,I.laid (t':=s.toks) (o:=.lst (rL xs lo hi)) (fun b ob q=>ag _ q) (ah _) ?_,rfl,q _ (I.hok.fresh (ah _))⟩
 exact⟨aA (qA xs lo hi) hz,_,0,(r.drop (HT.sIx xs.length 0 lo)).take (HT.sIx xs.length xs.length hi-HT.sIx xs.length 0 lo),ar _ rfl⟩
theorem oU:jg X (.builtin "len") (fun xs H Q=>∃p ys,xs=[.ref p]/\(pW X.K H p ys\/gH X.K H p ys)/\Q (.int ys.length) H):=by
 intro ae s σ H xs us Q I r h
 obtain⟨p,ys,rfl,hq,q⟩:=h
 obtain⟨u,rfl,rx⟩:=oR r
 cases rx
 have hn:=rG
 rcases hq with hq|hq
 ·obtain⟨bv,r',pl,hz⟩:=I.list hq
  have eZ:=r'.length
  exact Calls.call_len_list pl.isList (by simp only[aR]<;>omega) ⟨.int ys.length,H,I.tok _,⟨s.toks+1,by rw[aR,eZ]⟩,q⟩
 ·obtain⟨bv,r',pl,hz⟩:=I.tuple hq
  have eZ:=r'.length
  exact len_tuple pl (by simp only[aR]<;>omega) ⟨.int ys.length,H,I.tok _,⟨s.toks+1,by rw[aR,eZ]⟩,q⟩
theorem uM:jg X (.builtin "len") (fun xs H Q=>∃z,xs=[.str z]/\z.length<=sizeLine/\Q (.int z.length) H):=by
 intro ae s σ H xs us Q I r h
 obtain⟨z,rfl,hz,q⟩:=h
 obtain⟨u,rfl,t,rfl⟩:=oR r
 have hn:=rG
 exact len_str (by omega) ⟨.int z.length,H,I.tok _,⟨_,rfl⟩,q⟩
theorem tI:jg X (.type "tuple") (fun xs H Q=>∃p ys,xs=[.ref p]/\((pW X.K H p ys/\∀l,H l=none->Q (.ref l) (gb H l (.tup ys)))\/(gH X.K H p ys/\Q (.ref p) H))):=by
 intro ae s σ H xs us Q I r h
 obtain⟨p,ys,rfl,h⟩:=h
 obtain⟨u,rfl,rx⟩:=oR r
 cases rx
 rcases h with⟨hq,q⟩|⟨hq,q⟩
 ·obtain⟨bv,r',pl,hz⟩:=I.list hq
  have eZ:=r'.length
  refine call_tuple_list pl.isList (fun h' kp=>?_) (by simp only[aR]<;>omega)
  have I1:bi X ae σ H { s with heap:=h' }:=I.kept (t':=s.toks) kp
  have I2:bi X ae σ (gb H h'.objs.size (.tup ys)) { s with heap:=h'.push { cls:=.type "tuple",data:=.seq bv.toArray } }:=
   I1.laid (t':=s.toks) (fun b o e=>ag _ e) (ah _) (show dS X.prog X.w _ _ _ _ (.tup ys)from⟨hz,bv,r',IsTup.new _ _⟩)
  exact⟨.ref h'.objs.size,_,I2,rfl,q _ (I1.hok.fresh (ah _))⟩
 ·obtain⟨bv,r',pl,hz⟩:=I.tuple hq
  exact call_tuple_same pl ⟨.ref p,H,I,rfl,q⟩
def L5(K:Frag)(T:String)(x:V)(H:Hp):Prop:=match x with
 |.str _=>T="str"
 |.int _=>T="int"
 |.ref p=>(T="list"/\∃xs,pW K H p xs)\/(T="tuple"/\∃o,K.lookup p=some o/\o.cls=.type "tuple"/\o.dict=none) \/
   (T="dict"/\((∃kvs,H p=some (.dK kvs))\/∃kvs,H p=some (.dT kvs)))\/(T="set"/\∃S n,H p=some (.set S n))
 |_=>False
theorem AM{ae:List (Addr×Obj)}{σ:St}{H:Hp}{s:Shared}{T:String}{x:V}{v:Value}(I:bi X ae σ H s)(r:cN s.toks x v)(ty:L5 X.K T x H) :
  s.TypeIs v T/\∀a,v=.ref a->∃ob,s.heap.get? a=some ob/\ob.dict=none:=by
 cases x with
 |str z=>
  obtain⟨t,rfl⟩:=r
  cases(show T="str" from ty)
  exact⟨jY s z t,fun _ e=>nomatch e⟩
 |int i=>
  obtain⟨t,rfl⟩:=r
  cases(show T="int" from ty)
  exact⟨typeIs_int s i t,fun _ e=>nomatch e⟩
 |ref p=>
  cases r
  rcases ty with⟨rfl,xs,hq⟩|⟨rfl,o,hk,hc,hd⟩|⟨rfl,hk⟩|⟨rfl,S,n,hk⟩
  ·obtain⟨bv,_,pl,_⟩:=I.list hq
   refine⟨pl.isList.typeIs,fun a e=>?_⟩
   cases e
   obtain⟨o,n,e,c,hd,_⟩:=pl
   exact⟨o,e,hd⟩
  ·refine⟨⟨o,I.kIn p o hk,hc⟩,fun a e=>?_⟩
   cases e
   exact⟨o,I.kIn _ o hk,hd⟩
  ·have z:∃o,s.heap.get? p=some o/\o.ExactDict:=by
    rcases hk with⟨kvs,hk⟩|⟨kvs,hk⟩
    ·obtain⟨_,_,_,_,o,_,_,e,ex,_⟩:=I.hok p _ hk
     exact⟨o,e,ex⟩
    ·obtain⟨_,_,_,_,o,_,_,e,ex,_⟩:=I.hok p _ hk
     exact⟨o,e,ex⟩
   obtain⟨o,e,ex⟩:=z
   refine⟨⟨o,e,ex.1⟩,fun a e2=>?_⟩
   cases e2
   exact⟨o,e,ex.2.1⟩
  ·obtain⟨o,_,_,_,e,ex,_⟩:=I.hok p _ hk
   refine⟨⟨o,e,ex.1⟩,fun a e2=>?_⟩
   cases e2
   exact⟨o,e,ex.2.1⟩
 |_=>exact False.elim ty
variable{o e:Expr}{es:List Expr}{to:TE}{t:TA}{name:Str}{iy dZ:Pos}{T id:String}{r:V->List V->Hp->VK->Prop}
end
end L2
namespace L2
variable{nk:Nat}
open PySem PySem.Spec PyProof.Rows
def Np(X:Cx)(id:String)(r:V->List V->Hp->VK->Prop):Prop:=
 ∀(ae:List (Addr×Obj)) (s:Shared) (σ:St) (H:Hp) (x:V) (xs:List V) (v:Value) (us:List Value) (Q:VK),bi X ae σ H s->cN s.toks x v->b7 s.toks xs us->r x xs H Q ->
  wpAny (model X.prog X.w) X.A (call (.builtin id) (v::us)) (EP X ae σ Q) X.xe s
theorem b7.one{x:V}{us:List Value}(h:b7 nk [x] us):∃u,us=[u]/\cN nk x u:=by cases h with|cons r t=>cases t;exact⟨_,rfl,r⟩
theorem b7.two{x y:V}{us:List Value}(h:b7 nk [x,y] us):∃u v,us=[u,v]/\cN nk x u/\cN nk y v:=by cases h with|cons r t=>obtain⟨v,rfl,q⟩:=b7.one t;exact⟨_,v,rfl,r,q⟩
section
variable{X:Cx}{ae:List (Addr×Obj)}{σ:St}{H:Hp}{s:Shared}{l b:Addr}{xs ys zs:List V}
theorem bi.lset{bv its':List Value}{n:Nat}{f:Array Value->Array Value}{t':Nat}(I:bi X ae σ H s)(hH:H l=some (.lst xs))
  (e:s.heap.get? l=some { cls:=.type "list",data:=.seq bv.toArray n }) (hf:f bv.toArray=its'.toArray) (hv:b7 t' ys its') (hz:ys.length<=sizeLine) (hk:s.toks<=t':=by first|exact ah _|exact a8 _|assumption|omega) :
  bi X ae σ (gb H l (.lst ys)) { s with heap:=s.heap.update l (Obj.mapSeq f),toks:=t' }:=by
 have q:=PySem.IsL.update e f
 rw[hf]at q
 refine I.write (x:=l) (e:=l) (by rw[hH];exact trivial) (.inl rfl) (fun b' u hb hu=>(bf s.heap (Obj.mapSeq f) (Ne.symm hb)).trans hu) ⟨_,q⟩ ?_
 exact⟨hz,its',_,hv,q⟩
theorem bi.lnew{bv:List Value}{t':Nat}(I:bi X ae σ H s)(hv:b7 t' ys bv)(hz:ys.length<=sizeLine)(hk:s.toks<=t':=by first|exact ah _|exact a8 _|assumption|omega) :
  bi X ae σ (gb H s.heap.objs.size (.lst ys)) { s with heap:=s.heap.push { cls:=.type "list",data:=.seq bv.toArray },toks:=t' }:=
 I.laid (fun _ _ q=>ag _ q) (ah _) ⟨hz,bv,0,hv,ar _ rfl⟩
theorem bi.fresh(I:bi X ae σ H s):H s.heap.objs.size=none:=I.hok.fresh (ah _)
theorem bi.lstM(I:bi X ae σ H s)(hH:H l=some (.lst xs)):xs.length<=sizeLine/\∃(bv:List Value) (n:Nat),b7 s.toks xs bv/\xs.length=bv.length/\s.heap.get? l=some { cls:=.type "list",data:=.seq bv.toArray n }:=by
 obtain⟨z,bv,n,r,e⟩:=I.hok l _ hH
 exact⟨z,bv,n,r,r.length,e⟩
end
section
variable{X:Cx}
def yu:V->List V->Hp->VK->Prop:=fun x vs H Q=>∃l xs y,x=.ref l/\vs=[y]/\H l=some (.lst xs)/\xs.length<sizeLine/\Q .non (gb H l (.lst (xs++[y])))
theorem zy:Np X "list.append" yu:=by
 intro ae s σ H x vs v us Q I rx rv h
 obtain⟨l,xs,y,rfl,rfl,hH,hz,q⟩:=h
 cases rx
 obtain⟨u,rfl,ru⟩:=rv.one
 obtain⟨z,bv,n,r,hl,e⟩:=I.lstM hH
 refine oN F.slot_list_append ⟨_,e,rfl⟩ F.entry_list_append (F.args_list_append_2 _ _) (PySem.list_append l bv.toArray n u (by rw[aR];omega)) ⟨e,?_⟩
 refine⟨.non,_,I.lset (its':=bv++[u]) hH e (by simp) (r.append (.cons ru .nil)) ?_,rfl,q⟩
 rw[aJ,eR]
 omega
def MG:R2:=fun x y H Q=>∃l b xs zs,x=.ref l/\y=.ref b/\H l=some (.lst xs)/\H b=some (.lst zs)/\xs.length+zs.length<=sizeLine/\∀p,H p=none->Q (.ref p) (gb H p (.lst (xs++zs)))
theorem G9:mR X (binaryOp .Add) MG:=by
 intro ae s σ H x y v u Q I rx ry h
 obtain⟨l,b,xs,zs,rfl,rfl,hH,hB,hz,q⟩:=h
 cases rx
 cases ry
 obtain⟨z,bv,n,r,hl,e⟩:=I.lstM hH
 obtain⟨z2,its2,n2,r2,hl2,e2⟩:=I.lstM hB
 refine PySem.P.add_list e e2 ?_ (by rw[aR,aR];omega)
 have ea:bv.toArray++its2.toArray=(bv++its2).toArray:=by simp
 rw[ea]
 exact⟨.ref _,_,I.lnew (t':=s.toks) (r.append r2) (by rw[aJ];omega),rfl,q _ I.fresh⟩
end
section
variable{prog:Program}{w:World}{A:Around}{E:Value->Shared->Prop}{s:Shared}
end
section
variable{X:Cx}
end
end L2
namespace Att
open PySem PySem.W PySem.Calls PyProof.Rows
theorem qT{P:Params}{h:Heap}:∀(ns:List Int) (vs:List Value),WellAll P h vs (ns.map WData.int)->IntsAre vs ns:=by
 intro ns
 induction ns with
 |nil=>
  intro vs w
  rw[jG]at w
  cases w
  exact .nil
 |cons n ns ih=>
  intro vs w
  rw[a7]at w
  cases w with
  |cons a b=>
   cases a
   exact .cons _ _ (ih _ b)
theorem zz{l:OpenLaw}{n:Nat}(hn:l.most=some n){P:Params}{h:Heap}{args:List WData}{qZ:List Value}
  (Ar:l.row.toRowW.claim.pre args=true) (LG:WellAll P h qZ args) :
  ∃a vs ns,qZ=[Value.ref a]/\args=[WData.list (ns.map WData.int)]/\h.get? a=some { cls:=.type "list",data:=.seq vs.toArray }/\IntsAre vs ns/\ns.length<=n:=by
 have hsh:WShape.hasAll [] args [.list .int]=true:=(pre_splitW Ar).1
 have hc:l.pre.holds [] { args:=args }=true:=(pre_splitW Ar).2
 obtain⟨d,r,rfl,h1,h2⟩:=hasAllW_cons hsh
 obtain rfl:=hasAllW_nil h2
 obtain⟨xs,rfl,h3⟩:=hasW_list h1
 obtain⟨ns,rfl⟩:=items_int h3
 have eZ:ns.length<=n:=by
  unfold OpenLaw.pre at hc
  have h4:(WTm.not (.lt (.lit (.int (n:Int))) (.len (.arg 0)))).holds [] { args:=[.list (ns.map .int)] }=true:=by
   have h4:=(holds_andW hc).1
   rw[hn]at h4
   exact h4
  have h5:=condW_of h4 (w_not (w_lt w_lit (w_len_list (w_arg rfl))))
  rw[az]at h5
  refine lA fun q=>?_
  have q':(n:Int)<((ns.length:Nat):Int):=by omega
  first
   |(rw[a9 q']at h5;exact absurd h5 (by decide))
   |(simp at h5;omega)
 cases LG with
 |cons w1 w2=>
  cases w2
  cases w1 with
  |list ho hall=>exact⟨_,_,ns,rfl,rfl,ho,qT ns _ hall,eZ⟩
theorem zA(l:OpenLaw)(args:List WData):l.row.toRowW.claim.post args (.bool true) args=true:=
 postW_of (r:=l.row.toRowW) (X:=(true==true))
  (show WShape.has [] (.bool true) .bool=true by first|rfl|decide|simp[WShape.has,WShape.arms,WShape.armsAll])
  (show(WTm.eq .res (.lit (.bool true))).value [] { args:=args,res:=some (.bool true),after:=args }=some (.bool (true==true))from w_eq_bool (w_res rfl) w_lit) rfl
theorem attach_call{l:OpenLaw}{n:Nat}{q:Program}{uF:List Str}{XP:(Str->Option Value)->Heap->Prop}{YP:World->Heap->Prop}{d:DefRec}
  (hn:l.most=some n) (LH:d.params.defaults=[])
  (call:∀(w:World) (s₀ s₁:Shared) (mg mb:Str->Option Value) (fa:Addr) (o:Obj) (pm cd n9:Value) (a:Addr) (vs:List Value) (ns:List Int),
   Ground q uF [] XP w s₀ mg mb s₁.heap->YP w s₁.heap ->
   s₁.heap.get? fa=some o->o.data=.func (docDef d.name d.params d.body d.scope pm cd n9)->s₁.heap.CodeRec cd d.name->mg d.name=some (.ref fa) ->
   s₁.heap.get? a=some { cls:=.type "list",data:=.seq vs.toArray }->IntsAre vs ns->ns.length<=n->s₁.gens=#[] ->
   codeAny (model l.prog w) callerA (.call (.ref fa) ⟨[.ref a],[]⟩) (fun r s'=>r=.ok (.ret (.bool true))/\OldK s₁.heap s'.heap/\s'.os=s₁.os/\AllBare s'.gens) s₁) :
  WalkO q uF XP YP l.row.toRowW d [] (fun f vs=>PySem.call f vs):=by
 intro w s₀ s₁ mg mb G Y fa o pm cd n9 dV kV ho hd tD hD hmg hg args qZ as Ar hlay hrd LG LF
 obtain rfl:dV=.none:=Dflts.none hD LH
 obtain rfl:kV=.none:=Dflts.noKw hD
 obtain⟨a,vs,ns,rfl,rfl,hobj,hints,eZ⟩:=zz hn Ar LG
 refine enter_call (eB (call w s₀ s₁ mg mb fa o pm cd n9 a vs ns G Y ho (fd_plain hd) tD hmg hobj hints eZ hg) fun r s' hq=>?_)
 obtain⟨rfl,h2,h3,h4⟩:=hq
 exact⟨.inl ⟨.bool true,.bool true,[],rfl,fun _=>rfl,.bool true,zA l _,fun _=>⟨List.Pairwise.nil,fun _ hm=>(nomatch hm)⟩⟩,h2,h3,h4⟩
section
variable{prog:Program}{w:World}{A:Around}{E:Value->Shared->Prop}{s:Shared}{K:Frag}
end
end Att
namespace L2
variable{nk:Nat}
open PySem PySem.Spec PyProof.Rows
theorem pY:∀{vs:List Value} {ns:List Int},IntsAre vs ns->b7 nk (ns.map V.int) vs
 |_,_,.nil=>.nil
 |_,_,.cons n t h=>.cons ⟨t,rfl⟩ (pY h)
def D1(H:Hp):Prop:=∀b,H b=none\/∃o xs,H b=some (.frz o (.lst xs))
theorem AN{P:Program}{w:World}{K:Frag}{mg mb:Str->Option Value}{CX:vB}{k:Nat}{fa a:Addr}{fd:FuncData}{x:Str}{sp:Sp}{s₁:Shared}{vs:List Value}{ns:List Int}
  (KX:K.In s₁.heap) (Jf:s₁.heap.Ns mainGlobals mg) (hb:s₁.heap.Ns builtinsNs mb) (Oa:∀x:Str,x ≠ "__name__"->mb x=bootBuiltins x) (Nk:s₁.heap.NoLimit) (hg:s₁.gens=#[])
  (ha:s₁.heap.get? a=some { cls:=.type "list",data:=.seq vs.toArray }) (hi:IntsAre vs ns) (hl:ns.length<=sizeLine) (hr:im k callerA)
  (F:∀base:Heap,K.In base->base.Ns mainGlobals mg->gk P w K mg base CX k fa fd [x] sp) (LM:∀(s:Shared) (u:Value),BindsTo s fd ⟨[u],[]⟩ [(x,u)]) (Jj:fd.scope.names.lookup x=some .local)
  (wW:∀H:Hp,D1 H->pW K H a (ns.map V.int)->sp [.ref a] H (fun v _=>v=.bl true) fun _ _ _=>False)
  (Nh:∀H e s',CX [] H s₁ (fun _ _ _=>False) e s'->False) :
  codeAny (model P w) callerA (.call (.ref fa) ⟨[.ref a],[]⟩) (fun r s'=>r=.ok (.ret (.bool true))/\OldK s₁.heap s'.heap/\s'.os=s₁.os/\AllBare s'.gens) s₁:=by
 have rv:b7 0 _ _:=pY hi
 have lenV:=hi.length
 have core:∀H:Hp,D1 H->pW K H a (ns.map V.int)->nA P w s₁.toks H s₁.heap->(∀b,H b≠none->b=a)->(H a≠none->K.lookup a=none) ->
   codeAny (model P w) callerA (.call (.ref fa) ⟨[.ref a],[]⟩) (fun r s'=>r=.ok (.ret (.bool true))/\OldK s₁.heap s'.heap/\s'.os=s₁.os/\AllBare s'.gens) s₁:=by
  intro H hO hS hok hA hK
  have base_of:∀{b:Addr} {o:Obj},s₁.heap.get? b=some o->H b=none->(uH s₁.heap H).get? b=some o:=fun e n=>AB e n
  have noA:∀{b:Addr} {o:Obj} {es:Array DictEntry} {ep:Nat},s₁.heap.get? b=some o->o.data=.dict es ep->H b=none:=fun{b o es ep} e d=>by
   cases q:H b with
   |none=>rfl
   |some u=>
    have e':b=a:=hA b (by rw[q];simp)
    subst e'
    rw[ha]at e;cases e
    have d':Data.seq vs.toArray _=Data.dict es ep:=d
    cases d'
  have nsK:∀{b:Addr} {m:Str->Option Value},s₁.heap.Ns b m->(uH s₁.heap H).Ns b m:=fun{b m} ⟨o,es,ep,e,d,r⟩=>⟨o,es,ep,base_of e (noA e d),d,r⟩
  have hKb:K.In (uH s₁.heap H):=fun b o e=>base_of (KX b o e) (by
   cases q:H b with
   |none=>rfl
   |some u=>
    have e':b=a:=hA b (by rw[q];simp)
    subst e'
    rw[hK (by rw[q];simp)]at e;cases e)
  have hM:Mod K mg (uH s₁.heap H):=⟨hKb,nsK Jf,⟨mb,nsK hb,Oa⟩,let ⟨mc,h1,h2⟩:=Nk;⟨mc,nsK h1,h2⟩⟩
  have e0:zx P w K mg (uH s₁.heap H) callerA [] s₁ H:=⟨rfl,hM,fun b o e=>DA e,Nat.le_of_eq (zo _ _),trivial,fun b hb=>absurd (show b∈([]:List Addr)from hb) (by simp),hok,.of_eq hg⟩
  refine eB ((F _ hKb (nsK Jf)).run callerA [] s₁ H ⟨[.ref a],[]⟩ [.ref a] [.ref a] _ _ hr e0 (.inr ⟨x,rfl,Jj⟩) (LM s₁ (.ref a)) (.cons rfl .nil) (wW H hO hS)) fun r s' h=>?_
  cases r with
  |error e=>exact(Nh H e s' h).elim
  |ok fl=>
   cases fl with
   |next=>exact False.elim h
   |brk=>exact False.elim h
   |cont=>exact False.elim h
   |ret u=>
    obtain⟨v,H',os,bare,un,hok',r',q⟩:=h
    have q':v=.bl true:=q
    subst q'
    obtain rfl:u=Value.bool true:=r'
    refine⟨rfl,OldK.of_keep fun b o e=>?_,os,bare⟩
    cases q:H b with
    |none=>exact un.keep b o e q (by intro z;exact absurd (show b∈([]:List Addr)from z) (by simp)) (by simp)
    |some u=>
     rcases hO b with z|⟨ob,xs,z⟩
     ·rw[q]at z;cases z
     ·have z2:=un.frzs b ob _ z
      obtain⟨e1,_⟩:=hok b _ z
      obtain⟨e2,_⟩:=hok' b _ z2
      rw[e]at e1;cases e1
      exact e2
 cases hk:K.lookup a with
 |some o=>
  have e:=KX a o hk
  rw[ha]at e
  cases e
  refine core (fun _=>none) (fun _=>.inl rfl) (.inr ⟨_,vs.toArray,_,hk,rfl,rfl,rfl,by rw[aR,lenV];exact hl,by simpa using rv⟩) (fun b u z=>by have z':(none:Option HO)=some u:=z;cases z') (fun b z=>absurd rfl z) fun z=>absurd rfl z
 |none=>
  refine core (fun b=>if b=a then some (.frz { cls:=.type "list",data:=.seq vs.toArray } (.lst (ns.map V.int)))else none) (fun b=>?_) (.inl (.inr ⟨{ cls:=.type "list",data:=.seq vs.toArray },am rfl⟩)) (fun b u z=>?_) (fun b z=>?_) fun _=>hk
  ·by_cases hb:b=a
   ·exact .inr ⟨_,_,am hb⟩
   ·exact .inl (au hb)
  ·by_cases hb:b=a
   ·have z':=(am hb).symm.trans z
    cases z'
    subst hb
    exact⟨ha,by rw[az];exact hl,vs,_,rv.up (br _),ha⟩
   ·have z':=(au hb).symm.trans z
    cases z'
  ·by_cases hb:b=a
   ·exact hb
   ·exact absurd (au hb) z
end L2
namespace L2
variable{nk:Nat}
open PySem PySem.Spec PyProof.Rows
theorem walk_of{l:PySem.W.OpenLaw}{n k:Nat}{q:Program}{uF:List Str}{XP:(Str->Option Value)->Heap->Prop}{YP:World->Heap->Prop}{d:DefRec}{K:Params->Frag}{CX:World->vB}{sp:World->Sp}{x:Str}
  (hn:l.most=some n) (N0:n<=sizeLine) (LH:d.params.defaults=[]) (hr:im k callerA)
  (hY:∀(w:World) (h:Heap),YP w h->(K w.params).In h)
  (F:∀(w:World) (mg:Str->Option Value) (fa:Addr) (h:Heap),(K w.params).In h->h.Ns mainGlobals mg->mg d.name=some (.ref fa) ->
   ∃fd:FuncData,fd.scope.names.lookup x=some .local/\(∀(s:Shared) (u:Value),BindsTo s fd ⟨[u],[]⟩ [(x,u)]) /\
    ∀base:Heap,(K w.params).In base->base.Ns mainGlobals mg->gk l.prog w (K w.params) mg base (CX w) k fa fd [x] (sp w))
  (wW:∀(w:World) (H:Hp) (a:Addr) (ns:List Int),ns.length<=n->D1 H->pW (K w.params) H a (ns.map V.int)->sp w [.ref a] H (fun v _=>v=.bl true) fun _ _ _=>False)
  (Nh:∀(w:World) (H:Hp) (s:Shared) (e:Value) (s':Shared),CX w [] H s (fun _ _ _=>False) e s'->False) :
  PySem.W.WalkO q uF XP YP l.row.toRowW d [] (fun f vs=>PySem.call f vs):=by
 refine Att.attach_call hn LH fun w s₀ s₁ mg mb fa o pm cd n9 a vs ns G Y ho hd tD hmg hobj hints eZ hg=>?_
 have KX:=hY w _ Y
 obtain⟨fd,Jj,hb,hF⟩:=F w mg fa _ KX G.T.g hmg
 exact AN KX G.T.g G.T.b G.T.builtins G.T.nolimit hg hobj hints (aA eZ N0) hr hF hb Jj (fun H hO hS=>wW w H a ns eZ hO hS) fun H e s'=>Nh w H s₁ e s'
end L2
namespace L2
variable{nk:Nat}
open PySem PySem.Spec PyProof.Rows
def gR(s:Stmt):Arguments:=match s with
 |.FunctionDef _ a _ _ _ _ _ _ _ _=>a
 |_=>{ posonlyargs:=[],args:=[],vararg:=none,kwonlyargs:=[],kw_defaults:=[],kwarg:=none,defaults:=[] }
def fM(s:Stmt):List Stmt:=match s with
 |.FunctionDef _ _ b _ _ _ _ _ _ _=>b
 |_=>[]
def bg(s:Stmt):Scope:=match s with
 |.FunctionDef _ _ _ _ _ _ sc _ _ _=>sc
 |_=>{ kind:=.function,names:=[],isGenerator:=false,isCoroutine:=false }
structure nO(K:Frag)(x cW:Str)(st:Stmt)(f:Addr)(fd:FuncData):Prop where
 ex:∃(oc:Value) (od:Option Addr) (kV n9 pm:Value) (an:Option Addr) (gi ct:Value) (Dh:Array (Option Value)),
  fd=fnOf x cW (gR st) (fM st) (bg st) .none kV n9 pm an gi ct/\K.lookup f=some ⟨oc,od,.func fd,Dh⟩/\codeIn K gi cW=true
 kp:keepIn K (.ref f)=true
section
variable{P:Program}{w:World}{K:Frag}{mg:Str->Option Value}{base:Heap}
theorem nO.binds{x cW:Str}{st:Stmt}{f:Addr}{fd:FuncData}{ps:List Str}(F:nO K x cW st f fd)
  (h:∀(kV n9 pm:Value) (an:Option Addr) (gi ct:Value) (us:List Value),us.length=ps.length->bindArgs (fnOf x cW (gR st) (fM st) (bg st) .none kV n9 pm an gi ct) ⟨us,[]⟩=pure (ps.zip us)):rJ K fd ps []:=by
 obtain⟨oc,od,kV,n9,pm,an,gi,ct,Dh,rfl,lk,tD⟩:=F.ex
 exact .all (h kV n9 pm an gi ct)
theorem AO{x cW:Str}{st:Stmt}{f:Addr}{oc:Value}{od an:Option Addr}{Dh:Array (Option Value)}{kV n9 pm gi ct:Value}(l:K.lookup f=some ⟨oc,od,.func (fnOf x cW (gR st) (fM st) (bg st) .none kV n9 pm an gi ct),Dh⟩)
  (c:codeIn K gi cW=true) (k:keepIn K (.ref f)=true):nO K x cW st f (fnOf x cW (gR st) (fM st) (bg st) .none kV n9 pm an gi ct):=⟨⟨oc,od,kV,n9,pm,an,gi,ct,Dh,rfl,l,c⟩,k⟩
end
theorem Fk{A:Around}{k:Nat}(hr:im k A):A.units+1<cLine:=dJ (Nat.add_le_add_left (by decide:1<=64) _) hr.units
section
variable{X:Cx}
theorem pv(i:Nat){x:Str}{pos:Pos}(hN:X.N[i]?=some x:=by rfl)(hv:JB X.env.scope x:=by first|exact Or.inl rfl|exact Or.inr (Or.inl rfl)|exact Or.inr (Or.inr rfl))(hd:(x==("__debug__":Str))=false:=by decide)
  (tD:(x==("__classdict__":Str))=false:=by decide):PE X (.Name x pos) (JC i):=Gx hN hv hd tD
end
def nP(H H':Hp):Prop:=∀b o,H b=some o->H' b=some o
theorem nP.refl(H:Hp):nP H H:=fun _ _ h=>h
end L2
namespace L2
variable{nk:Nat}
open PySem PySem.Spec PyProof.Rows
section
variable{κ:Type}[DecidableEq κ]
def mS(kvs:List (κ×V))(k:κ):Option V:=(kvs.find? fun kv=>decide (kv.1=k)).map (·.2)
def pZ(kvs:List (κ×V))(k:κ)(v:V):List (κ×V):=
 if (kvs.any fun kv=>decide (kv.1=k))=true then kvs.map (fun kv=>if kv.1=k then(kv.1,v)else kv)else kvs++[(k,v)]
theorem oV{p:κ×V}{r:List (κ×V)}{k:κ}(e:p.1=k):mS (p::r) k=some p.2:=by simp[mS,cK,e]
theorem oW{p:κ×V}{r:List (κ×V)}{k:κ}(e:¬ p.1=k):mS (p::r) k=mS r k:=by simp[mS,cK,e]
theorem vD(k:κ):∀kvs:List (κ×V),(kvs.any fun kv=>decide (kv.1=k))=(mS kvs k).isSome
 |[]=>rfl
 |p::r=>by
  rw[kZ]
  by_cases e:p.1=k
  ·simp only[oV e,a9 e,Bool.true_or,Option.isSome_some]
  ·rw[oW e,aP e,k6];exact vD k r
theorem qB(kvs:List (κ×V))(k:κ)(v:V):(pZ kvs k v).length<=kvs.length+1:=by
 unfold pZ
 split
 ·rw[az];omega
 ·rw[aJ,cr,mv];omega
theorem tF.isSome_eq{o:Option V}{u:Option Value}(r:tF nk o u):o.isSome=u.isSome:=by
 cases o with
 |none=>cases u with
  |none=>rfl
  |some _=>exact(show False from r).elim
 |some _=>cases u with
  |none=>exact(show False from r).elim
  |some _=>rfl
theorem KV.val{kvs:List (κ×V)}{vs:List (κ×Value)}(r:KV nk kvs vs)(k:κ):tF nk (mS kvs k) (valueAt vs k):=by
 unfold KV at r
 induction r with
 |nil=>exact True.intro
 |@cons p q ps qs h t ih=>
  obtain⟨h1,h2⟩:=h
  by_cases e:p.1=k
  ·have e':q.1=k:=h1.symm.trans e
   have b:valueAt (q::qs) k=some q.2:=by simp[valueAt,cK,e']
   rw[oV e,b];exact h2
  ·have e':¬ q.1=k:=fun z=>e (h1.trans z)
   have b:valueAt (q::qs) k=valueAt qs k:=by simp[valueAt,cK,e']
   rw[oW e,b];exact ih
theorem KV.any{kvs:List (κ×V)}{vs:List (κ×Value)}(r:KV nk kvs vs)(k:κ):(kvs.any fun kv=>decide (kv.1=k))=vs.any fun kv=>decide (kv.1=k):=by
 unfold KV at r
 induction r with
 |nil=>rfl
 |cons h t ih=>rw[kZ,kZ,ih,h.1]
theorem KV.repl{kvs:List (κ×V)}{vs:List (κ×Value)}(r:KV nk kvs vs)(k:κ){y:V}{u:Value}(ry:cN nk y u) :
  KV nk (kvs.map fun kv=>if kv.1=k then(kv.1,y)else kv) (vs.map fun kv=>if kv.1=k then(kv.1,u)else kv):=by
 unfold KV at r ⊢
 induction r with
 |nil=>exact .nil
 |@cons p q ps qs h t ih=>
  rw[a7,a7]
  refine .cons ?_ ih
  obtain⟨h1,h2⟩:=h
  by_cases e:p.1=k
  ·rw[am e,am (h1.symm.trans e)];exact⟨h1,ry⟩
  ·rw[au e,au (fun z=>e (h1.trans z))];exact⟨h1,h2⟩
theorem KV.put{kvs:List (κ×V)}{vs:List (κ×Value)}(r:KV nk kvs vs)(k:κ){y:V}{u:Value}(ry:cN nk y u):KV nk (pZ kvs k y) (stored vs k u):=by
 unfold pZ stored
 rw[r.any k]
 by_cases e:(vs.any fun kv=>decide (kv.1=k))=true
 ·rw[am e,am e];exact r.repl k ry
 ·rw[au e,au e];exact Paired.snoc r ⟨rfl,ry⟩
theorem KV.length{kvs:List (κ×V)}{vs:List (κ×Value)}(r:KV nk kvs vs):kvs.length=vs.length:=Paired.length r
end
theorem AQ{P:Program}{w:World}{k:jf}{u:Value}(r:cN nk (kV k) u):(gC P w).is k u=true:=by
 cases k with
 |inl i=>obtain⟨t,e⟩:=(show ∃t,u=Value.int i t from r);subst e;exact vx P w i t
 |inr x=>obtain⟨t,e⟩:=(show ∃t:Tk _ x,u=Value.str x t.1 from r);subst e;exact vy P w x t
theorem t8{P:Program}{w:World}:∀{ks:List jf} {us:List Value},b7 nk (ks.map kV) us->ItemsAre (gC P w) ks us
 |[],_,r=>by rw[jG]at r;cases r;exact .nil
 |k::ks,_,r=>by
  rw[a7]at r
  cases r with
  |cons h t=>exact .cons (AQ h) (t8 t)
abbrev KT(nk:Nat)(H:Hp):List (List jf×V)->List (List jf×Addr×Value)->Prop:=Paired fun p q=>p.1=q.1/\H q.2.1=some (.tup (p.1.map kV))/\cN nk p.2 q.2.2
theorem KT.val{H:Hp}{kvs:List (List jf×V)}{xs:List (List jf×Addr×Value)}(r:KT nk H kvs xs)(k:List jf):tF nk (mS kvs k) ((atKey xs k).map (·.2)):=by
 induction r with
 |nil=>exact True.intro
 |@cons p q ps qs h t ih=>
  obtain⟨h1,_,h2⟩:=h
  by_cases e:p.1=k
  ·have e':q.1=k:=h1.symm.trans e
   have b:atKey (q::qs) k=some q.2:=by simp[atKey,cK,e']
   rw[oV e,b];exact h2
  ·have e':¬ q.1=k:=fun z=>e (h1.trans z)
   have b:atKey (q::qs) k=atKey qs k:=by simp[atKey,cK,e']
   rw[oW e,b];exact ih
theorem KT.repl{H:Hp}{kvs:List (List jf×V)}{xs:List (List jf×Addr×Value)}(r:KT nk H kvs xs)(k:List jf){y:V}{u:Value}(ry:cN nk y u) :
  KT nk H (kvs.map fun kv=>if kv.1=k then(kv.1,y)else kv) (xs.map (putAt k u)):=by
 induction r with
 |nil=>exact .nil
 |@cons p q ps qs h t ih=>
  rw[a7,a7]
  refine .cons ?_ ih
  obtain⟨h1,h2,h3⟩:=h
  unfold putAt
  by_cases e:p.1=k
  ·rw[am e,am (h1.symm.trans e)];exact⟨h1,h2,ry⟩
  ·rw[au e,au (fun z=>e (h1.trans z))];exact⟨h1,h2,h3⟩
theorem KT.put{H:Hp}{kvs:List (List jf×V)}{xs:List (List jf×Addr×Value)}(r:KT nk H kvs xs)(k:List jf){b:Addr}{y:V}{u:Value}(hb:H b=some (.tup (k.map kV)))(ry:cN nk y u) :
  KT nk H (pZ kvs k y) (storedH xs k b u):=by
 have e:(kvs.any fun kv=>decide (kv.1=k))=(atKey xs k).isSome:=by
  rw[vD,(r.val k).isSome_eq,Option.isSome_map]
 unfold pZ storedH
 rw[e]
 by_cases q:(atKey xs k).isSome=true
 ·rw[am q,am q];exact r.repl k ry
 ·rw[au q,au q];exact Paired.snoc r ⟨rfl,hb,ry⟩
theorem KT.keeps{H H':Hp}{kvs:List (List jf×V)}{xs:List (List jf×Addr×Value)}(r:KT nk H kvs xs)(ht:∀b ys,H b=some (.tup ys)->H' b=some (.tup ys)):KT nk H' kvs xs:=
 Paired.mapP r fun _ _ z=>⟨z.1,ht _ _ z.2.1,z.2.2⟩
section
variable{P:Program}{w:World}{H:Hp}{h:Heap}{a:Addr}
theorem Fm{u:HO}(ok:nA P w nk H h)(e:Rd H a u):dS P w nk H h a u:=e.ok ok
theorem Fp{kvs:List (jf×V)}(ok:nA P w nk H h)(e:Rd H a (.dK kvs)):kvs.length<=sizeLine/\(a==sysModules)=false/\∃vs,KV nk kvs vs/\h.DictOf (gC P w) a vs:=
 show dS P w _ H h a (.dK kvs)from Fm ok e
theorem J7{kvs:List (jf×V)}(ok:nA P w nk H h)(e:H a=some (.dK kvs)):kvs.length<=sizeLine/\(a==sysModules)=false/\∃vs,KV nk kvs vs/\h.DictOf (gC P w) a vs:=Fp ok (.inl e)
theorem xb{ks:List jf}(ok:nA P w nk H h)(e:H a=some (.tup (ks.map kV))):(tupleKind (gC P w)).is h ks a:=by
 obtain⟨_,bv,r,o,h1,h2,n,h3⟩:=(show dS P w _ H h a (.tup (ks.map kV))from ok a _ e)
 exact⟨o,bv.toArray,n,h1,h2,h3,by simpa using t8 r⟩
theorem Fq{kvs:List (List jf×V)}(ok:nA P w nk H h)(e:Rd H a (.dT kvs)):kvs.length<=sizeLine/\(a==sysModules)=false /\
  ∃xs,KT nk H kvs xs/\h.DictOfH (tupleKind (gC P w)) a xs:=by
 obtain⟨z,y,xs,r,o,es,ep,h1,h2,h3,h4,h5⟩:=(show dS P w _ H h a (.dT kvs)from Fm ok e)
 refine⟨z,y,xs,r,o,es,ep,h1,h2,h3,h4,fun x hx=>?_,h5⟩
 have all:∀{l:List (List jf×V)} {m:List (List jf×Addr×Value)},KT nk H l m->∀x∈m,(tupleKind (gC P w)).is h x.1 x.2.1:=by
  intro l m q
  induction q with
  |nil=>intro x hx;exact nomatch hx
  |@cons p q ps qs hq t ih=>
   intro x hx
   rcases aC.mp hx with e|hx
   ·subst e
    exact xb ok (by rw[<- hq.1];exact hq.2.1)
   ·exact ih x hx
 exact all r x hx
theorem J8{kvs:List (List jf×V)}(ok:nA P w nk H h)(e:H a=some (.dT kvs)):kvs.length<=sizeLine/\(a==sysModules)=false /\
  ∃xs,KT nk H kvs xs/\h.DictOfH (tupleKind (gC P w)) a xs:=Fq ok (.inl e)
end
def D2(H:Hp)(a:Addr)(y:V)(r:Option V):Prop:=
 (∃kvs k,Rd H a (.dK kvs)/\y=kV k/\r=mS kvs k)\/∃kvs k b,Rd H a (.dT kvs)/\y=.ref b/\H b=some (.tup (k.map kV))/\r=mS kvs k
def D3(H:Hp)(a:Addr)(y v:V)(H':Hp):Prop:=
 (∃kvs k,H a=some (.dK kvs)/\y=kV k/\kvs.length<sizeLine/\H'=gb H a (.dK (pZ kvs k v))) \/
 ∃kvs k b,H a=some (.dT kvs)/\y=.ref b/\H b=some (.tup (k.map kV))/\kvs.length<sizeLine/\H'=gb H a (.dT (pZ kvs k v))
theorem D3.k{H:Hp}{a:Addr}{kvs:List (jf×V)}{k:jf}{v:V}(e:H a=some (.dK kvs))(hl:kvs.length<sizeLine):D3 H a (kV k) v (gb H a (.dK (pZ kvs k v))):=.inl ⟨kvs,k,e,rfl,hl,rfl⟩
section
variable{X:Cx}{ae:List (Addr×Obj)}{σ:St}{H:Hp}{s:Shared}{a:Addr}{y v:V}{u r:Value}{o:Option V}{A:Around}{E:Value->Shared->Prop}
theorem bi.big(I:bi X ae σ H s):sysModules<s.heap.objs.size:=by
 have h:mainGlobals<s.heap.objs.size:=(I.mod.glob.keeps I.bk).lt
 exact pQ (by decide) h
theorem MH{Q:Value->Shared->Prop}(hu:A.units+1<cLine)(I:bi X ae σ H s)(g:D2 H a y o)(ry:cN s.toks y u)(h:∀s',bi X ae σ H s'->Q (.bool o.isSome) s') :
  wpAny (model X.prog X.w) A (compareOp .In u (.ref a)) Q E s:=by
 rcases g with⟨kvs,k,e,ey,l⟩|⟨kvs,k,b,e,ey,eb,l⟩
 ·subst ey
  obtain⟨z,hd,vs,rel,dd⟩:=Fp I.hok e
  refine wpAny_in_of (AQ ry) hd dd.mapOf ?_
  rw[<- (rel.val k).isSome_eq,<- l]
  exact h _ (I.tok _)
 ·subst ey
  cases(show u=Value.ref b from ry)
  obtain⟨z,hd,xs,rel,dd⟩:=Fq I.hok e
  refine wpAny_in_heap (tupleKind_room_in1 hu) (xb I.hok eb) hd dd ?_
  have q:=(rel.val k).isSome_eq
  rw[Option.isSome_map]at q
  rw[<- q,<- l]
  exact h _ (I.tok _)
theorem yv{h':Heap}{t':Nat}{ob:HO}(I:bi X ae σ H s)(mu:JA (H a))(hs:Heap.SameBut a s.heap h')(he:∃q,h'.get? a=some q)(new:dS X.prog X.w s.toks (gb H a ob) h' a ob)(hk:s.toks<=t':=by first|exact ah _|exact a8 _|assumption|omega) :
  bi X ae σ (gb H a ob) { s with heap:=h',toks:=t' }:=
 I.write (x:=a) (e:=a) mu (.inl rfl) (fun b q hb z=>(hs.2 b hb).trans z) he (new.up hk)
theorem G_{P:Program}{w:World}{H':Hp}{h':Heap}{kvs:List (jf×V)}{vs:List (jf×Value)}(z:kvs.length<=sizeLine)(hd:(a==sysModules)=false)(rel:KV nk kvs vs)(dd:h'.DictOf (gC P w) a vs) :
  dS P w nk H' h' a (.dK kvs):=⟨z,hd,vs,rel,dd⟩
theorem zB{H':Hp}{Q:Unit->Shared->Prop}(hu:A.units+1<cLine)(I:bi X ae σ H s)(g:D3 H a y v H')(ry:cN s.toks y u)(rv:cN s.toks v r)(h:∀s',bi X ae σ H' s'->Q () s') :
  wpAny (model X.prog X.w) A (setItem (.ref a) u r) Q E s:=by
 rcases g with⟨kvs,k,e,ey,l,eH⟩|⟨kvs,k,b,e,ey,eb,l,eH⟩
 ·subst ey eH
  obtain⟨z,hd,vs,rel,dd⟩:=J7 I.hok e
  have hz:vs.length<=sizeLine:=by rw[<- rel.length];exact z
  have hl:(pZ kvs k v).length<=sizeLine:=by have:=qB kvs k v;omega
  refine wpAny_setItem_pairs (hsz:=hz) (AQ ry) dd fun h' Gm hs=>h _ ?_
  have he:∃q,h'.get? a=some q:=let ⟨q,_,_,hq,_⟩:=Gm;⟨q,hq⟩
  exact yv I (by rw[e];exact True.intro) hs he (G_ hl hd (rel.put k rv) Gm)
 ·subst ey eH
  cases(show u=Value.ref b from ry)
  obtain⟨z,hd,xs,rel,dd⟩:=J8 I.hok e
  have hz:xs.length<=sizeLine:=by rw[<- Paired.length rel];exact z
  have hl:(pZ kvs k v).length<=sizeLine:=by have:=qB kvs k v;omega
  refine wpAny_setItem_heap (hsz:=hz) (tupleKind_room_in1 hu) (xb I.hok eb) dd fun h' Gm hs=>h _ ?_
  obtain⟨q,es,ep,hq,h2,h3,h4,_,h5⟩:=Gm
  refine yv I (by rw[e];exact True.intro) hs ⟨q,hq⟩ ⟨hl,hd,_,(rel.put k eb rv).keeps fun c ys ec=>?_,q,es,ep,hq,h2,h3,h4,h5⟩
  rw[cx (Jz ec e (fun z=>nomatch z))]
  exact ec
end
section
variable{X:Cx}{ae:List (Addr×Obj)}{σ:St}{H:Hp}{s:Shared}{a:Addr}{kvs:List (jf×V)}{k:jf}{u:Value}{A:Around}{E:Value->Shared->Prop}
end
section
variable{X:Cx}{o i e value:Expr}{pos jp Nf:Pos}{td ty tv:TE}
end
theorem AR{P:Program}{w:World}{H:Hp}(h:Heap)(hb:sysModules<h.objs.size):dS P w nk H (h.push { cls:=.type "dict",data:=.dict #[] }) h.objs.size (.dK []):=
 ⟨br _,cQ.mpr (Ne.symm (aK hb)),[],.nil,Heap.DictOf.new h⟩
def G':TE:=fun _ H Q=>∀p,H p=none->Q (.ref p) (gb H p (.dK []))
section
variable{X:Cx}{pos:Pos}
theorem AS:PE X (.Dict [] [] pos) G':=fun ae s σ H Q I h=>
 wpAny_Dict_empty ⟨.ref s.heap.objs.size,_,I.laid (a:=s.heap.objs.size) (o:=.dK []) (t':=s.toks) (fun _ _ q=>ag _ q) (ah _) (AR s.heap I.big),rfl,h _ (I.hok.fresh (ah _))⟩
end
section
variable{X:Cx}{ae:List (Addr×Obj)}{σ:St}{H:Hp}{s:Shared}{a:Addr}{y d:V}{u r:Value}{o:Option V}{A:Around}{E:Value->Shared->Prop}
end
section
variable{X:Cx}{o e f:Expr}{iy dZ:Pos}{td ty tx:TE}
end
section
variable{X:Cx}{ae:List (Addr×Obj)}{σ:St}{H:Hp}{s:Shared}{a:Addr}{kvs:List (jf×V)}{A:Around}{E:Value->Shared->Prop}
end
section
variable{X:Cx}{ae:List (Addr×Obj)}{σ:St}{H:Hp}{s:Shared}{a:Addr}{y:V}{u:Value}{A:Around}{E:Value->Shared->Prop}
end
end L2
namespace L2
variable{nk:Nat}
open PySem PySem.Spec PyProof.Rows
section
variable{X:Cx}
end
section
variable{κ:Type}[DecidableEq κ]
end
end L2
set_option maxHeartbeats 4000000
namespace L2
open PySem PySem.Spec PyProof.Rows
theorem p5{α:Type}{t:Sem α}{Q Q':α->Shared->Prop}{M:Model}{A:Around}{E:Value->Shared->Prop}{s:Shared}(h:wpAny M A t Q (fun _ _=>False) s)(hQ:∀a s',s.toks<=s'.toks->Q a s'->Q' a s'):wpAny M A t Q' E s:=
 up (fP h (fun a s' q k=>hQ a s' k q) fun _ _ z=>z.elim)
abbrev c_(X:Cx)(nm:List Str)(scope:Scope)(cl:List (Str×Addr))(C:Addr)(s0:Shared)(H0:Hp)(fp:List Addr):Cx:=
 { X with N:=nm,s₀:=s0,H₀:=H0,env:=compEnvC scope cl C X.env,outer:=X.stack,stack:=X.stack,ex:=fp,fn:=fun _=>false,pn:=[],xe:=fun _ _=>False }
def AT(X:Cx)(lJ:List Expr)(t:TT):Prop:=
 ∀(ae:List (Addr×Obj)) (s:Shared) (σ:St) (H:Hp) (Q:Bool->Hp->Prop),bi X ae σ H s->t σ H Q ->
  wpAny (model X.prog X.w) X.A (forIn lJ true fun c r=>if r=true then do let ok <- isTrue c X.env (eval c X.env);pure (ForInStep.yield ok)else pure (ForInStep.yield r)) (TP X ae σ Q) X.xe s
def MI:TT:=fun _ H Q=>Q true H
theorem D4{X:Cx}:AT X [] MI:=fun _ _ _ H _ I h=>wpAny_tests_nil ⟨H,I,h⟩
theorem D5{X:Cx}{c:Expr}{t:TT}(hc:PT X c t):AT X [c] t:=fun ae s σ H Q I h=>wpAny_tests_one (hc ae s σ H Q I h)
def nT(cap:List (Option Nat))(σ:St):St:=cap.map fun o=>o.bind fun j=>(σ[j]?).join
def rM(cap:List (Option Nat))(wi:TI)(g:TG)(tc:TT)(te:TE):TE:=fun σ H Q=>wi σ H fun J H1=>∃W:Nat->Nat->List V->Hp->Prop,(∃m,W 0 m [] H1)/\∀i m ys H2,W i m ys H2 ->
 (J.stop i H2/\ys.length<=sizeLine/\∀p,H2 p=none->Q (.ref p) (gb H2 p (.lst ys))) \/
 (J.go i H2/\∀x H3,J.yld i H2 x H3->g x (nT cap σ) H3 fun σ2 H4=>tc σ2 H4 fun b H5=>if b=true then te σ2 H5 fun y H6=>ys.length<sizeLine/\∃m',m'<m/\W (i+1) m' (ys++[y]) H6 else ∃m',m'<m/\W (i+1) m' ys H5)
theorem Un.cellK{fs ex:List Addr}{H H':Hp}{h h':Heap}(u:Un fs ex H H' h h'){c:Addr}{v:Option Value}(x:h.IsCell c v)(n:H c=none)(he:c∉ex):h'.IsCell c v:=by
 obtain⟨o,ho,hd⟩:=x
 obtain⟨sl,q⟩:=u.any ho n he
 exact⟨_,q,hd⟩
structure rN(X:Cx)(scope:Scope)(cl:List (Str×Addr))(x:Str):Prop where
 vis:JB X.env.scope x
 nl:X.env.scope.names.lookup x≠some .local
 cl:cl.lookup x=X.env.cells.lookup x
 kd:(relabel scope X.env).names.lookup x=some .cell\/(relabel scope X.env).names.lookup x=some .free
theorem kN:∀(names:List (Str×NameKind)) (n:Nat) (fk:List (Str×Addr)) {y:Str} {c:Addr},(y,c)∈cellsFrom n names fk->(y,NameKind.cell)∈names\/(y,c)∈fk
 |[],_,_,_,_,h=>.inr h
 |(x,k)::r,n,fk,y,c,h=>by
  have h:(y,c)∈(if k==.cell then cellsFrom (n+1) r ((x,n)::fk)else cellsFrom n r fk):=h
  split at h
  ·rename_i hk
   rcases kN r _ _ h with q|q
   ·exact .inl (aW _ q)
   ·rcases aC.mp q with e|q
    ·cases e
     exact .inl (by rw[lz hk];exact bX)
    ·exact .inr q
  ·rcases kN r _ _ h with q|q
   ·exact .inl (aW _ q)
   ·exact .inr q
theorem hV{β:Type}:∀{l:List (Str×β)} {x:Str} {b:β},l.lookup x=some b->(x,b)∈l
 |[],_,_,h=>by simp at h
 |(y,c)::r,x,b,h=>by
  rw[i6]at h
  cases hx:x==y with
  |true=>rw[hx]at h;have:=lz hx;subst this;cases h;exact bX
  |false=>rw[hx]at h;exact aW _ (hV h)
theorem i9:∀(names:List (Str×NameKind)) (n:Nat) (fk:List (Str×Addr)),cellsFrom n names fk=cellsFrom n names []++fk
 |[],_,_=>rfl
 |(x,k)::r,n,fk=>by
  show(if k==.cell then cellsFrom (n+1) r ((x,n)::fk)else cellsFrom n r fk)=(if k==.cell then cellsFrom (n+1) r [(x,n)]else cellsFrom n r [])++fk
  split
  ·rw[i9 r (n+1) ((x,n)::fk),i9 r (n+1) [(x,n)],aY];rfl
  ·exact i9 r n fk
abbrev ef(X:Cx)(nm:List Str)(scope:Scope)(cl:List (Str×Addr))(C:Addr)(s0:Shared)(H0:Hp)(fp:List Addr):Cx:=
 { c_ X nm scope cl C s0 H0 fp with fn:=fun y=>scope.names.lookup y==some .cell }
theorem D6{M:Model}{A:Around}{E:Value->Shared->Prop}{s:Shared}{scope:Scope}{globals:Addr}{cl:List (Str×Addr)}{cW:Str}{env:Env}{Q:Env->Shared->Prop}
  (hQ:∀h':Heap,h'.Ns s.heap.objs.size (fun x=>([]:List (Str×Value)).reverse.lookup x)->(∀b o,s.heap.get? b=some o->h'.get? b=some o)->CellsOk h' (s.heap.objs.size+1) (cellsFrom (s.heap.objs.size+1) scope.names []) ->
   Q (newEnv scope s.heap.objs.size globals (cellsFrom (s.heap.objs.size+1) scope.names []++cl) cW none .none (some env) builtinsNs) { s with heap:=h' }) :
  wpAny M A (newFunctionEnv scope globals cl [] cW none .none (some env)) Q E s:=by
 simp only[newFunctionEnv,Option.isSome_some,gD]
 refine aa (wpAny_alloc ?_)
 refine aa (wpAny_layCells _ (fun name kind cells=>by cases hkc:kind==NameKind.cell<;>simp[hkc]) _ _ _ _ ?_)
 have ok:=cellsFrom_ok scope.names (s.heap.push { cls:=.type "dict",data:=.dict #[] }) (s.heap.objs.size+1) [] ⟨fun _ _ hm=>(nomatch hm),List.Pairwise.nil⟩ (by rw[bh];exact ah _)
 rw[bh]at ok
 rw[show({ s with heap:=s.heap.push { cls:=.type "dict",data:=.dict #[] } }:Shared).heap.objs.size=s.heap.objs.size+1 from bh ..,i9 _ _ cl]
 exact aa (ai (ai (hQ _ ((Heap.Ns.new s.heap (.type "dict")).keeps (js _ _)) (fun b o e=>js _ _ b o (ag _ e)) ok)))
section
variable{X:Cx}{oH tg dq:Expr}{lJ:List Expr}{scope:Scope}{pos:Pos}{nm:List Str}{cl:List (Str×Addr)}{cap:List (Option Nat)}{wi:TI}{g:TG}{tc:TT}{te:TE}
theorem uN{prog:Program}{w:World}{A:Around}{E:Value->Shared->Prop}{s:Shared}{l:Addr}{bv:List Value}{n:Nat}{u:Value}{Q:Value->Shared->Prop}
  (e:s.heap.get? l=some { cls:=.type "list",data:=.seq bv.toArray n }) (hz:bv.length<sizeLine)
  (h:∀(h':Heap) (n' tk:Nat),h'.get? l=some { cls:=.type "list",data:=.seq (bv++[u]).toArray n' }->(∀b o,b≠l->s.heap.get? b=some o->h'.get? b=some o)->Q .none { s with heap:=h',toks:=tk }) :
  wpAny (model prog w) A (call (.builtin "list.append") [.ref l,u]) Q E s:=by
 refine oN F.slot_list_append ⟨_,e,rfl⟩ F.entry_list_append (F.args_list_append_2 _ _) (PySem.list_append l bv.toArray n u (by rw[aR];omega)) ⟨e,?_⟩
 have q:=PySem.IsL.update e (fun a=>a.push u)
 have q2:(s.heap.update l (Obj.mapSeq fun x=>x.push u)).get? l=some { cls:=.type "list",data:=.seq (bv++[u]).toArray (if ((bv.toArray.push u).size==bv.toArray.size)=true then n else n+1) }:=by
  rw[show(s.heap.update l (Obj.mapSeq fun x=>x.push u)).get? l=_ from q];simp
 exact h _ _ s.toks q2 fun b o hb ho=>(bf s.heap (Obj.mapSeq _) (Ne.symm hb)).trans ho
structure vE(X:Cx)(ae:List (Addr×Obj))(H:Hp)(s:Shared)(C:Addr)(m:Str->Option Value):Prop where
 ns:s.heap.Ns C m
 fr:H C=none
 nl:C≠X.env.locals
 nf:C∉X.fs
 hi:X.s₀.heap.objs.size<=C
 nc:∀x c,X.env.cells.lookup x=some c->c≠C
 np:∀p∈X.pn++ae,p.1≠C
theorem vE.off{ae:List (Addr×Obj)}{σ:St}{H:Hp}{s:Shared}{C:Addr}{m:Str->Option Value}{h':Heap}(B:vE X ae H s C m)(I:bi X ae σ H s)(hs:Heap.SameBut C s.heap h'):bi X ae σ H { s with heap:=h' }:=I.turned (t':=s.toks) (it:=C) (fun b o hb e=>hs.extBut b o hb e) B.fr B.nl (.inr B.hi) B.nc B.np
theorem AU{ae Gj:List (Addr×Obj)}{σ σ2:St}{H1 H:Hp}{s2 s:Shared}{C:Addr}{fp:List Addr}
  (qY:∀(i j:Nat),cap[i]?=some (some j)->∃x,nm[i]?=some x/\X.N[j]?=some x/\rN X scope cl x) (eZ:cap.length=nm.length)
  (I2:bi X ae σ H1 s2) (zk:∀b∈fp,∀x c,X.env.cells.lookup x=some c->c≠b)
  (I:bi (ef X nm scope cl C s2 H1 fp) Gj σ2 H s):bi (ef X nm scope cl C s2 H1 fp) Gj (nT cap σ) H s:=by
 refine⟨I.ok,I.os,I.bare,I.base,?_,I.cell,I.free,I.freeC,I.pin,I.hok,by show(nT cap σ).length=nm.length;unfold nT;rw[az];exact eZ,I.pos,I.tk⟩
 obtain⟨m,hn,_⟩:=I.loc
 refine⟨m,hn,fun i x v e1 e2 e3=>?_⟩
 unfold nT at e2
 rw[aL]at e2
 cases hc:cap[i]? with
 |none=>rw[hc]at e2;cases e2
 |some oj=>
  cases oj with
  |none=>rw[hc]at e2;cases e2
  |some j=>
   rw[hc]at e2
   have e2':(σ[j]?).join=some v:=by simpa using e2
   have e2:σ[j]?=some (some v):=by
    cases hs:σ[j]? with
    |none=>rw[hs]at e2';cases e2'
    |some ov=>rw[hs]at e2';simp at e2';rw[e2']
   obtain⟨x',f1,f2,k⟩:=qY i j hc
   have hx:x'=x:=by
    have z:nm[i]?=some x:=e1
    rw[f1]at z;exact be z
   subst hx
   obtain⟨m2,_,hl2⟩:=I2.loc
   obtain⟨u,r,l⟩:=hl2 j x' v f2 e2 k.vis
   refine⟨u,r.up I.tk,?_⟩
   rcases l with⟨kl,_⟩|⟨_,c,hcc,eU⟩
   ·exact absurd kl k.nl
   ·refine .inr ⟨k.kd,c,by rw[<- hcc];exact k.cl,?_⟩
    exact I.base.cellK eU (I2.freeC _ _ hcc) fun z=>zk c z _ _ hcc rfl
theorem xc{ae:List (Addr×Obj)}{σ:St}{H:Hp}{s:Shared}{use:Option (Value->Sem Unit)}{Qk:VK}{Qv:Value->Shared->Prop}(iQ:X.calm=true)(tm:closureFor scope X.env=pure cl)(kh:∀x c,cl.lookup x=some c->X.env.cells.lookup x=some c)
  (iS:scope.kind=.function) (oK:∀x∈scope.names,x.2=.local->scope.names.lookup x.1=some .local) (N5:∀y∈scope.names,y.2=.cell->cl.lookup y.1=none)
  (yk:∀x,scope.names.lookup x≠some .cell->((relabel scope X.env).names.lookup x=some .cell\/(relabel scope X.env).names.lookup x=some .free)->∃c,cl.lookup x=some c)
  (qY:∀(i j:Nat),cap[i]?=some (some j)->∃x,nm[i]?=some x/\X.N[j]?=some x/\rN X scope cl x/\(x,NameKind.cell)∉scope.names) (eZ:cap.length=nm.length)
  (hi:PI X tg dq wi) (hg:∀k C s0 H0 fp,PG (ef X nm scope (cellsFrom k scope.names []++cl) C s0 H0 fp) tg g) (ht:∀k C s0 H0 fp,AT (ef X nm scope (cellsFrom k scope.names []++cl) C s0 H0 fp) lJ tc)
  (he:∀k C s0 H0 fp,PE (ef X nm scope (cellsFrom k scope.names []++cl) C s0 H0 fp) oH te) (hs:∀x,foldedSetIterable dq X.env x=pure x)
  (I:bi X ae σ H s) (h:rM cap wi g tc te σ H Qk) (fin:∀(s4:Shared) (C D:Addr) (m4:Str->Option Value) (Hn:Hp),bi X ae σ Hn s4->vE X ae Hn s4 C m4->Qk (.ref D) Hn->compPost (model X.prog X.w) X.A X.xe use Qv (.ref D) C (.ok .next) s4) :
  wpAny (model X.prog X.w) X.A (comprehension (.ListComp oH [⟨tg,dq,lJ,0⟩] scope pos) scope X.env (firstIterPos [⟨tg,dq,lJ,0⟩] pos) (newList []) (firstAsync [⟨tg,dq,lJ,0⟩]) (firstIter [⟨tg,dq,lJ,0⟩] X.env) use) Qv X.xe s:=by
 refine wpAny_comprehension_free (use:=use) rfl hs tm iS oK (wX (hi ae s σ H _ I h) fun v s1 h1=>wX h1 fun Nl s2 h2=>?_)
 obtain⟨it,fp,tn,J,H1,e,I2,T,cP,f2,W,⟨m0,w0⟩,turn⟩:=h2
 subst e
 have hfpn:∀b∈fp,b<s2.heap.objs.size:=fun b hb=>let ⟨o,ho,_⟩:=T.obj _ _ cP b hb;av ho
 have hfpc:∀b∈fp,∀x c,X.env.cells.lookup x=some c->c≠b:=fun b hb=>(f2 b hb).2.2.2.2.1
 refine bx (D6 (fun h₁ hns₁ hsb₁ cok=>?_))
 dsimp only at hns₁ hsb₁ cok ⊢
 generalize hH2:s2.heap.push { cls:=.type "list",dict:=none,data:=.seq ([]:List Value).toArray }=G2 at hns₁ hsb₁ cok ⊢
 have hC:G2.objs.size=s2.heap.objs.size+1:=by rw[<- hH2,bh]
 have hDC:s2.heap.objs.size≠G2.objs.size:=by rw[hC];exact aK (bB _)
 have old:∀b o,s2.heap.get? b=some o->h₁.get? b=some o:=fun b o e=>hsb₁ b o (hH2▸ag _ e)
 have hacc:h₁.get? s2.heap.objs.size=some { cls:=.type "list",data:=.seq ([]:List Value).toArray }:=hsb₁ _ _ (hH2▸ar _ rfl)
 have both:∀y c,(cellsFrom (G2.objs.size+1) scope.names []++cl).lookup y=some c->(cellsFrom (G2.objs.size+1) scope.names []).lookup y=some c\/cl.lookup y=some c:=fun y c e=>by
  rw[g8]at e
  cases h:(cellsFrom (G2.objs.size+1) scope.names []).lookup y with
  |none=>rw[h]at e;exact .inr e
  |some b=>rw[h]at e;exact .inl e
 have ownhi:∀y c,(cellsFrom (G2.objs.size+1) scope.names []).lookup y=some c->h₁.IsCell c none/\G2.objs.size+1<=c:=fun y c e=>cok.empty y c (PySem.mem_of_lookup e)
 have cllow:∀y c,cl.lookup y=some c->c<s2.heap.objs.size:=fun y c e=>by obtain⟨v,hv⟩:=I2.cell y c (kh _ _ e);exact hv.lt
 have hcap0:=qY
 have qY:∀(i j:Nat),cap[i]?=some (some j)->∃x,nm[i]?=some x/\X.N[j]?=some x/\rN X scope (cellsFrom (G2.objs.size+1) scope.names []++cl) x:=fun i j e=>by
  obtain⟨x,q1,q2,k,q3⟩:=hcap0 i j e
  refine⟨x,q1,q2,k.vis,k.nl,?_,k.kd⟩
  rw[g8]
  cases h:(cellsFrom (G2.objs.size+1) scope.names []).lookup x with
  |none=>exact k.cl
  |some c=>
   rcases kN _ _ _ (PySem.mem_of_lookup h)with z|z
   ·exact absurd z q3
   ·cases z
 have okB:(ef X nm scope (cellsFrom (G2.objs.size+1) scope.names []++cl) G2.objs.size s2 H1 fp).Ok:=by
  refine⟨I2.ok.mod,iS,I2.ok.glob,I2.ok.blt,by show s2.heap.objs.size<=G2.objs.size;omega,fun x y c h1 h2=>?_,fun x hx=>?_,fun x c h0 hc=>?_,fun hc=>I2.ok.hd iQ,I2.ok.frames,.inl rfl,?_,?_,?_,?_,?_,?_,?_⟩
  ·rcases both x c h1 with q1|q1<;>rcases both y c h2 with q2|q2
   ·exact name_of_addr cok.apart (PySem.mem_of_lookup q1) (PySem.mem_of_lookup q2)
   ·exact absurd (cllow y c q2) (fx.mpr (aA (by omega) (ownhi x c q1).2))
   ·exact absurd (cllow x c q1) (fx.mpr (aA (by omega) (ownhi y c q2).2))
   ·exact I2.ok.inj x y c (kh _ _ q1) (kh _ _ q2)
  ·show ∃c,(cellsFrom (G2.objs.size+1) scope.names []++cl).lookup x=some c
   rw[g8]
   by_cases hq:scope.names.lookup x=some .cell
   ·obtain⟨c,e⟩:=lg (n:=G2.objs.size+1) hq
    exact⟨c,by rw[e];rfl⟩
   ·obtain⟨c,e⟩:=yk x hq hx
    cases h:(cellsFrom (G2.objs.size+1) scope.names []).lookup x with
    |none=>exact⟨c,e⟩
    |some b=>exact⟨b,rfl⟩
  ·have hq:scope.names.lookup x=some .cell:=by simpa using h0
   obtain⟨b,e⟩:=lg (n:=G2.objs.size+1) hq
   have hc:(cellsFrom (G2.objs.size+1) scope.names []++cl).lookup x=some c:=hc
   rw[g8,e]at hc
   cases hc
   have:=(ownhi x _ e).2
   show s2.heap.objs.size<=_
   omega
  ·intro b hb
   exact⟨aK (ay (hfpn b hb) (by show _<=G2.objs.size;omega)),fun x c hx=>(both x c hx).elim (fun q=>du (ay (hfpn b hb) (aA (by omega) (ownhi x c q).2))) fun q=>hfpc b hb x c (kh _ _ q)⟩
  ·exact fun b o hb=>I2.bs b o hb
  ·exact aA I2.ok.bsz I2.sz
  ·intro b o hb z
   rcases(f2 b z).2.2.2.1 with q|q
   ·exact I2.ok.noex b o hb q
   ·exact absurd (av (I2.ok.bs b o hb).1) (fx.mpr q)
  ·intro b hb z
   rcases aC.mp (I2.stkSub b z)with q|q
   ·exact(f2 b hb).2.1 q
   ·exact(f2 b hb).2.2.1 q
  ·exact I2.stack
  ·exact I2.stkFree
 have I4:bi (ef X nm scope (cellsFrom (G2.objs.size+1) scope.names []++cl) G2.objs.size s2 H1 fp) [] (nT cap σ) H1 { s2 with heap:=h₁ }:=by
  refine AU qY eZ I2 hfpc (σ2:=List.replicate nm.length none) ⟨okB,rfl,I2.bare,Un.kept old,⟨_,hns₁,fun i x v _ e2=>?_⟩,fun x c hx=>?_,?_,fun x c hx=>(both x c hx).elim (fun q=>I2.hok.fresh (by have:=(ownhi x c q).2;omega)) fun q=>I2.freeC x c (kh _ _ q),fun p hp=>absurd hp (by simp),I2.hok.kept old,by simp,I2.pos,ah _⟩
  ·rw[lx]at e2;split at e2<;>cases e2
  ·rcases both x c hx with q|q
   ·exact⟨none,(ownhi x c q).1⟩
   ·obtain⟨v,hv⟩:=I2.cell x c (kh _ _ q)
    exact⟨v,hv.keeps old⟩
  ·exact I2.hok.fresh (by show _<=G2.objs.size;omega)
 have hsz0:∀{Hx:Hp} {sx:Shared} {px:List (Addr×Obj)} {σx:St},bi (ef X nm scope (cellsFrom (G2.objs.size+1) scope.names []++cl) G2.objs.size s2 H1 fp) px σx Hx sx->Hx s2.heap.objs.size=none->∀{oa:Obj},sx.heap.get? s2.heap.objs.size=some oa->(∀v,oa.data≠.cell v) ->
   bi (ef X nm scope (cellsFrom (G2.objs.size+1) scope.names []++cl) G2.objs.size s2 H1 fp) [(s2.heap.objs.size,oa)] σx Hx sx:=fun{Hx sx px σx} Ix hn {oa} ho hd=>Ix.pins_of fun p hp=>by
  have e:p=(s2.heap.objs.size,oa):=by simpa using hp
  subst e
  exact⟨ho,hn,hDC,fun z=>by
   obtain⟨_,o,q,_⟩:=I2.stack.mem z
   exact absurd (av q) (b_ _),hd⟩
 have hfpB:∀{Hx:Hp} {oa:Obj},(∀b∈fp,Hx b=none)->∀b∈fp,qQ (ef X nm scope (cellsFrom (G2.objs.size+1) scope.names []++cl) G2.objs.size s2 H1 fp) [(s2.heap.objs.size,oa)] Hx b:=fun{Hx oa} hn b hb=>
  ⟨hn b hb,(okB.exf b hb).1,okB.exfs b hb,.inl hb,(okB.exf b hb).2,fun p hp=>by
   have e:p=(s2.heap.objs.size,oa):=by simpa using hp
   subst e
   exact du (hfpn b hb)⟩
 have hcalmB:(ef X nm scope (cellsFrom (G2.objs.size+1) scope.names []++cl) G2.objs.size s2 H1 fp).calm=true:=iQ
 have loop:∀sx:Shared,sx={ s2 with heap:=h₁ } ->
   codeAny (model X.prog X.w) X.A (.compLoop (.ListComp oH [⟨tg,dq,lJ,0⟩] scope pos) 0 (.ref it) (.ref s2.heap.objs.size) (compEnvC scope (cellsFrom (G2.objs.size+1) scope.names []++cl) G2.objs.size X.env))
    (compPost (model X.prog X.w) X.A X.xe use Qv (.ref s2.heap.objs.size) G2.objs.size) sx:=by
  rintro sx rfl
  refine codeAny_loop rfl (fun n s'=>∃i ys H',bi (ef X nm scope (cellsFrom (G2.objs.size+1) scope.names []++cl) G2.objs.size s2 H1 fp) [] (nT cap σ) H' s'/\tn i s'.heap/\(∀b∈fp,H' b=none)/\H' s2.heap.objs.size=none /\
   (∃bv k,b7 s'.toks ys bv/\s'.heap.get? s2.heap.objs.size=some { cls:=.type "list",data:=.seq bv.toArray k })/\W i n ys H') ?_ m0
   ⟨0,[],H1,I4,T.keep _ _ _ cP (fun b _ o e=>old b o e),fun b hb=>(f2 b hb).1,I2.fresh,⟨[],0,.nil,hacc⟩,w0⟩
  rintro n s3 ⟨i,ys,H3,I3,lc,fr3,na3,⟨bv,ka,rv,ea⟩,w3⟩
  show wpAny _ X.A ((compTurn (.ListComp oH [⟨tg,dq,lJ,0⟩] scope pos) 0 (.ref it) (.ref s2.heap.objs.size) (compEnvC scope (cellsFrom (G2.objs.size+1) scope.names []++cl) G2.objs.size X.env)).onRaise (fun x=>do noteFrame x (compEnvC scope (cellsFrom (G2.objs.size+1) scope.names []++cl) G2.objs.size X.env);theTreesLotGoes x)) _ _ s3
  refine wpAny_noted ?_
  rw[compTurn_list]
  refine aa (n_ ?_)
  have I3p:=hsz0 I3 na3 ea (fun v z=>by cases z)
  rcases turn i n ys H3 w3 with⟨stop,hz,qn⟩|⟨go,step⟩
  ·refine aa (p5 (T.done (ef X nm scope (cellsFrom (G2.objs.size+1) scope.names []++cl) G2.objs.size s2 H1 fp) rfl rfl rfl hcalmB i _ s3 _ H3 (fun _ _=>False) I3p (hfpB fr3) lc stop) (fun r s4 kt4 hr=>?_))
   obtain⟨hr,I4'⟩:=hr
   subst hr
   refine ai ?_
   obtain⟨m4,hn4,_⟩:=id I4'.loc
   have pa:=I4'.pin (s2.heap.objs.size,{ cls:=.type "list",data:=.seq bv.toArray ka }) (by simp)
   have ne:∀b o,s2.heap.get? b=some o->b≠s2.heap.objs.size/\b≠G2.objs.size:=fun b o e=>⟨aK (av e),aK (by rw[hC];exact bz (av e))⟩
   have I5:bi X ae σ (gb H3 s2.heap.objs.size (.lst ys)) s4:=by
    refine I2.call' (ch:=fp) I4'.os ⟨fun b o e n hb hx=>?_,fun b o e n hb hx=>?_,fun b o e n hx=>?_,fun b o e hx=>?_,fun b xs e=>?_,fun b o u e=>?_,fun b ps e=>?_⟩ ?_ I4'.bare (fun b hb=>?_) I4'.tk
    ·exact I4'.base.keep b o e n hb hx
    ·exact I4'.base.slot b o e n hb hx
    ·rw[cx (ne b o e).1];exact I4'.base.free b o e n hx
    ·exact I4'.base.there b o e hx
    ·have q:=I4'.base.tups b xs e
     rw[cx (eF q na3)];exact q
    ·have q:=I4'.base.frzs b o u e
     rw[cx (eF q na3)];exact q
    ·obtain⟨mr,q⟩:=I4'.base.tbls b ps e
     exact⟨mr,by rw[cx (eF q na3)];exact q⟩
    ·intro b o e
     by_cases hb:b=s2.heap.objs.size
     ·subst hb
      rw[gm]at e;cases e
      exact⟨hz,bv,ka,rv.up kt4,pa.1⟩
     ·rw[cx hb]at e
      exact(I4'.hok b o e).stay (fun c u hc q=>q) (fun c q=>by rw[cx (eF q na3)];exact q) fun c xs q=>by rw[cx (eF q na3)];exact q
    ·obtain⟨_,g1,_,g3,g4,g5⟩:=f2 b hb
     exact⟨g3,g1,g4,g5⟩
   have lC:s2.heap.objs.size<=G2.objs.size:=by rw[hC];exact a8 _
   exact fin s4 G2.objs.size _ m4 _ I5 ⟨hn4,by rw[cx (Ne.symm hDC)];exact I4'.free,du (ay I2.lt lC),I2.nofs lC,aA I2.sz lC,fun x c hx z=>(by
    obtain⟨v,o,ho,_⟩:=I2.cell x c hx
    exact absurd (av ho) (by rw[z];exact fx.mpr lC)),fun p hp z=>(by
    have:=(I2.pin p hp).1
    exact absurd (av this) (by rw[z];exact fx.mpr lC))⟩ (qn _ na3)
  ·refine aa (p5 (T.item (ef X nm scope (cellsFrom (G2.objs.size+1) scope.names []++cl) G2.objs.size s2 H1 fp) rfl rfl rfl hcalmB i _ s3 _ H3 (fun _ _=>False) I3p (hfpB fr3) lc go) (fun r s4 kt4 hr=>?_))
   obtain⟨u,hr,h4⟩:=hr
   subst hr
   dsimp only
   refine aa (p5 h4 (fun _ s5 kt5 h5=>?_))
   obtain⟨x,H5,I5,r5,y5,st5,fr5⟩:=h5
   have I5':=I5.pinned (hfpB fr5) (T.obj _ _ st5)
   refine aa (p5 (hg _ _ _ _ _ _ s5 _ H5 x u _ I5' r5 (step x H5 y5)) (fun _ s6 kt6 h6=>?_))
   obtain⟨σ6,H6,I6,q6⟩:=h6
   refine aa (p5 (ht _ _ _ _ _ _ s6 σ6 H6 _ I6 q6) (fun ok s7 kt7 h7=>?_))
   obtain⟨H7,I7,q7⟩:=h7
   have back:∀{H8:Hp} {s8:Shared} {Mi:List V} {its':List Value} {k':Nat},bi (ef X nm scope (cellsFrom (G2.objs.size+1) scope.names []++cl) G2.objs.size s2 H1 fp) [] σ6 H8 s8->(∀b∈fp,∀o,s5.heap.get? b=some o->s8.heap.get? b=some o)->(∀b∈fp,H8 b=none)->H8 s2.heap.objs.size=none ->
     b7 s8.toks Mi its'->s8.heap.get? s2.heap.objs.size=some { cls:=.type "list",data:=.seq its'.toArray k' }->(∃m',m'<n/\W (i+1) m' Mi H8) ->
     ∃m,m<n/\∃i ys H',bi (ef X nm scope (cellsFrom (G2.objs.size+1) scope.names []++cl) G2.objs.size s2 H1 fp) [] (nT cap σ) H' s8/\tn i s8.heap/\(∀b∈fp,H' b=none)/\H' s2.heap.objs.size=none /\
      (∃bv k,b7 s8.toks ys bv/\s8.heap.get? s2.heap.objs.size=some { cls:=.type "list",data:=.seq bv.toArray k })/\W i m ys H':=
    fun{H8 s8 Mi its' k'} I8 kf f8 n8 rv8 e8 ⟨m',hm,w8⟩=>⟨m',hm,i+1,Mi,H8,AU qY eZ I2 hfpc I8,T.keep _ _ _ st5 kf,f8,n8,⟨its',k',rv8,e8⟩,w8⟩
   cases ok with
   |false=>
    refine ai ⟨rfl,?_⟩
    have q7':∃m',m'<n/\W (i+1) m' ys H7:=by simpa using q7
    have pa:=I7.pin (s2.heap.objs.size,{ cls:=.type "list",data:=.seq bv.toArray ka }) (by simp)
    refine back (I7.pins_of fun p hp=>absurd hp (by simp)) (fun b hb o e=>?_) (fun b hb=>?_) pa.2.1 (rv.up (by omega)) pa.1 q7'
    ·exact(I7.pin (b,o) (aT _ (aT _ (iY hb e)))).1
    ·obtain⟨o,e,d⟩:=T.obj _ _ st5 b hb
     exact(I7.pin (b,o) (aT _ (aT _ (iY hb e)))).2.1
   |true=>
    rw[am rfl]at q7
    refine aa (aa (p5 (he _ _ _ _ _ _ s7 σ6 H7 _ I7 q7) (fun xv s8 kt8 h8=>?_)))
    obtain⟨y,H8,I8,r8,hzy,q8⟩:=h8
    have pa:=I8.pin (s2.heap.objs.size,{ cls:=.type "list",data:=.seq bv.toArray ka }) (by simp)
    refine aa (up (uN pa.1 (by rw[<- rv.length];exact hzy) fun h' k' tk e9 sb hk=>?_))
    refine ai (ai ⟨rfl,?_⟩)
    have I9:bi (ef X nm scope (cellsFrom (G2.objs.size+1) scope.names []++cl) G2.objs.size s2 H1 fp) [] σ6 H8 { s8 with heap:=h',toks:=tk }:=
     (bi.pins_of (pins':=[]) I8 fun p hp=>absurd hp (by simp)).turned (it:=s2.heap.objs.size) (fun b o hb e=>sb b o hb e) pa.2.1 hDC (.inr (ah _)) (fun x c hx z=>by
      rcases both x c hx with q|q
      ·exact fx.mpr (ownhi x c q).2 (by rw[z];omega)
      ·exact b_ _ (by have:=cllow x c q;rw[z]at this;exact this)) (fun p hp=>absurd hp (by simp))
    refine back I9 (fun b hb o e=>?_) (fun b hb=>?_) pa.2.1 ((rv.up (by omega)).append (.cons (r8.up hk) .nil)) e9 q8
    ·exact sb b o (aK (hfpn b hb)) (I8.pin (b,o) (aT _ (aT _ (iY hb e)))).1
    ·obtain⟨o,e,d⟩:=T.obj _ _ st5 b hb
     exact(I8.pin (b,o) (aT _ (aT _ (iY hb e)))).2.1
 exact codeAny_compStart_list (loop _ rfl) (T.self _ _ _ _ _ (T.keep _ _ _ cP fun b _ o e=>old b o e) (loop _ rfl))
theorem oX:∀(names:List (Str×NameKind)) (n:Nat),(∀y∈names,y.2≠.cell)->cellsFrom n names []=[]
 |[],_,_=>rfl
 |(x,k)::r,n,h=>by
  show(if k==.cell then cellsFrom (n+1) r [(x,n)]else cellsFrom n r [])=[]
  rw[au (by have:=h (x,k) (by simp);simpa using this)]
  exact oX r n fun y hy=>h y (by simp[hy])
theorem t9{ae:List (Addr×Obj)}{σ:St}{H:Hp}{s:Shared}{use:Option (Value->Sem Unit)}{Qk:VK}{Qv:Value->Shared->Prop}(iQ:X.calm=true)(tm:closureFor scope X.env=pure cl)(kh:∀x c,cl.lookup x=some c->X.env.cells.lookup x=some c)
  (iS:scope.kind=.function) (oK:∀x∈scope.names,x.2=.local->scope.names.lookup x.1=some .local) (eU:∀y∈scope.names,y.2≠.cell)
  (yk:∀x,((relabel scope X.env).names.lookup x=some .cell\/(relabel scope X.env).names.lookup x=some .free)->∃c,cl.lookup x=some c)
  (qY:∀(i j:Nat),cap[i]?=some (some j)->∃x,nm[i]?=some x/\X.N[j]?=some x/\rN X scope cl x) (eZ:cap.length=nm.length)
  (hi:PI X tg dq wi) (hg:∀C s0 H0 fp,PG (c_ X nm scope cl C s0 H0 fp) tg g) (ht:∀C s0 H0 fp,AT (c_ X nm scope cl C s0 H0 fp) lJ tc)
  (he:∀C s0 H0 fp,PE (c_ X nm scope cl C s0 H0 fp) oH te) (hs:∀x,foldedSetIterable dq X.env x=pure x)
  (I:bi X ae σ H s) (h:rM cap wi g tc te σ H Qk) (fin:∀(s4:Shared) (C D:Addr) (m4:Str->Option Value) (Hn:Hp),bi X ae σ Hn s4->vE X ae Hn s4 C m4->Qk (.ref D) Hn->compPost (model X.prog X.w) X.A X.xe use Qv (.ref D) C (.ok .next) s4) :
  wpAny (model X.prog X.w) X.A (comprehension (.ListComp oH [⟨tg,dq,lJ,0⟩] scope pos) scope X.env (firstIterPos [⟨tg,dq,lJ,0⟩] pos) (newList []) (firstAsync [⟨tg,dq,lJ,0⟩]) (firstIter [⟨tg,dq,lJ,0⟩] X.env) use) Qv X.xe s:=by
 have nc:∀k,cellsFrom k scope.names []++cl=cl:=fun k=>by rw[oX _ _ eU];rfl
 have nx:∀C s0 H0 fp,ef X nm scope cl C s0 H0 fp=c_ X nm scope cl C s0 H0 fp:=fun C s0 H0 fp=>by
  have:(fun y=>scope.names.lookup y==some .cell)=fun _=>false:=funext fun y=>by
   rw[cQ]
   exact fun e=>eU _ (hV e) rfl
  unfold ef c_
  rw[this]
 exact xc iQ tm kh iS oK (fun y hy h=>absurd h (eU y hy)) (fun x _ h=>yk x h) (fun i j h=>let ⟨x,a,b,d⟩:=qY i j h;⟨x,a,b,d,fun z=>eU _ z rfl⟩) eZ hi
  (fun k C s0 H0 fp=>by rw[nc,nx];exact hg C s0 H0 fp) (fun k C s0 H0 fp=>by rw[nc,nx];exact ht C s0 H0 fp) (fun k C s0 H0 fp=>by rw[nc,nx];exact he C s0 H0 fp) hs I h fin
theorem D7(iQ:X.calm=true)(tm:closureFor scope X.env=pure cl)(kh:∀x c,cl.lookup x=some c->X.env.cells.lookup x=some c)
  (iS:scope.kind=.function) (oK:∀x∈scope.names,x.2=.local->scope.names.lookup x.1=some .local) (eU:∀y∈scope.names,y.2≠.cell)
  (yk:∀x,((relabel scope X.env).names.lookup x=some .cell\/(relabel scope X.env).names.lookup x=some .free)->∃c,cl.lookup x=some c)
  (qY:∀(i j:Nat),cap[i]?=some (some j)->∃x,nm[i]?=some x/\X.N[j]?=some x/\rN X scope cl x) (eZ:cap.length=nm.length)
  (hi:PI X tg dq wi) (hg:∀C s0 H0 fp,PG (c_ X nm scope cl C s0 H0 fp) tg g) (ht:∀C s0 H0 fp,AT (c_ X nm scope cl C s0 H0 fp) lJ tc)
  (he:∀C s0 H0 fp,PE (c_ X nm scope cl C s0 H0 fp) oH te) (hs:∀x,foldedSetIterable dq X.env x=pure x:=by intro _;rfl) :
  PE X (.ListComp oH [⟨tg,dq,lJ,0⟩] scope pos) (rM cap wi g tc te):=by
 intro ae s σ H Q I h
 rw[eval_ListComp]
 exact t9 iQ tm kh iS oK eU yk qY eZ hi hg ht he hs I h fun s4 C D m4 Hn I4 B q=>⟨m4,B.ns,fun h' hs'=>⟨.ref D,Hn,B.off I4 hs',rfl,q⟩⟩
end
end L2
namespace L2
variable{nk:Nat}
open PySem PySem.Spec PyProof.Rows
def tx(l:List Nat):Str:=⟨l.toArray⟩
theorem Ha(l:List Nat):(tx l).cps.toList=l:=rfl
theorem J9(z:Str):tx z.cps.toList=z:=by cases z;rfl
theorem gZ(l:List Nat):(tx l).length=l.length:=by show l.toArray.size=_;simp
theorem xf(a b:List Nat):tx a++tx b=tx (a++b):=by
 show(⟨a.toArray++b.toArray⟩:Str)=⟨(a++b).toArray⟩
 simp
theorem uO{a b:List Nat}:tx a=tx b↔a=b:=⟨fun h=>by have:=eL (fun z:Str=>z.cps.toList) h;exact this,fun h=>by rw[h]⟩
def MJ(qZ:List V):It:=⟨fun i _=>i<qZ.length,fun i H x H'=>H'=H/\qZ[i]?=some x,fun i _=>qZ.length<=i⟩
section
variable{X:Cx}{tg:Expr}
def io(l:List Nat):List V:=l.map fun c=>.str (tx [c])
def MK(tl:TE):TI:=fun σ H R=>tl σ H fun x H1=>∃l,x=.str (tx l)/\R (MJ (io l)) H1
theorem rO{P:Program}{w:World}{K:Frag}{tg:Expr}{it:Addr}{l:List Nat}{t:Tok}{ty:String}(C7:["enumerate","zip","dict_itemiterator","dict_reverseitemiterator","odict_iterator","itertools.zip_longest","itertools.pairwise"].contains ty=false)
  (next:∀{A:Around} {s:Shared} {i c:Nat} {Q:Option Value->Shared->Prop} {E:Value->Shared->Prop},s.heap.IsStrIter it ty (tx l) t i->(tx l).cps[i]?=some c ->
   (∀h',h'.IsStrIter it ty (tx l) t (i+1)->Heap.SameBut it s.heap h'->Q (some (.str ⟨#[c]⟩ s.toks)) { s with heap:=h',toks:=s.toks+1 })->wpAny (model P w) A (pyNext (.ref it)) Q E s)
  (stop:∀{A:Around} {s:Shared} {i:Nat} {Q:Option Value->Shared->Prop} {E:Value->Shared->Prop},A.handled=none->s.heap.IsStrIter it ty (tx l) t i->(tx l).cps[i]?=none ->
   (∀h',Heap.ExtBut it s.heap h'->Q none { s with heap:=h' })->wpAny (model P w) A (pyNext (.ref it)) Q E s)
  (LK:∀(A:Around) (i:Nat) (s:Shared) (Q:Value->Shared->Prop) (E:Value->Shared->Prop),s.heap.IsStrIter it ty (tx l) t i->Q (.ref it) s->wpAny (model P w) A (pyIter (.ref it)) Q E s) :
  zq P w K tg (MJ (io l)) [it] it (fun i h=>h.IsStrIter it ty (tx l) t i) where
 mem:=by simp
 obj:=fun i h st b hb=>by
  have e:b=it:=by simpa using hb
  subst e
  obtain⟨o,e,_,d⟩:=st
  exact⟨o,e,fun v z=>by rw[d]at z;cases z⟩
 keep:=fun i h h' st k=>by
  obtain⟨o,e,r⟩:=st
  exact⟨o,k it (by simp) o e,r⟩
 item:=by
  intro X hP hw hK hc i ae s σ H E I hf st hg
  subst hP hw hK
  obtain⟨f0,f1,f2,f3,f4,f5⟩:=hf it (by simp)
  have hg:i<l.length:=by have hg:i<(io l).length:=hg;simpa[io]using hg
  obtain⟨c,hx⟩:∃c,l[i]?=some c:=⟨_,af hg⟩
  refine next st (c:=c) (by simpa[tx]using hx) fun h' bp hs=>?_
  have I1:bi X ae σ H { s with heap:=h',toks:=s.toks+1 }:=I.turned (fun b o hb e=>hs.extBut b o hb e) f0 f1 f3 f4 f5
  obtain⟨o,e,cl,d⟩:=id bp
  exact⟨_,rfl,yq (s:={ s with heap:=h',toks:=s.toks+1 }) e cl d C7 ⟨.str (tx [c]),H,I1,I.tkS,⟨rfl,by unfold io;rw[aL,hx];rfl⟩,bp,fun b hb=>(hf b hb).1⟩⟩
 done:=by
  intro X hP hw hK hc i ae s σ H E I hf st hg
  subst hP hw hK
  obtain⟨f0,f1,f2,f3,f4,f5⟩:=hf it (by simp)
  have hg:l.length<=i:=by have hg:(io l).length<=i:=hg;simpa[io]using hg
  exact stop (I.ok.hd hc) st (by simpa[tx]using hg) fun h' hs=>⟨rfl,I.turned (t':=s.toks) (fun b o hb e=>hs b o hb e) f0 f1 f3 f4 f5⟩
 self:=fun A i s Q E st h=>LK A i s Q E st h
theorem Hb{l:Expr}{tl:TE}(hl:PE X l tl):PI X tg l (MK tl):=by
 intro ae s σ H R I h
 refine jx (hl ae s σ H _ I h) fun v s1 kt1 ⟨x,H1,I1,r1,q1⟩=>?_
 obtain⟨l,e,q⟩:=q1
 subst e
 obtain⟨t,rfl⟩:=r1
 have fp:∀b∈[s1.heap.objs.size],qQ X ae H1 b:=fun b hb=>by
  have e:b=s1.heap.objs.size:=by simpa using hb
  subst e
  exact I1.fpOk (ah _) (I1.hok.fresh (ah _))
 cases ha:(tx l).cps.all (· < 128)
 ·exact kH ha ⟨s1.heap.objs.size,[s1.heap.objs.size],_,_,H1,rfl,I1.kept (t':=s1.toks) fun b o e=>ag _ e,rO (l:=l) (t:=t.1) (ty:="str_iterator") (by decide) (fun a b c=>iz a b c) (fun hh a b c=>wpAny_pyNext_wide_end hh a b c) (fun A i s Q E st h=>wpAny_pyIter_striter_wide st h),⟨_,ar _ rfl,rfl,rfl⟩,fp,q⟩
 ·exact jZ ha ⟨s1.heap.objs.size,[s1.heap.objs.size],_,_,H1,rfl,I1.kept (t':=s1.toks) fun b o e=>ag _ e,rO (l:=l) (t:=t.1) (ty:="str_ascii_iterator") (by decide) (fun a b c=>ii a b c) (fun hh a b c=>wpAny_pyNext_ascii_end hh a b c) (fun A i s Q E st h=>wpAny_pyIter_striter_ascii st h),⟨_,ar _ rfl,rfl,rfl⟩,fp,q⟩
def xg(l:List Nat)(lo hi:Option Int):List Nat:=(l.drop (HT.sIx l.length 0 lo)).take (HT.sIx l.length l.length hi-HT.sIx l.length 0 lo)
theorem vF(l:List Nat)(lo hi:Option Int):(xg l lo hi).length<=l.length:=by unfold xg;rw[aQ,bO];omega
theorem xh(l:List Nat)(i k:Nat):((List.range k).map fun(m:Nat)=>i+m).filterMap (fun j=>l[j]?)=(l.drop i).take k:=by
 induction k generalizing i with
 |zero=>simp
 |succ k ih=>
  rw[l8,a7,bb]
  have e:((fun m=>i+m)∘Nat.succ)=fun m=>(i+1)+m:=by funext m;simp[Function.comp];omega
  rw[e]
  by_cases h:i<l.length
  ·rw[cR]
   simp only[jH,af h]
   rw[ih (i+1),cb h,List.take_succ_cons]
  ·rw[cR]
   have h':l.length<=i:=by omega
   simp only[jH,bd h']
   rw[ih (i+1),bq h',bq (by omega)]
   simp
theorem Fs(v:Int)(n d:Nat):(if (1:Int)>0 then max 0 (min (if v<0 then v+(n:Int)else v) (n:Int))else max (-1) (min (if v<0 then v+(n:Int)else v) ((n:Int)-1)))=((HT.sIx n d (some v):Nat):Int):=by
 rw[am (by omega)]
 show _=(((if v<0 then(v+(n:Int)).toNat else min v.toNat n):Nat):Int)
 by_cases hv:v<0
 ·simp only[am hv];omega
 ·simp only[au hv];omega
theorem Hc(lo hi:Option Int)(n:Nat):Builtin.Str.strSliceIndices lo hi 1 n=(List.range (HT.sIx n n hi-HT.sIx n 0 lo)).map fun(m:Nat)=>HT.sIx n 0 lo+m:=by
 have key:∀a b:Nat,sliceRange (a:Int) (b:Int) 1=(List.range (b-a)).map fun(m:Nat)=>a+m:=fun a b=>by
  unfold sliceRange
  have e:(if (1:Int)>0 then(if (a:Int)<(b:Int)then((b:Int)-a+1-1)/1 else 0)else(if (a:Int)>b then((a:Int)-b-1-1)/(-1)else 0)).toNat=b-a:=by
   rw[am (by omega)]
   by_cases h:(a:Int)<b
   ·rw[am h];omega
   ·rw[au h];omega
  dsimp only
  rw[e]
  refine cw fun k _=>?_
  omega
 unfold Builtin.Str.strSliceIndices
 rw[<- key]
 dsimp only
 congr 1
 ·cases lo with
  |none=>rfl
  |some v=>exact Fs v n 0
 ·cases hi with
  |none=>rfl
  |some v=>exact Fs v n n
theorem AV(l:List Nat)(lo hi:Option Int):Txt.slice (tx l) lo hi=tx (xg l lo hi):=by
 unfold Txt.slice
 rw[Hc,gZ]
 split
 ·rename_i h
  simp only[beq_self_eq_true,Bool.true_and,dv,az,dw]at h
  unfold xg
  have h1:=HT.sIx_le l.length l.length (ah _) hi
  have h2:=HT.sIx_le l.length 0 (br _) lo
  by_cases hz:l.length=0
  ·have:l=[]:=fL hz
   subst this;simp
  ·have e0:HT.sIx l.length 0 lo=0:=by omega
   rw[e0,ni,cf (by omega)]
 ·unfold xg tx
  have:∀j:Nat,(l.toArray)[j]?=l[j]?:=fun j=>by simp
  simp only[this]
  rw[xh]
def MM:V->Option Int->Option Int->Hp->VK->Prop:=fun x lo hi H Q=>∃l,x=.str (tx l)/\l.length<=sizeLine/\Q (.str (tx (xg l lo hi))) H
theorem yw{v:Value}{o:Option Int}(p:IsPart v o):∃q:Option (Int×Tok),v=partValue q/\q.map (·.1)=o:=by
 cases p with
 |none=>exact⟨none,rfl,rfl⟩
 |int i t=>exact⟨some (i,t),rfl,rfl⟩
theorem Hd:J1 X MM:=by
 intro ae s σ H x v vl vu lo hi sl Q I rx hs pl pu h
 obtain⟨l,e,hz,q⟩:=h
 subst e
 obtain⟨t,rfl⟩:=rx
 obtain⟨pl',rfl,rfl⟩:=yw pl
 obtain⟨pu',rfl,rfl⟩:=yw pu
 refine⟨"str",_,F.slot_str_getitem.lookup,jY _ _ _,?_⟩
 refine wpAny_getItem_str_slice (l:=pl') (u:=pu') (st:=none) hs rfl ?_
 have e:=AV l (pl'.map (·.1)) (pu'.map (·.1))
 unfold Txt.slice at e
 have hl:(tx (xg l (pl'.map (·.1)) (pu'.map (·.1)))).length<=sizeLine:=by rw[gZ];exact aA (vF l _ _) hz
 show(if ((1:Int)==1&&(Builtin.Str.strSliceIndices (pl'.map (·.1)) (pu'.map (·.1)) 1 (tx l).length).length==(tx l).length)=true then Made.val (.str (tx l) t.1)else Made.str ⟨((Builtin.Str.strSliceIndices (pl'.map (·.1)) (pu'.map (·.1)) 1 (tx l).length).filterMap ((tx l).cps[·]?)).toArray⟩).post (EP X ae σ Q) s
 split
 ·rename_i hc
  rw[am hc]at e
  rw[<- e]at q
  exact⟨.str (tx l),H,I,⟨t,rfl⟩,q⟩
 ·rename_i hc
  rw[au hc]at e
  rw[e]
  exact⟨hl,⟨.str _,H,I.tok _,I.tkS,q⟩⟩
theorem He(c:Nat)(l:List Nat):(!(Builtin.Str.occurrences (tx l) (tx [c]) 0 (tx l).length 1).isEmpty)=decide (c∈l):=StrLaws.found_one (tx l) c
def MN(Gq:Bool):R2:=fun x y H Q=>∃c l,x=.str (tx [c])/\y=.str (tx l)/\Q (.bl (if Gq then !decide (c∈l)else decide (c∈l))) H
theorem zC:mR X (compareOp .In) (MN false):=by
 intro ae s σ H x y v u Q I rx ry h
 obtain⟨c,l,rfl,rfl,q⟩:=h
 exact zv ae s σ H _ _ v u Q I rx ry ⟨_,_,rfl,rfl,by rw[He];exact q⟩
theorem zD:mR X (compareOp .LtE) (fun x y H Q=>∃c d,x=.str (tx [c])/\y=.str (tx [d])/\Q (.bl (decide (c<=d))) H):=by
 intro ae s σ H x y v u Q I rx ry h
 obtain⟨c,d,rfl,rfl,q⟩:=h
 obtain⟨t,rfl⟩:=rx
 obtain⟨t',rfl⟩:=ry
 refine PySem.P.le_str ⟨.bl _,H,I,?_,q⟩
 show Value.bool _=Value.bool _
 congr 1
 show(!decide ([d]<[c]))=decide (c<=d)
 by_cases tD:c<=d
 ·rw[a9 tD,aP];rfl
  intro z
  cases z with
  |rel z=>omega
  |cons z=>cases z
 ·rw[aP tD,a9];rfl
  exact .rel (by omega)
theorem rP:∀{ys:List (List Nat)} {bv:List Value},b7 nk (ys.map fun l=>V.str (tx l)) bv->StrsAre bv (ys.map tx)
 |[],_,r=>by cases r;exact .nil
 |y::ys,_,r=>by
  cases r with
  |cons r rr=>
   obtain⟨t,rfl⟩:=r
   exact .cons _ _ (rP rr)
def gN(n:Nat)(bv:List Value):Prop:=∀(x:Str) (t:Tok),Value.str x t∈bv->x.length=1->0<t/\t<n
theorem lM:∀{bv:List Value} {ss:List Str},StrsAre bv ss->gN nk bv->b7 nk (ss.map fun z=>V.str z) bv
 |_,_,.nil,_=>.nil
 |_,_,.cons y t r,h=>.cons ⟨⟨t,h y t bX⟩,rfl⟩ (lM r fun x u hx=>h x u (aW _ hx))
theorem oY:∀{vs:List V} {bv:List Value},b7 nk vs bv->gN nk bv
 |_,_,.nil=>fun _ _ h=>nomatch h
 |v::_,_,.cons r t=>fun x u hx=>by
  rcases aC.mp hx with e|hx
  ·subst e
   cases v with
   |str y=>obtain⟨tk,e⟩:=r;cases e;exact tk.2
   |non=>cases r
   |bl b=>cases r
   |int i=>obtain⟨_,e⟩:=r;cases e
   |byt b=>obtain⟨_,e⟩:=r;cases e
   |flt b=>obtain⟨_,e⟩:=r;cases e
   |ref a=>cases r
   |ty n=>cases r
  ·exact oY t x u hx
theorem yx:∀{ys:List (List Nat)} {bv:List Value},b7 nk (ys.map fun l=>V.str (tx l)) bv->∃zs:List (Str×Tok),bv=strValues zs/\zs.map (·.1)=ys.map tx
 |[],_,r=>by cases r;exact⟨[],rfl,rfl⟩
 |y::ys,_,r=>by
  cases r with
  |cons r rr=>
   obtain⟨t,rfl⟩:=r
   obtain⟨zs,rfl,e⟩:=yx rr
   exact⟨(tx y,t.1)::zs,rfl,by rw[a7,a7,e]⟩
def jz(sep:List Nat):List (List Nat)->List Nat
 |[]=>[]
 |[x]=>x
 |x::y::r=>x++sep++jz sep (y::r)
theorem lh:∀ys:List (List Nat),jz [] ys=ys.flatten
 |[]=>rfl
 |[x]=>by simp[jz]
 |x::y::r=>by rw[jz,lh (y::r)];simp
theorem yy(sep:List Nat):∀ys:List (List Nat),Txt.join (tx sep) (ys.map tx)=tx (jz sep ys):=fun ys=>by
 show Builtin.Str.glued (tx sep) (ys.map tx)=_
 rw[gc]
 induction ys with
 |nil=>rfl
 |cons x r ih=>
  cases r with
  |nil=>rfl
  |cons y r=>
   show tx x++tx sep++Str.join (tx sep) ((y::r).map tx)=tx (x++sep++jz sep (y::r))
   rw[ih,xf,xf]
def J_(K:Frag):V->List V->Hp->VK->Prop:=fun x vs H Q=>∃(sep:List Nat) (a:Addr) (ys:List (List Nat)),x=.str (tx sep)/\vs=[.ref a]/\pW K H a (ys.map fun l=>V.str (tx l))/\(ys.map List.length).sum+ys.length*sep.length<=16777216/\Q (.str (tx (jz sep ys))) H
theorem bi.joinS{ae:List (Addr×Obj)}{σ:St}{H:Hp}{s:Shared}{Q:VK}{sep:Str}{zs:List (Str×Tok)}(I:bi X ae σ H s)(hl:(Builtin.Str.glued sep (zs.map (·.1))).length<=sizeLine)(hk:gN s.toks (strValues zs))(q:Q (.str (Txt.join sep (zs.map (·.1)))) H):(joinMade sep zs).post (EP X ae σ Q) s:=by
 have fin:(Made.str (Builtin.Str.glued sep (zs.map (·.1)))).post (EP X ae σ Q) s:=⟨hl,⟨.str _,H,I.tok _,I.tkS,q⟩⟩
 cases zs with
 |nil=>exact fin
 |cons p r=>
  cases r with
  |nil=>
   have e:Txt.join sep [p.1]=p.1:=by
    show Builtin.Str.glued sep [p.1]=_
    rw[gc];rfl
   rw[show([p]:List (Str×Tok)).map (·.1)=[p.1]from rfl,e]at q
   exact⟨.str p.1,H,I,⟨⟨p.2,hk p.1 p.2 (by simp[strValues])⟩,rfl⟩,q⟩
  |cons _ _=>exact fin
theorem D8:Dr X "str.join" (J_ X.K):=by
 intro ae s σ H x vs v us Q I rx rv h
 obtain⟨sep,a,ys,rfl,rfl,hS,hz,q⟩:=h
 obtain⟨t,rfl⟩:=rx
 obtain⟨u,rfl,ru⟩:=rv.one
 cases ru
 obtain⟨bv,r,p,_⟩:=I.list hS
 have hk:gN s.toks bv:=oY r
 obtain⟨zs,rfl,ez⟩:=yx (by simpa using r)
 have hok:JoinOk (tx sep) (zs.map (·.1))=true:=joinOk_of (by
  rw[ez,bb,gZ,az]
  have e:((fun z:Str=>z.length)∘tx)=List.length:=by funext l;exact gZ l
  rw[e];exact hz)
 have hj:=hok
 unfold JoinOk at hj
 rw[e7]at hj
 exact oN F.slot_str_join (jY _ _ _) F.entry_str_join (F.args_str_join_2 _ _) (meets_str_join_list (tx sep) t.1 a zs hj) ⟨p.isList,I.joinS (joinFit_length hj) hk (by rw[ez,yy];exact q)⟩
end
end L2
namespace L2
variable{nk:Nat}
open PySem PySem.Spec PyProof.Rows
inductive D where
 |non|bl (b:Bool)|int (i:Int)|str (l:List Nat)|tnil|tcons (d r:D)
 deriving DecidableEq
structure eV(K:Frag)(H H':Hp):Prop where
 t:∀p xs,gH K H p xs->gH K H' p xs
 z:∀b o u,H b=some (.frz o u)->H' b=some (.frz o u)
instance {K:Frag} {H H':Hp}:CoeFun (eV K H H') (fun _=>∀p xs,gH K H p xs->gH K H' p xs):=⟨eV.t⟩
theorem gH.same{K:Frag}{H H':Hp}(e:nP H H'):eV K H H':=⟨fun p xs h=>by
 rcases h with(h|⟨o,h⟩)|h
 ·exact .inl (.inl (e _ _ h))
 ·exact .inl (.inr ⟨o,e _ _ h⟩)
 ·exact .inr h,fun b o u h=>e _ _ h⟩
theorem cC{H:Hp}{p:Addr}(h:H p=none)(o:HO):nP H (gb H p o):=fun b u q=>by rw[cx (eF q h)];exact q
def MO(l:Addr)(H H':Hp):Prop:=∀b o,b≠l->H b=some o->H' b=some o
theorem nD{l:Addr}{H:Hp}{o:HO}:MO l H (gb H l o):=fun b u h q=>by rw[cx h];exact q
theorem gH.but{K:Frag}{l:Addr}{xs:List V}{H H':Hp}(e:MO l H H')(hl:H l=some (.lst xs)):eV K H H':=by
 have yn:∀{p:Addr} {o:HO},H p=some o->(∀zs,o≠.lst zs)->p≠l:=fun{p o} q hn z=>by subst z;rw[hl]at q;cases q;exact hn _ rfl
 refine⟨fun p ys h=>?_,fun b o u h=>e _ _ (yn h (fun _ z=>by cases z)) h⟩
 rcases h with(h|⟨o,h⟩)|h
 ·exact .inl (.inl (e _ _ (yn h (fun _ z=>by cases z)) h))
 ·exact .inl (.inr ⟨o,e _ _ (yn h (fun _ z=>by cases z)) h⟩)
 ·exact .inr h
theorem eV.refl{K:Frag}{H:Hp}:eV K H H:=⟨fun _ _ h=>h,fun _ _ _ h=>h⟩
theorem eV.trans{K:Frag}{H H1 H2:Hp}(a:eV K H H1)(b:eV K H1 H2):eV K H H2:=⟨fun p xs h=>b p xs (a p xs h),fun c o u h=>b.z c o u (a.z c o u h)⟩
theorem gH.new{K:Frag}{H:Hp}{p:Addr}{xs:List V}:gH K (gb H p (.tup xs)) p xs:=gH.of gm
end L2
namespace L2
variable{nk:Nat}
open PySem PySem.Spec PyProof.Rows
end L2
namespace L2
variable{nk:Nat}
open PySem PySem.Spec PyProof.Rows
section
variable{X:Cx}{o e:Expr}{es:List Expr}{to:TE}{t:TA}{name:Str}{iy dZ:Pos}{id:String}{r:V->List V->Hp->VK->Prop}
def NQ(r:V->List V->Hp->VK->Prop)(to:TE)(t:TA):TE:=fun σ H Q=>to σ H fun x H1=>(∃l ys,x=.ref l/\H1 l=some (.lst ys))/\t σ H1 fun xs H2=>r x xs H2 Q
def NR(r:V->List V->Hp->VK->Prop)(to:TE)(t:TA):TE:=fun σ H Q=>to σ H fun x H1=>(∃l,x=.str (tx l))/\t σ H1 fun xs H2=>r x xs H2 Q
theorem AW{K:Frag}{x:V}{H:Hp}(h:∃l ys,x=.ref l/\H l=some (.lst ys)):L5 K "list" x H:=by
 obtain⟨l,ys,rfl,h⟩:=h
 exact .inl ⟨rfl,_,.of h⟩
theorem yz{K:Frag}{x:V}{H:Hp}(h:∃l,x=.str (tx l)):L5 K "str" x H:=by
 obtain⟨l,rfl⟩:=h
 exact rfl
theorem AX{T:String}{ty:V->Hp->Prop}(Nc:∀x H,ty x H->L5 X.K T x H)(pa:PlainAttrs T)(slot:Slot T name id)(C7:typeOf (.builtin id)=pure (.type "method_descriptor"))(hm:Dr X id r)(ho:PE X o to)(ha:PA X (e::es) t)
  (jT:attributeBase o name X.env (eval o X.env)=eval o X.env)
  (oJ:((backTo dZ (starEach (e::es) X.env)).all (fun x=>!x.1)&&(backToKw dZ (keywordEach [] X.env)).all (fun x=>x.1.isSome)
   && decide ((e::es).length+([]:List Keyword).length+(if ([]:List Keyword).isEmpty then 0 else 1)<30))=true)
  (lw:(iy.endLine==dZ.line)=true) (hs:starEach (e::es) X.env=(false,eval e X.env)::starEach es X.env) (lY:(backTo dZ (starEach es X.env)).any (·.1)=false) :
  PE X (.Call (.Attribute o name iy) (e::es) [] dZ) (fun σ H Q=>to σ H fun x H1=>ty x H1/\t σ H1 fun xs H2=>r x xs H2 Q):=by
 intro ae s σ H Q I h
 refine l9 jT oJ lw rfl (jx (ho ae s σ H _ I h) fun v s1 kt1 ⟨x,H1,I1,r1,ty,q1⟩=>?_)
 obtain⟨h1,h2⟩:=AM I1 r1 (Nc _ _ ty)
 refine⟨T,id,pa,slot,C7,h1,h2,?_⟩
 have hA:=ha dZ ae s1 σ H1 _ I1 q1
 rw[hs]at hA ⊢
 refine l_ (by show(false||(backTo dZ (starEach es X.env)).any (·.1))=false;rw[lY]<;>rfl) (jj ?_)
 exact jx hA fun us s2 kt2 ⟨vs,H2,I2,r2,q2⟩=>hm ae s2 σ H2 x vs v us Q I2 (r1.up kt2) r2 q2
theorem J'(slot:Slot "list" name id)(C7:typeOf (.builtin id)=pure (.type "method_descriptor"))(hm:Dr X id r)(ho:PE X o to)(ha:PA X (e::es) t)
  (jT:attributeBase o name X.env (eval o X.env)=eval o X.env:=by rfl)
  (oJ:((backTo dZ (starEach (e::es) X.env)).all (fun x=>!x.1)&&(backToKw dZ (keywordEach [] X.env)).all (fun x=>x.1.isSome)
   && decide ((e::es).length+([]:List Keyword).length+(if ([]:List Keyword).isEmpty then 0 else 1)<30))=true:=by rfl)
  (lw:(iy.endLine==dZ.line)=true:=by rfl) (hs:starEach (e::es) X.env=(false,eval e X.env)::starEach es X.env:=by rfl) (lY:(backTo dZ (starEach es X.env)).any (·.1)=false:=by rfl) :
  PE X (.Call (.Attribute o name iy) (e::es) [] dZ) (NQ r to t):=AX (ty:=fun x H1=>∃l ys,x=.ref l/\H1 l=some (.lst ys)) (fun _ _ h=>AW h) F.plainAttrs_list slot C7 hm ho ha jT oJ lw hs lY
theorem Ka(slot:Slot "str" name id)(C7:typeOf (.builtin id)=pure (.type "method_descriptor"))(hm:Dr X id r)(ho:PE X o to)(ha:PA X (e::es) t)
  (jT:attributeBase o name X.env (eval o X.env)=eval o X.env:=by rfl)
  (oJ:((backTo dZ (starEach (e::es) X.env)).all (fun x=>!x.1)&&(backToKw dZ (keywordEach [] X.env)).all (fun x=>x.1.isSome)
   && decide ((e::es).length+([]:List Keyword).length+(if ([]:List Keyword).isEmpty then 0 else 1)<30))=true:=by rfl)
  (lw:(iy.endLine==dZ.line)=true:=by rfl) (hs:starEach (e::es) X.env=(false,eval e X.env)::starEach es X.env:=by rfl) (lY:(backTo dZ (starEach es X.env)).any (·.1)=false:=by rfl) :
  PE X (.Call (.Attribute o name iy) (e::es) [] dZ) (NR r to t):=AX (ty:=fun x H1=>∃l,x=.str (tx l)) (fun _ _ h=>yz h) F.plainAttrs_str slot C7 hm ho ha jT oJ lw hs lY
end
end L2
namespace L2
variable{nk:Nat}
open PySem PySem.Spec PyProof.Rows
end L2
namespace L2
variable{nk:Nat}
open PySem PySem.Spec PyProof.Rows
section
variable{X:Cx}{e:Expr}{es:List Expr}{te:TE}{t:TA}{pos:Pos}
def Kb(t:TA):TE:=fun σ H Q=>t σ H fun xs H1=>xs.length<=sizeLine/\∀p H2,H1 p=none->H2=gb H1 p (.tup xs)->Q (.ref p) H2
def Kc(t:TA):TE:=fun σ H Q=>t σ H fun xs H1=>xs.length<=sizeLine/\∀p H2,H1 p=none->H2=gb H1 p (.lst xs)->Q (.ref p) H2
theorem D9{x1}(h:PA X es t):PE X (.Tuple es x1 pos) (Kb t):=by
 intro ae s σ H Q I hq
 refine wpAny_Tuple_spliced (jx (h pos ae s σ H _ I hq) fun us s1 kt1 ⟨xs,H1,I1,r,z,q⟩=>⟨by rw[<- r.length];exact z,?_⟩)
 have hf:H1 s1.heap.objs.size=none:=I1.hok.fresh (ah _)
 refine⟨.ref s1.heap.objs.size,gb H1 s1.heap.objs.size (.tup xs),I1.laid (t':=s1.toks) (fun b u e=>ag _ e) (ah _) ?_,rfl,q _ _ hf rfl⟩
 exact⟨z,us,r,⟨_,ar _ rfl,rfl,_,rfl⟩⟩
theorem D_(h:PA X es t):PE X (.List es pos) (Kc t):=by
 intro ae s σ H Q I hq
 refine wpAny_List_spliced (jx (h pos ae s σ H _ I hq) fun us s1 kt1 ⟨xs,H1,I1,r,z,q⟩=>⟨by rw[<- r.length];exact z,?_⟩)
 have hf:H1 s1.heap.objs.size=none:=I1.hok.fresh (ah _)
 refine⟨.ref s1.heap.objs.size,gb H1 s1.heap.objs.size (.lst xs),I1.laid (t':=s1.toks) (fun b u e=>ag _ e) (ah _) ?_,rfl,q _ _ hf rfl⟩
 exact⟨z,us,0,r,ar _ rfl⟩
theorem Dr.imp{id:String}{r r':V->List V->Hp->VK->Prop}(h:Dr X id r)(i:∀x xs H Q,r' x xs H Q->r x xs H Q):Dr X id r':=fun ae s σ H x xs v us Q I rx rv q=>h ae s σ H x xs v us Q I rx rv (i _ _ _ _ q)
theorem jg.imp{f:Value}{r r':List V->Hp->VK->Prop}(h:jg X f r)(i:∀xs H Q,r' xs H Q->r xs H Q):jg X f r':=fun ae s σ H xs us Q I rv q=>h ae s σ H xs us Q I rv (i _ _ _ q)
theorem mR.imp{f:Value->Value->Sem Value}{r r':R2}(h:mR X f r)(i:∀x y H Q,r' x y H Q->r x y H Q):mR X f r':=fun ae s σ H x y v u Q I rx ry q=>h ae s σ H x y v u Q I rx ry (i _ _ _ _ q)
def AY:V->List V->Hp->VK->Prop:=fun x vs H Q=>∃l xs y,x=.ref l/\vs=[y]/\H l=some (.lst xs)/\xs.length<sizeLine/\∀H2,H2=gb H l (.lst (xs++[y]))->Q .non H2
theorem xi:Dr X "list.append" AY:=Dr.imp (r:=yu) zy fun _ _ _ _ ⟨l,xs,y,a,b,c,d,q⟩=>⟨l,xs,y,a,b,c,d,q _ rfl⟩
def AZ(K:Frag):List V->Hp->VK->Prop:=fun xs H Q=>∃p ys,xs=[.ref p]/\pW K H p ys/\∀l H2,H l=none->H2=gb H l (.tup ys)->Q (.ref l) H2
theorem vG:jg X (.type "tuple") (AZ X.K):=jg.imp tI fun _ _ _ ⟨p,ys,a,b,q⟩=>⟨p,ys,a,.inl ⟨b,fun l hl=>q l _ hl rfl⟩⟩
def Kd:R2:=fun x y H Q=>∃l b xs zs,x=.ref l/\y=.ref b/\H l=some (.lst xs)/\H b=some (.lst zs)/\xs.length+zs.length<=sizeLine/\∀p H2,H p=none->H2=gb H p (.lst (xs++zs))->Q (.ref p) H2
theorem D':mR X (binaryOp .Add) Kd:=mR.imp G9 fun _ _ _ _ ⟨l,b,xs,zs,h1,h2,h3,h4,h5,q⟩=>⟨l,b,xs,zs,h1,h2,h3,h4,h5,fun p hp=>q p _ hp rfl⟩
end
end L2
namespace L2
variable{nk:Nat}
open PySem PySem.Spec PyProof.Rows
end L2
namespace L2
variable{nk:Nat}
open PySem PySem.Spec PyProof.Rows
def A0(T:String):Prop:=T="tuple"\/T="bool"\/T="int"\/T="str"
end L2
namespace L2
variable{nk:Nat}
end L2
namespace L2
variable{nk:Nat}
open PySem PySem.Spec PyProof.Rows
end L2
namespace L2
variable{nk:Nat}
open PySem PySem.Spec PyProof.Rows
structure QE(X:Cx)(e:Expr)(t:TE):Prop where
 h:PE X e t
structure QA(X:Cx)(es:List Expr)(t:TA):Prop where
 h:PA X es t
structure QS(X:Cx)(s:Stmt)(t:TS):Prop where
 h:PS X s t
structure QG(X:Cx)(e:Expr)(t:TG):Prop where
 h:PG X e t
structure QI(X:Cx)(tg it:Expr)(t:TI):Prop where
 h:PI X tg it t
structure MP(X:Cx)(es:List Expr)(t:TT):Prop where
 h:AT X es t
structure NS(X:Cx)(f:Value->Value->Sem Value)(r:R2):Prop where
 h:mR X f r
structure Ke(X:Cx)(f:Value)(r:List V->Hp->VK->Prop):Prop where
 h:jg X f r
section
variable{X:Cx}{a b c e o:Expr}{es:List Expr}{ta tb tc te to:TE}{t u:TA}{pos p p2 iy dZ:Pos}{x name:Str}{j:Nat}{tA LS:TT}{eS:List Expr}
variable{st:Stmt}{sr:List Stmt}{ts us:TS}{g:TG}
variable{tg:Expr}
end
section
variable{X:Cx}{tg dq c:Expr}{body:List Stmt}{wi:TI}{g:TG}{tb:TS}{pos:Pos}{tA:TT}
end
end L2
namespace L2
variable{nk:Nat}
open PySem PySem.Spec PyProof.Rows
end L2
namespace L2
variable{nk:Nat}
open PySem PySem.Spec PyProof.Rows
end L2
namespace L2
open PySem PySem.Spec PyProof.Rows
def ip(env:Env):List (Str×NameKind)->List (Str×Addr)->List (Str×Addr)
 |[],cs=>cs
 |(n,k)::r,cs=>ip env r (if k==.free then(n,(env.cells.lookup n).getD 0)::cs else cs)
theorem Kf{scope:Scope}{env:Env}(h:∀x∈scope.names,x.2=.free->∃c,env.cells.lookup x.1=some c):closureFor scope env=pure (ip env scope.names []):=by
 unfold closureFor
 have key:∀(ns:List (Str×NameKind)) (cs:List (Str×Addr)),(∀x∈ns,x.2=.free->∃c,env.cells.lookup x.1=some c) ->
   (forIn ns cs fun(x:Str×NameKind) (r:List (Str×Addr))=>if (x.2==NameKind.free)=true then(do let a <- cellOf env x.1;pure (ForInStep.yield ((x.1,a)::r)))else(pure (ForInStep.yield r):Sem _))=pure (ip env ns cs):=by
  intro ns
  induction ns with
  |nil=>intro cs _;rfl
  |cons y r ih=>
   intro cs hc
   obtain⟨n,k⟩:=y
   rw[List.forIn_cons]
   have ihr:=fun cs=>ih cs fun x hx=>hc x (aW _ hx)
   by_cases hk:(k==NameKind.free)=true
   ·obtain⟨c,e⟩:=hc (n,k) bX (lz hk)
    have e2:cellOf env n=pure c:=by unfold cellOf;rw[e]
    show((if (k==NameKind.free)=true then _ else _) >>= _)=pure (ip env r (if (k==NameKind.free)=true then _ else _))
    rw[am hk,am hk,e2]
    simp only[pure_bind]
    have e3:(env.cells.lookup n).getD 0=c:=by rw[show env.cells.lookup n=some c from e];rfl
    rw[e3]
    exact ihr _
   ·show((if (k==NameKind.free)=true then _ else _) >>= _)=pure (ip env r (if (k==NameKind.free)=true then _ else _))
    rw[au hk,au hk]
    simp only[pure_bind]
    exact ihr _
 have:=key scope.names [] h
 dsimp only
 rw[this];simp only[pure_bind]
theorem t_{env:Env}:∀(ns:List (Str×NameKind)) (cs:List (Str×Addr)),(∀x∈ns,x.2=.free->∃c,env.cells.lookup x.1=some c)->(∀y∈cs,env.cells.lookup y.1=some y.2)->∀y∈ip env ns cs,env.cells.lookup y.1=some y.2
 |[],cs,_,h=>h
 |(n,k)::r,cs,hf,h=>by
  refine t_ r _ (fun x hx=>hf x (aW _ hx)) ?_
  by_cases hk:(k==NameKind.free)=true
  ·rw[am hk]
   intro y hy
   rcases aC.mp hy with rfl|hy
   ·obtain⟨c,e⟩:=hf (n,k) bX (lz hk)
    show env.cells.lookup n=some ((env.cells.lookup n).getD 0)
    rw[show env.cells.lookup n=some c from e];rfl
   ·exact h y hy
  ·rw[au hk];exact h
theorem rQ{env:Env}:∀(ns:List (Str×NameKind)) (cs:List (Str×Addr)) (y:Str×Addr),y∈cs->y∈ip env ns cs
 |[],_,_,h=>h
 |(n,k)::r,cs,y,h=>by
  refine rQ r _ y ?_
  split
  ·exact aW _ h
  ·exact h
theorem rR{env:Env}:∀(ns:List (Str×NameKind)) (cs:List (Str×Addr)) (x:Str),(x,NameKind.free)∈ns->∃c,(x,c)∈ip env ns cs
 |[],_,_,h=>by simp at h
 |(n,k)::r,cs,x,h=>by
  rcases aC.mp h with e|h
  ·obtain⟨e1,e2⟩:=nj e
   subst e1;subst e2
   exact⟨_,rQ r _ (x,_) (by rw[am (by rfl:(NameKind.free==NameKind.free)=true)];exact bX)⟩
  ·exact rR r _ x h
theorem rS{β:Type}:∀{l:List (Str×β)} {x:Str} {b:β},(x,b)∈l->∃c,l.lookup x=some c
 |(y,c)::r,x,b,h=>by
  rw[i6]
  cases hx:x==y with
  |true=>exact⟨c,rfl⟩
  |false=>
   rcases aC.mp h with e|h
   ·cases e;simp at hx
   ·exact rS h
theorem qC{env:Env}{g:Str×NameKind->Bool}:∀{names:List (Str×NameKind)} {x:Str},names.lookup x=some .free ->
  (names.map fun y=>if g y then(y.1,NameKind.cell)else y).lookup x=some .cell\/(names.map fun y=>if g y then(y.1,NameKind.cell)else y).lookup x=some .free
 |[],_,h=>by simp at h
 |(n,k)::r,x,h=>by
  rw[i6]at h
  rw[a7]
  have e1:∀y:Str×NameKind,(if g y then(y.1,NameKind.cell)else y).1=y.1:=fun y=>by split<;>rfl
  have e2:∀(y:Str×NameKind) (l:List (Str×NameKind)),(y::l).lookup x=if (x==y.1)=true then some y.2 else l.lookup x:=fun y l=>by
   obtain⟨a,b⟩:=y
   rw[i6]
   cases x==a<;>rfl
  rw[e2,e1]
  cases hx:x==n with
  |true=>
   rw[hx]at h
   cases h
   rw[am rfl]
   by_cases hg:g (n,.free)=true
   ·rw[am hg];exact .inl rfl
   ·rw[au hg];exact .inr rfl
  |false=>
   rw[hx]at h
   rw[au (by exact cD)]
   exact qC (env:=env) h
def zE(dn:List (Str×NameKind))(sn:List (Str×NameKind))(nm:List Str)(cap:List (Option Nat))(N:List Str):Bool:=
 (sn.all fun x=>!(x.2==.local)||sn.lookup x.1==some .local)&&(sn.all fun y=>!(y.2==.cell))&&(sn.all fun x=>!(x.2==.free)||dn.lookup x.1==some .cell)&&(cap.length==nm.length) &&
 ((List.range cap.length).all fun i=>match cap[i]? with
  |some (some j)=>(match nm[i]?,N[j]? with
   |some x,some y=>x==y&&dn.lookup x==some .cell&&sn.lookup x==some .free
   |_,_=>false)
  |_=>true)
structure MQ(X:Cx)(scope:Scope)(nm:List Str)(cap:List (Option Nat)):Prop where
 clos:closureFor scope X.env=pure (ip X.env scope.names [])
 cl:∀x c,(ip X.env scope.names []).lookup x=some c->X.env.cells.lookup x=some c
 nms:∀x∈scope.names,x.2=.local->scope.names.lookup x.1=some .local
 cell:∀y∈scope.names,y.2≠.cell
 has:∀x,((relabel scope X.env).names.lookup x=some .cell\/(relabel scope X.env).names.lookup x=some .free)->∃c,(ip X.env scope.names []).lookup x=some c
 cp:∀(i j:Nat),cap[i]?=some (some j)->∃x,nm[i]?=some x/\X.N[j]?=some x/\rN X scope (ip X.env scope.names []) x
 len:cap.length=nm.length
theorem Kg{X:Cx}{scope:Scope}{nm:List Str}{cap:List (Option Nat)}(hf:∀x,X.env.scope.names.lookup x=some .cell->∃c,X.env.cells.lookup x=some c)(hB:zE X.env.scope.names scope.names nm cap X.N=true):MQ X scope nm cap:=by
 simp only[zE,cq,List.all_eq_true,Bool.or_eq_true,e7,dv,cQ]at hB
 obtain⟨⟨⟨⟨b1,b2⟩,b3⟩,b4⟩,b5⟩:=hB
 have has:∀x∈scope.names,x.2=.free->∃c,X.env.cells.lookup x.1=some c:=fun x hx hk=>by
  rcases b3 x hx with z|z
  ·exact absurd hk z
  ·exact hf _ z
 have kh:∀x c,(ip X.env scope.names []).lookup x=some c->X.env.cells.lookup x=some c:=fun x c h=>t_ scope.names [] has (by simp) (x,c) (hV h)
 have hin:∀x,(x,NameKind.free)∈scope.names->∃c,(ip X.env scope.names []).lookup x=some c:=fun x h=>let ⟨_,q⟩:=rR (env:=X.env) scope.names [] x h;rS q
 have hmap:(relabel scope X.env).names=scope.names.map fun y=>if (y.2==.free&&X.env.scope.kind==.function&&X.env.kindOf y.1==some .cell)then(y.1,NameKind.cell)else y:=by
  show scope.names.map _=_
  refine cw fun y _=>?_
  obtain⟨a,b⟩:=y
  rfl
 have fr:∀x,((relabel scope X.env).names.lookup x=some .cell\/(relabel scope X.env).names.lookup x=some .free)->(x,NameKind.free)∈scope.names:=fun x h=>by
  have h':∃k,(x,k)∈(relabel scope X.env).names/\(k=.cell\/k=.free):=by
   rcases h with h|h
   ·exact⟨_,hV h,.inl rfl⟩
   ·exact⟨_,hV h,.inr rfl⟩
  obtain⟨k,hm,hk⟩:=h'
  rw[hmap]at hm
  obtain⟨y,hy,e⟩:=bC.mp hm
  obtain⟨a,b⟩:=y
  by_cases hb:b=.free
  ·subst hb
   have:a=x:=by split at e<;>(cases e;rfl)
   subst this;exact hy
  ·rw[au (by simp[hb])]at e
   cases e
   rcases hk with rfl|rfl
   ·exact absurd rfl (b2 _ hy)
   ·exact absurd rfl hb
 refine⟨Kf has,kh,fun x hx hk=>(b1 x hx).resolve_left fun z=>z hk,fun y hy=>b2 y hy,fun x hx=>hin x (fr x hx),fun i j e=>?_,b4⟩
 have hi':i<cap.length:=(al.mp e).1
 have q:=b5 i (dr.mpr hi')
 rw[e]at q
 dsimp only at q
 cases hx:nm[i]? with
 |none=>rw[hx]at q;simp at q
 |some x=>
  cases hy:X.N[j]? with
  |none=>rw[hx,hy]at q;simp at q
  |some y=>
   rw[hx,hy]at q
   simp only[cq,dv]at q
   obtain⟨⟨rfl,q1⟩,q2⟩:=q
   refine⟨x,rfl,rfl,.inr (.inl q1),(by rw[q1];decide),?_,?_⟩
   ·obtain⟨c,hc⟩:=hin x (hV q2)
    rw[hc,kh _ _ hc]
   ·rw[hmap];exact qC (env:=X.env) q2
theorem Hf{X:Cx}{oH tg dq:Expr}{lJ:List Expr}{scope:Scope}{pos:Pos}{nm:List Str}{cap:List (Option Nat)}{wi:TI}{g:TG}{tc:TT}{te:TE}{m:Nat}(iQ:X.calm=true)
  (oG:X.env.cells=cellsFrom m X.env.scope.names []) (iS:scope.kind=.function) (hB:zE X.env.scope.names scope.names nm cap X.N=true)
  (hi:QI X tg dq wi) (hg:∀cl C s0 H0 fp,QG (c_ X nm scope cl C s0 H0 fp) tg g) (ht:∀cl C s0 H0 fp,MP (c_ X nm scope cl C s0 H0 fp) lJ tc)
  (he:∀cl C s0 H0 fp,QE (c_ X nm scope cl C s0 H0 fp) oH te) (hs:∀x,foldedSetIterable dq X.env x=pure x:=by intro _;rfl) :
  QE X (.ListComp oH [⟨tg,dq,lJ,0⟩] scope pos) (rM cap wi g tc te):=by
 have F:=Kg (nm:=nm) (cap:=cap) (fun x z=>by rw[oG];exact lg z) hB
 exact⟨D7 iQ F.clos F.cl iS F.nms F.cell F.has F.cp F.len hi.h (fun C s0 H0 fp=>(hg _ C s0 H0 fp).h) (fun C s0 H0 fp=>(ht _ C s0 H0 fp).h) (fun C s0 H0 fp=>(he _ C s0 H0 fp).h) hs⟩
def Ea(K:Frag):List V->Hp->VK->Prop:=fun xs H Q=>∃(p:Addr) (ys:List (List Nat)),xs=[.ref p]/\pW K H p (ys.map fun l=>V.str (tx l))/\ys.length<64 /\
 ∀zs:List (List Nat),zs.Perm ys->sortedS (zs.map tx)=true->∀l H2,H l=none->H2=gb H l (.lst (zs.map fun l=>V.str (tx l)))->Q (.ref l) H2
theorem yA(z:Str):tx z.cps.toList=z:=by cases z;rfl
theorem rT{vs:List Value}{xs:Array (Value×Value)}(hp:xs.Perm (pairsOf vs)):∀v∈(xs.map (·.2)).toList,v∈vs:=fun v hv=>by
 have hl:xs.toList.Perm (vs.zip vs):=by rw[<- pairsOf_toList];exact eM.mp hp
 rw[Array.toList_map]at hv
 obtain⟨p,hp',rfl⟩:=bC.mp hv
 have:=mem_zip_self (hl.mem_iff.mp hp')
 rw[<- this.1];exact this.2
theorem uP{prog:Program}{w:World}{A:Around}{E:Value->Shared->Prop}{s:Shared}{l:Addr}{vs:List Value}{ss:List Str}{Q:Value->Shared->Prop}(hl:s.heap.IsList l vs.toArray)(hS:StrsAre vs ss)(Jx:vs.length<64)
  (h:∀(out:Array Value) (Dx:List Str),(∀v∈out.toList,v∈vs)->StrsAre out.toList Dx->Dx.Perm ss->sortedS Dx=true->Q (.ref (s.heap.objs.size+1)) { s with heap:=sortedAll s.heap vs out }) :
  wpAny (model prog w) A (call (.builtin "sorted") [.ref l]) Q E s:=by
 refine sortedK ol hl hS.keysOf (fun v₁ v₂ eS e=>pR (by rw[<- e];exact hS)) Jx fun bp hp hs=>?_
 obtain⟨Dx,h1,h2,h3⟩:=nn hS hp hs
 exact h _ Dx (rT hp) h1 h2 h3
theorem gN.sub{n:Nat}{vs us:List Value}(h:gN n vs)(hs:∀v∈us,v∈vs):gN n us:=fun x t hx=>h x t (hs _ hx)
theorem tJ{X:Cx}:Ke X (.builtin "sorted") (Ea X.K):=⟨by
 intro ae s σ H xs us Q I r h
 obtain⟨p,ys,rfl,hS,Jx,q⟩:=h
 obtain⟨u,rfl,ru⟩:=oR r
 cases ru
 obtain⟨bv,rv,pl,hz⟩:=I.list hS
 have hl:=rv.length
 rw[az]at hl
 refine uP (ss:=ys.map tx) pl.isList (rP (by simpa using rv)) (by omega) fun out Dx hm h1 h2 h3=>?_
 obtain⟨ep,hat⟩:=sortedAll_at s.heap bv out
 have qP:H (s.heap.objs.size+1)=none:=I.hok.fresh (a8 _)
 have hmap:(Dx.map fun z=>z.cps.toList).map tx=Dx:=by
  rw[bb]
  have:(tx∘fun z:Str=>z.cps.toList)=id:=funext fun z=>yA z
  rw[this,ij]
 have hperm:(Dx.map fun z=>z.cps.toList).Perm ys:=by
  have e:=h2.map fun z:Str=>z.cps.toList
  rw[bb]at e
  have:((fun z:Str=>z.cps.toList)∘tx)=id:=funext fun l=>by simp[tx]
  rw[this,ij]at e
  exact e
 have hvals:b7 s.toks ((Dx.map fun z=>z.cps.toList).map fun l=>V.str (tx l)) out.toList:=by
  have e:=lM h1 ((oY rv).sub hm)
  rw[<- hmap,bb]at e
  exact e
 refine⟨.ref (s.heap.objs.size+1),_,I.laid (t':=s.toks) (fun b o e=>sortedAll_old e) (a8 _) ?_,rfl,q _ hperm (by rw[hmap];exact h3) _ _ qP rfl⟩
 refine⟨?_,out.toList,ep,hvals,hat⟩
 rw[az,hperm.length_eq]
 exact aA (dQ Jx) (by decide)⟩
theorem bi.turned2{X:Cx}{ae:List (Addr×Obj)}{σ:St}{H:Hp}{s:Shared}{h':Heap}{t':Nat}{e it:Addr}(I:bi X ae σ H s)(k:∀b o,b≠e->b≠it->s.heap.get? b=some o->h'.get? b=some o)
  (he:∃o,h'.get? e=some o) (f1:qQ X ae H e) (f2:qQ X ae H it) (hk:s.toks<=t':=by first|exact ah _|exact a8 _|assumption|omega):bi X ae σ H { s with heap:=h',toks:=t' }:=by
 have nit:∀b u,H b=some u->b≠e/\b≠it:=fun b u q=>⟨fun z=>(by rw[z,f1.1]at q;cases q),fun z=>(by rw[z,f2.1]at q;cases q)⟩
 have nin:∀b,b∉[e,it]->b≠e/\b≠it:=fun b h=>⟨fun z=>h (by simp[z]),fun z=>h (by simp[z])⟩
 refine I.step (g':=s.gens) (d':=s.drawn) (ch:=[e,it]) (fun b hb=>?_) (fun b o _ _ hc q _=>k b o (nin b hc).1 (nin b hc).2 q) (fun b o _ _ hc q _=>⟨o.slots,k b o (nin b hc).1 (nin b hc).2 q⟩) (fun _ _ _ _ n=>n)
  (fun b o hc q=>⟨o,k b o (nin b hc).1 (nin b hc).2 q⟩) (fun _ _ q=>q) (fun _ _ _ q=>q) (fun b ps q=>⟨#[],by rw[q];simp⟩) (fun m hm=>?_) (fun b u q=>?_) I.bare hk
 ·have z:b=e\/b=it:=by simpa using hb
  rcases z with rfl|rfl
  ·exact⟨f1.2.2.2.1,f1.2.1,f1.2.2.2.2.1,f1.2.2.2.2.2⟩
  ·exact⟨f2.2.2.2.1,f2.2.1,f2.2.2.2.2.1,f2.2.2.2.2.2⟩
 ·obtain⟨o,es,ep,ho,r⟩:=hm
  exact⟨o,es,ep,k _ o (Ne.symm f1.2.1) (Ne.symm f2.2.1) ho,r⟩
 ·refine((I.hok b u q).up hk).stay (fun c v hc z=>?_) (fun _ z=>z) fun _ _ z=>z
  rcases hc with y|y
  ·rw[y]at z ⊢;exact k b v (nit b u q).1 (nit b u q).2 z
  ·exact k c v (nit c _ y).1 (nit c _ y).2 z
section
variable{prog:Program}{w:World}{A:Around}{E:Value->Shared->Prop}{s:Shared}
theorem tK{it t:Addr}{i:Nat}{bv:Array Value}{x:Value}{Q:Value->Shared->Prop}(st:s.heap.IsTupleIter it t i)(ht:s.heap.IsTuple t bv)(hx:bv[i]?=some x)
  (q:∀g,g.IsTupleIter it t (i+1)->Heap.SameBut it s.heap g->Q x { s with heap:=g }):wpAny (model prog w) A (Builtin.SmallTypes.nextOf (.ref it)) Q E s:=by
 obtain⟨ob,e1,e2,e3⟩:=id st
 obtain⟨ot,g1,_,nt,g3⟩:=ht
 have T:=st.typeIs
 unfold Builtin.SmallTypes.nextOf
 refine aa (bT (name:=Str.ofString "__next__") T eN (bD eN T jI ?_ (jt _)))
 show wpAny _ _ (field (.ref it) 0 >>= _) _ _ s
 refine aa (dX e1 e3 (x:=.ref t) rfl ?_)
 dsimp only
 rw[au (show ¬ ((Value.ref t==Value.none)=true)from cD)]
 refine aa (dX e1 e3 (x:=.int i 0) rfl ?_)
 dsimp only
 refine aa (j4 g1 g3 ?_)
 simp only[bP,hx]
 refine aa (no e1 e3 (by simp) (ai ⟨x,rfl,ai (q _ ?_ (d9 ..))⟩))
 exact⟨_,bF _ e1 (mG (g9 e3 _)),(Obj.cls_mapFields ..).trans e2,by rw[g9 e3];simp[rawInt]⟩
theorem oZ{it t:Addr}{i:Nat}{bv:Array Value}{Q:Value->Shared->Prop}(hh:A.handled=none)(st:s.heap.IsTupleIter it t i)(ht:s.heap.IsTuple t bv)(hx:bv[i]?=none)
  (q:∀g e,Heap.ExtBut it s.heap g->(∃o,g.get? e=some o/\o.cls=.type "StopIteration")->E (.ref e) { s with heap:=g }):wpAny (model prog w) A (Builtin.SmallTypes.nextOf (.ref it)) Q E s:=by
 obtain⟨ob,e1,e2,e3⟩:=id st
 obtain⟨ot,g1,_,nt,g3⟩:=ht
 have T:=st.typeIs
 unfold Builtin.SmallTypes.nextOf
 refine aa (bT (name:=Str.ofString "__next__") T eN (bD eN T jI ?_ (jt _)))
 show wpAny _ _ (field (.ref it) 0 >>= _) _ _ s
 refine aa (dX e1 e3 (x:=.ref t) rfl ?_)
 dsimp only
 rw[au (show ¬ ((Value.ref t==Value.none)=true)from cD)]
 refine aa (dX e1 e3 (x:=.int i 0) rfl ?_)
 dsimp only
 refine aa (j4 g1 g3 ?_)
 simp only[bP,hx]
 refine aa (dL (aa (no e1 e3 (by simp) (aa ?_))))
 simp only[newExc,newTuple]
 refine aa (bx (aa (m:=firstArgMember _ _) (wpAny_of_eq (a:=Value.none) (by first|rfl|(simp only[firstArgMember];rfl)) (bx ?_ (by size_fits)))) (by size_fits))
 simp only[raiseNew]
 refine aa (wpAny_handled ?_)
 rw[show A.in1.handled=none from hh]
 exact aa (ai (wpAny_throw (q _ _ (((d9 ..).extBut.push _).push _) ⟨_,ar _ rfl,rfl⟩)))
end
theorem A1{prog:Program}{w:World}{A:Around}(hh:A.handled=none)(it t:Addr)(yn:t≠it)(bv:Array Value) :
  Draws prog w A it [it,t] bv.size (fun i v=>bv[i]?=some v) (fun i h=>h.IsTupleIter it t i/\h.IsTuple t bv) where
 live:=fun _ _ st=>let ⟨o,e,_⟩:=st.1;⟨o,e⟩
 frame:=fun _ h h' st k=>⟨st.1.at fun o e=>k it (by simp) o e,let ⟨o,e,r⟩:=st.2;⟨o,k t (by simp) o e,r⟩⟩
 item:=fun i s Q E hi st q=>tK st.1 st.2 (x:=bv[i]) (by simp[hi]) fun g a b=>q _ g s.toks (by simp[hi]) ⟨a,st.2.extBut b.extBut yn⟩ b
 done:=fun s Q E st q=>oZ hh st.1 st.2 (by simp) q
open AutoSeq1 (wpAny_loadPart')
def Nq(K:Frag)(a:Addr):It:=
 ⟨fun i H=>∃xs x,gH K H a xs/\xs[i]?=some x,fun i H v H'=>∃p,H p=none/\v=.ref p/\∀xs x,gH K H a xs->xs[i]?=some x->H'=gb H p (.tup [.int i,x]),fun i H=>∃xs,gH K H a xs/\xs.length<=i⟩
theorem zF{P:Program}{w:World}{K:Frag}{C8:List Expr}{kk:Nat}{pos:Pos}(a it e:Addr)(Nd:e≠it) :
  zq P w K (.Tuple C8 kk pos) (Nq K a) [e,it] e (fun i h=>(∃old,IsEnum h e it i old)/\h.IsTupleIter it a i) where
 mem:=by simp
 obj:=fun i h st b hb=>by
  have z:b=e\/b=it:=by simpa using hb
  rcases z with rfl|rfl
  ·obtain⟨old,q⟩:=st.1
   exact⟨_,q,fun v z=>by cases z⟩
  ·obtain⟨o,q,c,d⟩:=st.2
   exact⟨o,q,fun v z=>by rw[d]at z;cases z⟩
 keep:=fun i h h' st k=>⟨let ⟨old,q⟩:=st.1;⟨old,k e (by simp) _ q⟩,st.2.at fun o q=>k it (by simp) o q⟩
 item:=by
  intro X hP hw hK hc i ae s σ H E I hf st hg
  subst hP hw hK
  obtain⟨xs,x,hq,hx⟩:=hg
  obtain⟨bv,rv,p,hz⟩:=I.tuple hq
  obtain⟨u,hu,ru⟩:=rv.get hx
  obtain⟨⟨old,he⟩,lK⟩:=st
  have hT:s.heap.IsTuple a bv.toArray:=p
  obtain⟨oa,ha,hca,_⟩:=id hT
  obtain⟨oi,hi,hci,_⟩:=id lK
  have nai:a≠it:=fun z=>by
   rw[z,hi]at ha;cases ha
   rw[hci]at hca;injection hca with z;exact absurd z (by decide)
  have nae:a≠e:=fun z=>by
   rw[z,he]at ha;cases ha
   injection hca with z;exact absurd z (by decide)
  have hlt:i<bv.toArray.size:=by
   have:=(al.mp hu).1
   simpa using this
  refine up (wpAny_pyNext_enum_itemD (A1 (A:=X.A.in1) (I.ok.hd hc) it a nai bv.toArray) he ⟨lK,hT⟩ hlt Nd (by simp[Nd,Ne.symm nae]) fun x' g tk hx' ho' bp htup hsz hk Jw=>⟨_,rfl,?_⟩)
  have ex:x'=u:=by
   have e1:bv[i]?=some x':=by simpa using hx'
   rw[hu]at e1;exact(be e1).symm
  subst ex
  refine wpAny_letOwnedTupleGo_enum ho' fun g2 Dv hs2=>?_
  have qP:H s.heap.objs.size=none:=I.hok.fresh (ah _)
  have I1:bi X ae σ (gb H s.heap.objs.size (.tup [.int i,x])) { s with heap:=s.heap.push { cls:=.type "tuple",data:=.seq #[.int i tk,x'] },toks:=tk+1 }:=I.laid (fun b o q=>ag _ q) (ah _)
   ⟨by show 2<=sizeLine;decide,[.int i tk,x'],.cons ⟨tk,rfl⟩ (.cons (ru.up Jw) .nil),⟨_,ar _ rfl,rfl,_,rfl⟩⟩
  have nf:∀b∈[e,it],b≠s.heap.objs.size:=fun b hb=>by
   have z:b=e\/b=it:=by simpa using hb
   rcases z with rfl|rfl
   ·exact aK (av he)
   ·exact aK (av hi)
  have fp:∀b∈[e,it],qQ X ae (gb H s.heap.objs.size (.tup [.int i,x])) b:=fun b hb=>by
   obtain⟨f0,f⟩:=hf b hb
   exact⟨by rw[cx (nf b hb)];exact f0,f⟩
  have he2':IsEnum g2 e it ((i:Int)+1) x':=Dv
  have I2:bi X ae σ (gb H s.heap.objs.size (.tup [.int i,x])) { s with heap:=g2,toks:=tk+1 }:=I1.turned2 (t':=tk+1) (fun b o hbe hbi q=>?_) ⟨_,he2'⟩ (fp e (by simp)) (fp it (by simp))
  ·refine⟨.ref s.heap.objs.size,_,I2,rfl,⟨_,qP,rfl,fun ys y hy hy'=>?_⟩,⟨⟨x',by simpa using he2'⟩,bp.1.extBut hs2.extBut (Ne.symm Nd)⟩,fun b hb=>(fp b hb).1⟩
   have e1:=I.tuple_inj hy hq
   subst e1
   rw[hx]at hy';cases hy';rfl
  ·have q':(s.heap.push { cls:=.type "tuple",data:=.seq #[.int i tk,x'] }).get? b=some o:=q
   refine hs2.extBut b o hbe ?_
   by_cases hb:b=s.heap.objs.size
   ·subst hb
    have e1:=ar s.heap (o:={ cls:=.type "tuple",data:=.seq #[.int i tk,x'] }) rfl
    rw[e1]at q';cases q'
    exact htup
   ·rw[kI _ _ _ hb]at q'
    exact hk b o hbe hbi q'
 done:=by
  intro X hP hw hK hc i ae s σ H E I hf st hg
  subst hP hw hK
  obtain⟨xs,hq,hx⟩:=hg
  obtain⟨bv,rv,p,hz⟩:=I.tuple hq
  obtain⟨⟨old,he⟩,lK⟩:=st
  have hT:s.heap.IsTuple a bv.toArray:=p
  have hl:=rv.length
  have hT':Shared.TypeIs s (.ref e) "enumerate":=⟨_,he,rfl⟩
  unfold pyNext
  refine aa (gO (bT (name:=Str.ofString "__next__") hT' mH (bD mH hT' F.entry_enumerate_next ?_ (F.args_enumerate_next_1 _))))
  show wpAny _ _ (field (.ref e) 2 >>= _) _ _ _
  refine aa (dX he rfl (x:=.ref it) rfl (aa (oZ (show X.A.in1.handled=none from I.ok.hd hc) lK hT (by simp;omega) fun g y hx' hy=>?_)))
  obtain⟨o,ho,kh⟩:=hy
  refine aa (gE (T:="StopIteration") (b:=true) ⟨o,ho,kh⟩ nq (ai ⟨rfl,?_⟩))
  obtain⟨f0,f1,f2,f3,f4,f5⟩:=hf it (by simp)
  exact I.turned (t':=s.toks) (fun b o hb q=>hx' b o hb q) f0 f1 f3 f4 f5
 self:=fun A i s Q E st h=>let ⟨_,q⟩:=st.1;wpAny_pyIter_enum q h
open AutoSeq1 (wpAny_loadPart')
abbrev o8(t:Addr):Obj:={ cls:=.type "tuple_iterator",data:=.fields #[.ref t,.int 0 0] }
abbrev xj(it:Addr):Obj:={ cls:=.type "enumerate",data:=.fields #[.none,.bool false,.ref it,rawInt 0,.none,.none] }
theorem Hg(t:Addr)(bv:Array Value)(n:Nat)(dc:Option Addr)(sl:Array (Option Value)) :
  Meets (Builtin.«enumerate.__new__» ⟨[.type "enumerate",.ref t],[]⟩) (fun _ R s=>s.heap.get? t=some { cls:=.type "tuple",dict:=dc,data:=.seq bv n,slots:=sl } /\
   R (.ok (.ret (.ref (s.heap.push (o8 t)).objs.size))) { s with heap:=(s.heap.push (o8 t)).push (xj s.heap.objs.size) }):=
 .of_wp fun prog w A R s h=>by
  obtain⟨hp,g,d,tk,os⟩:=s
  obtain⟨ht,h⟩:=h
  have sb:=sub_enumerate
  have hT:Heap.IsTuple (Shared.heap ⟨hp,g,d,tk,os⟩) t bv:=⟨_,ht,rfl,n,rfl⟩
  wp_walk using cJ ht
  refine wpAny_stack_any fun st=>ai ?_
  split
  ·rename_i c _ _ _ _ _
   cases(c==Value.type "enumerate")<;>(wp_walk using cJ ht,g7 hT;exact⟨_,rfl,h⟩)
  ·wp_walk using cJ ht,g7 hT
   exact⟨_,rfl,h⟩
section
variable{prog:Program}{w:World}{A:Around}{E:Value->Shared->Prop}{s:Shared}
theorem tL{t:Addr}{bv:Array Value}{Q:Value->Shared->Prop}(hT:s.heap.IsTuple t bv)
  (q:∀g,IsEnum g (s.heap.objs.size+1) s.heap.objs.size 0 .none->g.IsTupleIter s.heap.objs.size t 0->(∀b o,s.heap.get? b=some o->g.get? b=some o)->Q (.ref (s.heap.objs.size+1)) { s with heap:=g }) :
  wpAny (model prog w) A (call (.type "enumerate") [.ref t]) Q E s:=by
 obtain⟨⟨c,dc,dt,sl⟩,ht,hc,n,hd⟩:=hT
 obtain rfl:c=.type "tuple":=hc
 obtain rfl:dt=.seq bv n:=hd
 refine callType_new F.called_enumerate (by decide) (F.typeCall_enumerate_1 _) (F.newCall_enumerate_1 _) (fun ob=>F.args_object_init_2 ob _) F.entry_enumerate_new (Hg t bv n dc sl) ⟨ht,?_⟩
 have z:(s.heap.push (o8 t)).objs.size=s.heap.objs.size+1:=bh ..
 show _/\_
 rw[z]
 have e1:IsEnum ((s.heap.push (o8 t)).push (xj s.heap.objs.size)) (s.heap.objs.size+1) s.heap.objs.size 0 .none:=by
  have y:=ar (s.heap.push (o8 t)) (o:=xj s.heap.objs.size) rfl
  rw[z]at y;exact y
 exact⟨⟨_,e1,rfl⟩,q _ e1 ⟨_,ag _ (ar _ rfl),rfl,rfl⟩ fun b o y=>ag _ (ag _ y)⟩
end
section
variable{X:Cx}
def MR(K:Frag)(ta:TA):TI:=fun σ H R=>ta σ H fun vs H1=>∃a,vs=[.ref a]/\(∃xs,gH K H1 a xs)/\R (Nq K a) H1
theorem A2{a:Expr}{ta:TA}{p pos tp:Pos}{C8:List Expr}{kk:Nat}(hm:X.mg "enumerate"=none)(ha:QA X [a] ta)(hg:Gl X "enumerate":=by rfl)(hs:starEach [a] X.env=[(false,eval a X.env)]:=by rfl) :
  QI X (.Tuple C8 kk tp) (.Call (.Name "enumerate" p) [a] [] pos) (MR X.K ta):=⟨by
 intro ae s σ H R I h
 refine Call_ (lL I hg hm boot_enumerate (c9 (jx (ha.h pos ae s σ H _ I h) fun us s1 kt1 ⟨vs,H1,I1,r1,q1⟩=>?_) hs rfl))
 obtain⟨t,e,⟨xs,hq⟩,q⟩:=q1
 subst e
 obtain⟨u,rfl,ru⟩:=oR r1
 cases ru
 obtain⟨bv,rv,pt,hz⟩:=I1.tuple hq
 refine tL (show s1.heap.IsTuple t bv.toArray from pt) fun g e1 e2 kp=>?_
 refine wpAny_pyIter_enum e1 ?_
 refine⟨s1.heap.objs.size+1,[s1.heap.objs.size+1,s1.heap.objs.size],_,_,H1,rfl,I1.kept (t':=s1.toks) kp,zF t _ _ (Nat.succ_ne_self _),⟨⟨_,e1⟩,e2⟩,fun b hb=>?_,q⟩
 have z:b=s1.heap.objs.size+1\/b=s1.heap.objs.size:=by simpa using hb
 rcases z with rfl|rfl
 ·exact I1.fpOk (a8 _) (I1.hok.fresh (a8 _))
 ·exact I1.fpOk (ah _) (I1.hok.fresh (ah _))⟩
end
section
variable{cap:List (Option Nat)}{g:TG}{tc:TT}{te:TE}{σ:St}{H1:Hp}{Q:VK}{n:Nat}
end
theorem uc:∀(p:Nat) (m:List Nat),risingS (tx [p]) (m.map fun c=>tx [c])=true->(∀c∈m,p<=c)/\m.Pairwise (· <= ·)
 |p,[],_=>⟨fun c h=>by simp at h,.nil⟩
 |p,c::r,h=>by
  have h':(!ltCps (tx [c]).cps.toList (tx [p]).cps.toList&&risingS (tx [c]) (r.map fun c=>tx [c]))=true:=h
  rw[cq]at h'
  obtain⟨a,b⟩:=h'
  obtain⟨b1,b2⟩:=uc c r b
  have hpc:p<=c:=by
   rw[ltCps_eq]at a
   have a':(!decide ([c]<[p]))=true:=a
   have:=of_decide_eq_false (e7 _▸a')
   rcases fS c p with z|z
   ·exact absurd (List.Lex.rel z) this
   ·exact z
  refine⟨fun x hx=>?_,a_.mpr ⟨b1,b2⟩⟩
  rcases aC.mp hx with rfl|hx
  ·exact hpc
  ·exact aA hpc (b1 x hx)
theorem vH:∀(m:List Nat),sortedS ((m.map fun c=>[c]).map tx)=true->m.Pairwise (· <= ·)
 |[],_=>.nil
 |c::r,h=>by
  have h':risingS (tx [c]) ((r.map fun c=>[c]).map tx)=true:=h
  rw[bb]at h'
  obtain⟨a,b⟩:=uc c r h'
  exact a_.mpr ⟨a,b⟩
theorem dz:Slot "set_iterator" "__next__" "set_iterator.__next__":=.of (owner:="set_iterator") (n:="__next__") (by rw[typeLookup_type,mI];kernel_rfl) (by decide +kernel) (by decide +kernel) (by decide +kernel) (by first|exact .inl (by decide +kernel)|exact .inr (by decide +kernel)) (by rw[cH];kernel_rfl)
theorem km:entryFor table "set_iterator.__next__"=some Builtin.«set_iterator.__next__»:=entryFor_of_tree (by kernel_rfl)
theorem ko(a:Value):argsOk "set_iterator.__next__" ⟨[a],[]⟩:=by unfold argsOk;kernel_rfl
theorem qD:entryFor table "set.__iter__"=some Builtin.«frozenset.__iter__»:=entryFor_alias (id':="frozenset.__iter__") (by kernel_rfl) (by first|rfl|decide +kernel|(unfold String.splitOn;simp +decide [String.splitOnAux])) (by decide +kernel) (by kernel_rfl)
def lN(w:World):Bool:=w.params.followText "set-order"
def yB(w:World)(n:Nat)(t:SetTable):Prop:=(lN w=true\/t.led=true)/\(n=0\/t.plain=false)
theorem ud(t:SetTable)(es:Array (Int×Value))(h:Int)(x:Value):(layNew t es h x).2.1.led=t.led/\(t.plain=false->(layNew t es h x).2.1.plain=false):=by
 unfold layNew
 split
 ·dsimp only
  unfold SetTable.orStandIn
  split
  ·exact⟨rfl,fun z=>z⟩
  ·exact⟨rfl,fun _=>rfl⟩
 ·exact⟨rfl,fun _=>rfl⟩
theorem uQ{t t':SetTable}{hs:Array Int}{n:Nat}{o:Array Nat}(h:t.relaid hs n=some (t',o)):t'.led=t.led/\t'.plain=t.plain:=by
 unfold SetTable.relaid SetTable.laid at h
 cases hc:SetTable.layClean (SetTable.sizeAbove n-1) hs with
 |none=>rw[hc]at h;cases h
 |some ow=>
  rw[hc]at h
  have h':=be h
  obtain⟨a,_⟩:=nj h'
  subst a
  exact⟨rfl,rfl⟩
theorem qE(t:SetTable)(es:Array (Int×Value))(n:Nat):(relayAll t es n).2.1.led=t.led/\(t.plain=false->(relayAll t es n).2.1.plain=false):=by
 unfold relayAll
 split
 ·rename_i t' o he
  obtain⟨a,b⟩:=uQ he
  dsimp only
  split
  ·exact⟨a,fun z=>b.trans z⟩
  ·exact⟨rfl,fun _=>rfl⟩
 ·exact⟨rfl,fun _=>rfl⟩
section
variable{prog:Program}{w:World}
def rV(prog:Program)(w:World)(n:Nat)(h:Heap)(a:Addr)(ks:List Str):Prop:=
 ∃o es ep t,h.get? a=some o/\o.ExactSet/\o.data=.set es ep t/\ElemsOf (PySem.strKind prog w) es.toList/\(es.toList.map fun e=>strOf e.2).Perm ks/\es.size<scanBound/\t.fits es.size=true/\yB w es.size t/\gN n (es.toList.map (·.2))
theorem vI{l:List (Int×Value)}(h:ElemsOf (PySem.strKind prog w) l):∀e∈l,∃t,e.2=.str (strOf e.2) t:=fun e he=>by
 obtain⟨⟨k,hk,_⟩,_⟩:=h e he
 obtain⟨t,ht⟩:=jA hk
 exact⟨t,by rw[ht];rfl⟩
theorem ue{k:Str}{e:Int×Value}{l:List (Int×Value)}(h:ElemsOf (PySem.strKind prog w) l)(he:e∈l):(PySem.strKind prog w).is k e.2=true↔k=strOf e.2:=by
 obtain⟨t,ht⟩:=vI h e he
 constructor
 ·intro z
  obtain⟨u,hu⟩:=jA z
  rw[hu];rfl
 ·intro z
  show Value.isStrOf k e.2=true
  rw[ht,z]
  show Value.isStrOf (strOf e.2) (.str (strOf e.2) t)=true
  unfold Value.isStrOf;simp
theorem rV.keep{n:Nat}{h h':Heap}{a:Addr}{ks:List Str}(z:rV prog w n h a ks)(k:∀o,h.get? a=some o->h'.get? a=some o):rV prog w n h' a ks:=let ⟨o,es,ep,t,ho,r⟩:=z;⟨o,es,ep,t,k o ho,r⟩
theorem gN.up{n n':Nat}{l:List Value}(h:gN n l)(hn:n<=n'):gN n' l:=fun x t hx h1=>⟨(h x t hx h1).1,ay (h x t hx h1).2 hn⟩
theorem rV.up{n n':Nat}{h:Heap}{a:Addr}{ks:List Str}(z:rV prog w n h a ks)(hn:n<=n'):rV prog w n' h a ks:=let ⟨o,es,ep,t,ho,h1,h2,h3,h4,h5,h6,h7,h8⟩:=z;⟨o,es,ep,t,ho,h1,h2,h3,h4,h5,h6,h7,h8.up hn⟩
variable{A:Around}{E:Value->Shared->Prop}{s:Shared}
theorem Eb{a:Addr}{ks:List Str}{x:Str}{tk:Tok}{Q:Bool->Shared->Prop}{n:Nat}(z:rV prog w n s.heap a ks)(Mc:x.length=1->0<tk/\tk<n)(LQ:ks.length+1<scanBound)
  (q:∀b g,Heap.SameBut a s.heap g->rV prog w n g a (if x∈ks then ks else ks++[x])->Q b { s with heap:=g }):wpAny (model prog w) A (setAddHashed a (.str x tk) ((PySem.strKind prog w).hash x)) Q E s:=by
 obtain⟨o,es,ep,t,ho,oQ,hd,hel,hp,hb,hf,vq,hta⟩:=z
 have eZ:es.size=ks.length:=by have:=hp.length_eq;simpa using this
 have hkey:(PySem.strKind prog w).is x (.str x tk)=true:=by show Value.isStrOf x (.str x tk)=true;unfold Value.isStrOf;simp
 have hsc:(Value.str x tk).scannable=true:=rfl
 unfold setAddHashed setAddHashedIn
 refine bE (aa (cU ho hd hf ?_))
 dsimp only
 rw[byScan_of hsc hb hel,am rfl]
 unfold setAddByScan
 refine aa (aa (dL (aa (wpAny_setScan_of hkey ho hd hf hel ?_))))
 cases hr:List.findIdx? (fun e=>(PySem.strKind prog w).is x e.2) es.toList with
 |some j=>
  obtain⟨hj,hpj,_⟩:=il.mp hr
  have hin:x∈ks:=hp.mem_iff.mp (bC.mpr ⟨es.toList[j],bU hj,((ue hel (bU hj)).mp hpj).symm⟩)
  refine ai (ai ?_)
  have e1:=q false s.heap (Heap.SameBut.refl a s.heap) (by rw[am hin];exact⟨o,es,ep,t,ho,oQ,hd,hel,hp,hb,hf,vq,hta⟩)
  exact e1
 |none=>
  have hin:¬ x∈ks:=fun hx=>by
   obtain⟨e,he,hxe⟩:=bC.mp (hp.mem_iff.mpr hx)
   have y:=ki.mp hr e he
   rw[(ue hel he).mpr hxe.symm]at y
   cases y
  have q':=fun b g h1 h2=>q b g h1 (by rw[au hin];exact h2)
  dsimp only
  have lp:=layNew_perm t es ((PySem.strKind prog w).hash x) (.str x tk)
  have lf:=layNew_fits t es ((PySem.strKind prog w).hash x) (.str x tk)
  have lm:=ud t es ((PySem.strKind prog w).hash x) (.str x tk)
  generalize layNew t es ((PySem.strKind prog w).hash x) (.str x tk)=L at lp lf lm ⊢
  obtain⟨es1,t1,wd,gv⟩:=L
  dsimp only at lp lf lm ⊢
  rw[cB]at lp
  have el1:ElemsOf (PySem.strKind prog w) es1.toList:=(hel.push hkey hsc).perm lp
  have sz1:es1.size=es.size+1:=by have:=lp.length_eq;simpa using this
  have b1:es1.size<scanBound:=by omega
  have p1:(es1.toList.map fun e=>strOf e.2).Perm (ks++[x]):=by
   have y:=lp.map fun e:Int×Value=>strOf e.2
   rw[bH]at y
   exact y.trans (hp.append_right _)
  have ta1:gN n (es1.toList.map (·.2)):=fun y u hy=>by
   obtain⟨e,he,ee⟩:=bC.mp hy
   rcases aZ.mp (lp.mem_iff.mp he)with z|z
   ·exact hta y u (bC.mpr ⟨e,z,ee⟩)
   ·rw[aG]at z
    subst z
    cases ee
    exact Mc
  have gw:∀(b:Bool) {s₁:Shared} {Q':Unit->Shared->Prop},Q' () s₁->wpAny (model prog w) A (match b with|true=>rule "set.scan.the-table-gave-way" | false=>pure ()) Q' E s₁:=fun b _ _ y=>by cases b<;>first|exact ai y|exact dL y
  refine aa (gw _ ?_)
  have fin:∀t2:SetTable,t2.fits es1.size=true->t2.led=t.led->t2.plain=false->wpAny (model prog w) A (do
    storeSet a es1 t2
    if (!wd&&t2.tooFull)=true then do
      (match (relayAll t2 es1 (SetTable.grown es1.size)).2.2 with|true=>rule "set.scan.the-table-gave-way" | false=>pure ())
      storeSet a (relayAll t2 es1 (SetTable.grown es1.size)).1 (relayAll t2 es1 (SetTable.grown es1.size)).2.1
      pure (some true)
     else pure (some true)) (fun r s'=>wpAny (model prog w) A (match r with|some added=>pure added|none=>setAddHashedIn a (.str x tk) ((PySem.strKind prog w).hash x) 99999) Q E s') E s:=by
   intro t2 f2 l2 n2
   have to2:yB w es1.size t2:=⟨by rw[l2];exact vq.1,.inr n2⟩
   refine aa (iA ho hd ?_ (iB b1))
   have g1:(s.heap.update a (Obj.putSet es1 t2)).get? a=some { o with data:=.set es1 (ep+1) t2 }:=by
    have y:=bF (Obj.putSet es1 t2) ho (by rw[i7 es1 t2 hd];rfl)
    rw[i7 es1 t2 hd]at y;exact y
   have sb:=d9 s.heap a (Obj.putSet es1 t2)
   split
   ·have rp:=relayAll_perm t2 es1 (SetTable.grown es1.size)
    have rf:=relayAll_fits t2 es1 (SetTable.grown es1.size)
    have rm:=qE t2 es1 (SetTable.grown es1.size)
    generalize relayAll t2 es1 (SetTable.grown es1.size)=R at rp rf rm ⊢
    obtain⟨es2,t3,gv2⟩:=R
    dsimp only at rp rf rm ⊢
    have sz2:es2.size=es1.size:=by have:=rp.length_eq;simpa using this
    refine aa (gw _ (aa (iA g1 rfl (ai (ai ?_)) (iB (by omega)))))
    have g2:((s.heap.update a (Obj.putSet es1 t2)).update a (Obj.putSet es2 t3)).get? a=some { o with data:=.set es2 (ep+1+1) t3 }:=by
     have y:=bF (Obj.putSet es2 t3) g1 (by rw[i7 es2 t3 rfl];rfl)
     rw[i7 es2 t3 rfl]at y;exact y
    refine q' true _ (sb.trans (d9 _ a _)) ⟨_,es2,_,t3,g2,oQ,rfl,el1.perm rp,?_,by omega,rf,?_⟩
    ·exact(rp.map fun e:Int×Value=>strOf e.2).trans p1
    ·exact⟨⟨by rw[rm.1,l2];exact vq.1,.inr (rm.2 n2)⟩,fun y u hy=>ta1 y u ((rp.map _).mem_iff.mp hy)⟩
   ·exact ai (ai (q' true _ sb ⟨_,es1,_,t2,g1,oQ,rfl,el1,p1,b1,f2,to2,ta1⟩))
  by_cases nS:t1.plain=true
  ·rw[am nS,mJ 8 hsc]
   refine aa (ai ?_)
   exact fin { t1 with plain:=false } (SetTable.fits_plain_off lf) lm.1 rfl
  ·rw[au nS]
   refine aa (ai ?_)
   exact fin t1 lf lm.1 (by simpa using nS)
end
section
variable{prog:Program}{w:World}{A:Around}{R:Result->Shared->Prop}{I:Addr}{fp wr:List Addr}{n:Nat}{P:Nat->Value->Prop}{St:Nat->Heap->Prop}
def Ft(prog:Program)(w:World)(m:Nat)(val:Nat->Str)(h:Heap)(a:Addr)(i:Nat):Prop:=∃ks,rV prog w m h a ks/\ks.Nodup/\(∀x,x∈ks↔∃j,j<i/\val j=x)/\ks.length<=i
theorem A3(W:Walks prog w A.in1 I fp wr n P St)(S:Addr)(LU:S∉fp)(val:Nat->Str)(pM:∀i v,P i v->∃t,v=.str (val i) t)(hb:n+1<scanBound){n0:Nat}
  (wR:∀i (s:Shared) (Q:Option Value->Shared->Prop) (E:Value->Shared->Prop),n0<=s.toks->i<n->St i s.heap ->
   (∀v h' tk,s.toks<=tk->gN tk [v]->P i v->St (i+1) h'->(∀b o,b∉wr->s.heap.get? b=some o->h'.get? b=some o)->Q (some v) { s with heap:=h',toks:=tk })->wpAny (model prog w) A.in1 (pyNext (.ref I)) Q E s) :
  ∀(k i:Nat) (s:Shared),n-i=k->i<=n->n0<=s.toks->St i s.heap->Ft prog w s.toks val s.heap S i ->
   (∀g tk,s.toks<=tk->Ft prog w tk val g S n->(∀b o,b≠S->b∉wr->s.heap.get? b=some o->g.get? b=some o)->R (.ok (.ret .none)) { s with heap:=g,toks:=tk }) ->
   codeAny (model prog w) A (.builtin "set.update.loop" ⟨[.ref S,.ref I],[]⟩) R s:=by
 have hSw:S∉wr:=fun h=>LU (W.sub _ h)
 intro k
 induction k with
 |zero=>
  intro i s hk hi hn0 st hM hR
  obtain rfl:i=n:=by omega
  refine bI cS ?_
  rw[bt bK _]
  show wpAny _ A.in1 (pyNext (.ref I) >>= _) _ _ s
  refine aa (up (W.done s _ _ st fun g tk kp iR=>ai (hR g tk iR ?_ fun b o _ hb e=>kp b o hb e)))
  obtain⟨ks,z,r⟩:=hM
  exact⟨ks,(z.keep fun o e=>kp S o hSw e).up iR,r⟩
 |succ k ih=>
  intro i s hk hi hn0 st hM hR
  have hlt:i<n:=by omega
  refine bI cS ?_
  rw[bt bK _]
  show wpAny _ A.in1 (pyNext (.ref I) >>= _) _ _ s
  refine aa (wR i s _ _ hn0 hlt st fun v g tk iR hta hP bp kp=>?_)
  obtain⟨t,rfl⟩:=pM i v hP
  obtain⟨ks,z,nd,mem,len⟩:=hM
  have z':rV prog w (tk+1) g S ks:=(z.keep fun o e=>kp S o hSw e).up (d4 iR)
  refine aa (bE ?_)
  unfold setAdd
  refine bE (aa ((PySem.strKind prog w).pyHash (k:=val i) (show Value.isStrOf (val i) (.str (val i) t)=true by unfold Value.isStrOf;simp) ?_))
  refine Eb (s:={ s with heap:=g,toks:=tk+1 }) z' (fun h1=>⟨(hta _ t (by simp) h1).1,bz (hta _ t (by simp) h1).2⟩) (by omega) fun _ g2 sb z2=>?_
  refine ai ⟨cL bK _,ih (i+1) _ (by omega) hlt (aA hn0 (d4 iR)) (W.frame _ _ _ bp fun b hb o e=>?_) ?_ fun g3 tk3 hle3 hM3 kp3=>?_⟩
  ·rw[sb.2 b (fun h:b=S=>LU (by rw[<- h];exact hb))];exact e
  ·refine⟨_,z2,?_,fun x=>?_,?_⟩
   ·by_cases hx:val i∈ks
    ·rw[am hx];exact nd
    ·rw[au hx];exact iC.mpr ⟨nd,by simp,fun a ha b hb=>by rw[aG]at hb;subst hb;exact fun e=>hx (e▸ha)⟩
   ·by_cases hx:val i∈ks
    ·rw[am hx,mem x]
     constructor
     ·rintro⟨j,hj,e⟩;exact⟨j,by omega,e⟩
     ·rintro⟨j,hj,e⟩
      by_cases hji:j=i
      ·subst hji;subst e;exact(mem _).mp hx
      ·exact⟨j,by omega,e⟩
    ·rw[au hx,aZ,mem x,aG]
     constructor
     ·rintro(⟨j,hj,e⟩|e)
      ·exact⟨j,by omega,e⟩
      ·exact⟨i,by omega,e.symm⟩
     ·rintro⟨j,hj,e⟩
      by_cases hji:j=i
      ·subst hji;exact .inr e.symm
      ·exact .inl ⟨j,by omega,e⟩
   ·by_cases hx:val i∈ks
    ·rw[am hx];omega
    ·rw[au hx,aJ,eR];omega
  ·exact hR g3 tk3 (aA (d4 iR) hle3) hM3 fun b o hb hw e=>kp3 b o hb hw ((sb.2 b hb).trans (kp b o hw e))
end
section
variable{prog:Program}{w:World}{A:Around}{E:Value->Shared->Prop}{s:Shared}
abbrev bJ(w:World):Obj:={ cls:=.type "set",dict:=none,data:=.set #[] 0 (.fresh 0 0 (!lN w)) }
theorem qF(a:Value){Q₁:Value->Shared->Prop}(h:Q₁ (.ref s.heap.objs.size) { s with heap:=s.heap.push (bJ w) }) :
  codeAny (model prog w) A (.call (.builtin "set.__new__") ⟨[.type "set",a],[]⟩) (wants Q₁ E) s:=by
 refine mw ?_
 show wpAny _ A.in1 (do checkBuiltinCall "set.__new__" ⟨[.type "set",a],[]⟩;again (.builtin "set.__new__" ⟨[.type "set",a],[]⟩)) _ _ s
 refine aa (wpAny_of_eq (PySem.F.newCall_set_1 a) (ai ⟨cL PySem.F.plain_set_new _,bI PySem.F.entry_set_new ?_⟩))
 rw[bt PySem.F.plain_set_new _]
 unfold Builtin.«set.__new__» Builtin.Frozenset.newClass
 have sb:=sub_set_self
 obtain⟨hp,g,d,tk,os⟩:=s
 dsimp only
 wp_walk
 refine lB (ai ?_)
 dsimp only
 simp only[newObj]
 exact aa (wpAny_alloc (ai (ai h)))
set_option maxHeartbeats 8000000 in
theorem kO{v:Value}{T:String}{Fe:Obj}{fp:Addr->List Addr}{n:Nat}{P:Nat->Value->Prop}{St:Addr->Nat->Heap->Prop}{val:Nat->Str}{Q:Value->Shared->Prop}(hT:Shared.TypeIs { s with heap:=s.heap.push (bJ w) } v T)
  (n1:isSubtype (.type T) (.type "set")=pure false) (n2:isSubtype (.type T) (.type "frozenset")=pure false) (n3:(Value.type T==Value.type "dict")=false)
  (lK:∀(A:Around) (E:Value->Shared->Prop) (Q:Value->Shared->Prop),Q (.ref (s.heap.objs.size+1)) { s with heap:=(s.heap.push (bJ w)).push Fe }->wpAny (model prog w) A (pyIter v) Q E { s with heap:=s.heap.push (bJ w) })
  (W:∀(A:Around) (it:Addr),A.handled=none->it=s.heap.objs.size+1->Walks prog w A it (fp it) [it] n P (St it)) (zk:s.heap.objs.size∉fp (s.heap.objs.size+1)) (st:St (s.heap.objs.size+1) 0 ((s.heap.push (bJ w)).push Fe)) (pM:∀i v,P i v->∃t,v=.str (val i) t)
  (hh:A.handled=none) (hb:n+1<scanBound)
  (wR:∀(A:Around),A.handled=none->∀i (s':Shared) (Q:Option Value->Shared->Prop) (E:Value->Shared->Prop),s.toks<=s'.toks->i<n->St (s.heap.objs.size+1) i s'.heap ->
   (∀v h' tk,s'.toks<=tk->gN tk [v]->P i v->St (s.heap.objs.size+1) (i+1) h'->(∀b o,b∉[s.heap.objs.size+1]->s'.heap.get? b=some o->h'.get? b=some o)->Q (some v) { s' with heap:=h',toks:=tk })->wpAny (model prog w) A (pyNext (.ref (s.heap.objs.size+1))) Q E s')
  (q:∀g tk,s.toks<=tk->Ft prog w tk val g s.heap.objs.size n->(∀b o,s.heap.get? b=some o->g.get? b=some o)->Q (.ref s.heap.objs.size) { s with heap:=g,toks:=tk }) :
  wpAny (model prog w) A (call (.type "set") [v]) Q E s:=by
 obtain⟨c,tl,hmro⟩:=PySem.F.called_set.mro
 have hmade:=PySem.F.called_set.made
 have hsub:=PySem.F.called_set.sub
 refine j6 (mw ?_)
 show wpAny _ _ (callAny (.type "set") _) _ _ _
 refine ai ⟨j7 _ (by decide +kernel),bI PySem.F.entry_type_call ?_⟩
 rw[Around.under_plain (mK "set" [v] []) rfl]
 have h1:=PySem.F.called_set.notType
 have h2:=PySem.F.called_set.canCreate
 have hct:=PySem.F.typeCall_set_1 v
 repeat(any_goals (first|assumption|wp_step))
 refine eB (qF v (E:=E) (Q₁:=fun obj s₁=>obj=.ref s.heap.objs.size/\s₁={ s with heap:=s.heap.push (bJ w) }) ⟨rfl,rfl⟩) fun r s₁ hr=>?_
 cases r with
 |error e=>exact hr
 |ok fl=>
  cases fl with
  |ret obj=>
   obtain⟨rfl,rfl⟩:=hr
   have gS:(s.heap.push (bJ w)).get? s.heap.objs.size=some (bJ w):=ar _ rfl
   have tS:Shared.TypeIs { s with heap:=s.heap.push (bJ w) } (.ref s.heap.objs.size) "set":=⟨_,gS,rfl⟩
   have hli:=PySem.F.called_set.init.lookup
   have hbi:=PySem.F.called_set.init.bind (.ref s.heap.objs.size)
   repeat(any_goals (first|assumption|wp_step))
   refine eB (gu (R:=wants (fun r s₂=>r=.none/\∃g tk,s₂={ s with heap:=g,toks:=tk }/\s.toks<=tk/\Ft prog w tk val g s.heap.objs.size n/\(∀b o,s.heap.get? b=some o->g.get? b=some o)) E) PySem.F.called_set.init.plain PySem.F.entry_set_init (check_set_init_1 tS ?_)) fun r₂ s₂ hr₂=>?_
   ·unfold Builtin.«set.__init__» noKeywords Builtin.Frozenset.updateFrom
    generalize hPI:pyIter=PI
    wp_walk
    subst hPI
    refine lK _ _ _ (aa (iD ?_))
    have g0:((s.heap.push (bJ w)).push Fe).get? s.heap.objs.size=some (bJ w):=ag _ gS
    have m0:Ft prog w s.toks val ((s.heap.push (bJ w)).push Fe) s.heap.objs.size 0:=⟨[],⟨_,#[],0,_,g0,⟨rfl,rfl,rfl⟩,rfl,fun e he=>by simp at he,by simp,by unfold scanBound;decide,rfl,?_⟩,nr,fun x=>by simp,ah _⟩
    ·refine A3 (W _ _ (by simpa using hh) rfl) s.heap.objs.size zk val pM hb (n0:=s.toks) (wR _ (by simpa using hh)) (n-0) 0 _ rfl (br _) (ah _) st m0 fun g tk iR hM kp=>?_
     refine ai (ai ⟨rfl,g,tk,rfl,iR,hM,fun b o e=>kp b o (aK (av e)) (fun hbm=>?_) (ag _ (ag _ e))⟩)
     rw[aG]at hbm
     exact absurd (av e) (by rw[hbm];exact fx.mpr (a8 _))
    ·refine⟨⟨?_,.inl rfl⟩,fun x t hx=>by simp at hx⟩
     show lN w=true\/(!lN w)=true
     cases lN w<;>simp
   ·cases r₂ with
    |error e=>exact hr₂
    |ok fl₂=>
     cases fl₂ with
     |ret r=>
      obtain⟨rfl,g,tk,rfl,iR,hM,kp⟩:=hr₂
      repeat(any_goals (first|assumption|wp_step))
      exact q g tk iR hM kp
     |_=>exact hr₂.elim
  |_=>exact hr.elim
end
theorem oo{α:Type}:∀{l:List α} {i:Nat} (h:i<l.length),(l[i]::l.eraseIdx i).Perm l
 |x::r,0,_=>dY _
 |x::r,i+1,h=>(List.Perm.swap x (r[i]'(by simpa using h)) (r.eraseIdx i)).trans ((oo (l:=r) (i:=i) (by simpa using h)).cons x)
section
variable{M:Model}{A:Around}{E:Value->Shared->Prop}
theorem tM{s:Shared}{N9:Source}{n:Nat}{Q:Nat->Shared->Prop}(hn:n≠0)(h:∀i,i<n->∀d,Q i { s with drawn:=d }):wpAny M A (choose N9 n) Q E s:=fun _ _ _=>⟨hn,h _ (Nat.mod_lt _ (Nat.pos_of_ne_zero hn)) _⟩
theorem vJ{α:Type}:∀(n:Nat) (xs:List α) (s:Shared) (Q:List α->Shared->Prop),xs.length=n->(∀ys,ys.Perm xs->∀d,Q ys { s with drawn:=d })->wpAny M A (drawOrder n xs) Q E s
 |0,xs,s,Q,hl,h=>by
  have e:xs=[]:=fL hl
  subst e
  unfold drawOrder
  exact ai (h [] (dY _) s.drawn)
 |n+1,[],s,Q,hl,h=>by simp at hl
 |n+1,x::r,s,Q,hl,h=>by
  unfold drawOrder
  refine aa (tM (by simp) fun i hi d=>?_)
  have e:(x::r)[i]?=some (x::r)[i]:=af hi
  rw[e]
  dsimp only
  refine aa (vJ n ((x::r).eraseIdx i) _ _ (by rw[List.length_eraseIdx,am hi];simp at hl ⊢;omega) fun ys hp d'=>ai (h _ ?_ d'))
  exact(List.Perm.cons _ hp).trans (oo hi)
theorem yC{α:Type}(next:Nat->Nat):∀(Fc k:Nat) (wS:List α) (out:Array α),wS.length=Fc->(pickOrder.go next Fc k wS out).toList.Perm (out.toList++wS)
 |0,k,wS,out,h=>by
  have e:wS=[]:=fL h
  subst e
  unfold pickOrder.go
  simp
 |Fc+1,k,wS,out,h=>by
  have hlt:next k%wS.length<wS.length:=Nat.mod_lt _ (by omega)
  unfold pickOrder.go
  rw[af hlt]
  dsimp only
  refine(yC next Fc (k+1) _ _ (by rw[List.length_eraseIdx,am hlt];omega)).trans ?_
  rw[cB,aY]
  exact mL _ (oo hlt)
theorem uf{α:Type}(next:Nat->Nat)(xs:Array α):(pickOrder next xs).toList.Perm xs.toList:=by
 unfold pickOrder
 have:=yC next xs.size 0 xs.toList #[] (by simp)
 simpa using this
end
abbrev mT(f:Value)(i:Int)(S:Addr)(n ep:Nat):Obj:={ cls:=.type "set_iterator",dict:=none,data:=.fields #[f,rawInt i,.ref S,rawInt n,rawInt ep],slots:=#[] }
section
variable{prog:Program}{w:World}{A:Around}{E:Value->Shared->Prop}{s:Shared}
theorem rW{Q:Fin->Shared->Prop}(hh:A.handled=none)(q:∀g e,(∀b o,s.heap.get? b=some o->g.get? b=some o)->(∃o,g.get? e=some o/\o.cls=.type "StopIteration")->E (.ref e) { s with heap:=g }) :
  wpAny (model prog w) A (do let x <- newExc (.type "StopIteration") [];raiseNew x) Q E s:=by
 refine aa ?_
 simp only[newExc,newTuple]
 refine aa (bx (aa (m:=firstArgMember _ _) (wpAny_of_eq (a:=Value.none) (by first|rfl|(simp only[firstArgMember];rfl)) (bx ?_ (by size_fits)))) (by size_fits))
 simp only[raiseNew]
 refine aa (wpAny_handled ?_)
 rw[hh]
 exact aa (ai (wpAny_throw (q _ _ (fun b o e=>ag _ (ag _ e)) ⟨_,ar _ rfl,rfl⟩)))
structure fU(w:World)(h:Heap)(S:Addr)(es:Array (Int×Value))(ep:Nat)(t:SetTable):Prop where
 ex:∃o,h.get? S=some o/\o.ExactSet/\o.data=.set es ep t
 fits:t.fits es.size=true
theorem fU.keep{h h':Heap}{S:Addr}{es:Array (Int×Value)}{ep:Nat}{t:SetTable}(z:fU w h S es ep t)(k:∀o,h.get? S=some o->h'.get? S=some o):fU w h' S es ep t:=⟨let ⟨o,ho,r⟩:=z.ex;⟨o,k o ho,r⟩,z.fits⟩
theorem zG{it S p:Addr}{i n ep k:Nat}{es:Array (Int×Value)}{t:SetTable}{pv:Array Value}{pn:Nat}{x:Int×Value}{Q:Option Value->Shared->Prop}(lK:s.heap.get? it=some (mT (.ref p) i S n ep))(hS:fU w s.heap S es ep t)(hn:es.size=n)
  (hp:∃o,s.heap.get? p=some o/\o.cls=.type "tuple"/\o.data=.seq pv pn) (hk:pv[i]?=some (rawInt k)) (hx:es[k]?=some x)
  (q:∀g,g.get? it=some (mT (.ref p) ((i:Int)+1) S n ep)->Heap.SameBut it s.heap g->Q (some x.2) { s with heap:=g }):wpAny (model prog w) A (pyNext (.ref it)) Q E s:=by
 obtain⟨o,ho,oQ,hd⟩:=hS.ex
 obtain⟨op,hop,hcp,hdp⟩:=hp
 have T:Shared.TypeIs s (.ref it) "set_iterator":=⟨_,lK,rfl⟩
 unfold pyNext
 refine aa (gO (bT (name:=Str.ofString "__next__") T dz (bD dz T km ?_ (ko _))))
 show wpAny _ _ (fieldsOf (.ref it) >>= _) _ _ s
 refine aa (j8 lK rfl ?_)
 dsimp only
 refine aa (d_ ho hd hS.fits ?_)
 rw[au (by rw[hn];simp)]
 refine aa (j4 hop hdp ?_)
 simp only[bP,hk]
 unfold setNextDrawn
 refine aa (aa (cU ho hd hS.fits ?_))
 dsimp only
 rw[au (by simp),bP,hx]
 refine ai (aa (eO lK (by simp) fun g e1 e2=>ai ⟨_,rfl,ai (q g (by simpa using e1) e2)⟩))
theorem tN{it S p:Addr}{i n ep:Nat}{es:Array (Int×Value)}{t:SetTable}{pv:Array Value}{pn:Nat}{Q:Option Value->Shared->Prop}(hh:A.handled=none)(lK:s.heap.get? it=some (mT (.ref p) i S n ep))(hS:fU w s.heap S es ep t)(hn:es.size=n)
  (hp:∃o,s.heap.get? p=some o/\o.cls=.type "tuple"/\o.data=.seq pv pn) (hk:pv[i]?=none)
  (q:∀g,(∀b o,b≠it->s.heap.get? b=some o->g.get? b=some o)->Q none { s with heap:=g }):wpAny (model prog w) A (pyNext (.ref it)) Q E s:=by
 obtain⟨o,ho,oQ,hd⟩:=hS.ex
 obtain⟨op,hop,hcp,hdp⟩:=hp
 have T:Shared.TypeIs s (.ref it) "set_iterator":=⟨_,lK,rfl⟩
 unfold pyNext
 refine aa (gO (bT (name:=Str.ofString "__next__") T dz (bD dz T km ?_ (ko _))))
 show wpAny _ _ (fieldsOf (.ref it) >>= _) _ _ s
 refine aa (j8 lK rfl ?_)
 dsimp only
 refine aa (d_ ho hd hS.fits ?_)
 rw[au (by rw[hn];simp)]
 refine aa (j4 hop hdp ?_)
 simp only[bP,hk]
 refine aa (eO lK (by simp) fun g e1 e2=>aa (eO e1 (by simp) fun g2 e3 e4=>rW (s:={ s with heap:=g2 }) (show A.in1.handled=none from hh) fun g3 e kp hx=>?_))
 obtain⟨ox,hox,hcx⟩:=hx
 refine aa (gE (T:="StopIteration") (b:=true) ⟨ox,hox,hcx⟩ nq (ai (q g3 fun b o hb e=>kp b o ?_)))
 exact e4.extBut b o hb (e2.extBut b o hb e)
theorem A4{it S:Addr}{i n ep sl sl':Nat}{es:Array (Int×Value)}{t:SetTable}{x:Value}{Q:Option Value->Shared->Prop}(lK:s.heap.get? it=some (mT (rawInt sl) i S n ep))(hS:fU w s.heap S es ep t)(hn:es.size=n)
  (hx:∀(Q':Option (Value×Nat)->Shared->Prop) (E':Value->Shared->Prop),Q' (some (x,sl')) s->wpAny (model prog w) A.in1 (setNext S sl i ep) Q' E' s)
  (q:∀g,g.get? it=some (mT (rawInt sl') ((i:Int)+1) S n ep)->Heap.SameBut it s.heap g->Q (some x) { s with heap:=g }):wpAny (model prog w) A (pyNext (.ref it)) Q E s:=by
 obtain⟨o,ho,oQ,hd⟩:=hS.ex
 have T:Shared.TypeIs s (.ref it) "set_iterator":=⟨_,lK,rfl⟩
 unfold pyNext
 refine aa (gO (bT (name:=Str.ofString "__next__") T dz (bD dz T km ?_ (ko _))))
 show wpAny _ _ (fieldsOf (.ref it) >>= _) _ _ s
 refine aa (j8 lK rfl ?_)
 dsimp only
 refine aa (d_ ho hd hS.fits ?_)
 rw[au (by rw[hn];simp)]
 show wpAny _ _ (setNext S (sl:Int).toNat (i:Int).toNat (ep:Int).toNat >>= _) _ _ s
 simp only[bP]
 refine aa (hx _ _ ?_)
 dsimp only
 refine aa (eO lK (by simp) fun g e1 e2=>aa (eO e1 (by simp) fun g2 e3 e4=>ai ⟨_,rfl,ai (q g2 (by simpa using e3) (e2.trans e4))⟩))
theorem uR{it S:Addr}{i n ep sl:Nat}{es:Array (Int×Value)}{t:SetTable}{Q:Option Value->Shared->Prop}(hh:A.handled=none)(lK:s.heap.get? it=some (mT (rawInt sl) i S n ep))(hS:fU w s.heap S es ep t)(hn:es.size=n)
  (hx:∀(Q':Option (Value×Nat)->Shared->Prop) (E':Value->Shared->Prop),Q' none s->wpAny (model prog w) A.in1 (setNext S sl i ep) Q' E' s)
  (q:∀g,(∀b o,b≠it->s.heap.get? b=some o->g.get? b=some o)->Q none { s with heap:=g }):wpAny (model prog w) A (pyNext (.ref it)) Q E s:=by
 obtain⟨o,ho,oQ,hd⟩:=hS.ex
 have T:Shared.TypeIs s (.ref it) "set_iterator":=⟨_,lK,rfl⟩
 unfold pyNext
 refine aa (gO (bT (name:=Str.ofString "__next__") T dz (bD dz T km ?_ (ko _))))
 show wpAny _ _ (fieldsOf (.ref it) >>= _) _ _ s
 refine aa (j8 lK rfl ?_)
 dsimp only
 refine aa (d_ ho hd hS.fits ?_)
 rw[au (by rw[hn];simp)]
 show wpAny _ _ (setNext S (sl:Int).toNat (i:Int).toNat (ep:Int).toNat >>= _) _ _ s
 simp only[bP]
 refine aa (hx _ _ ?_)
 dsimp only
 refine aa (eO lK (by simp) fun g e1 e2=>rW (s:={ s with heap:=g }) (show A.in1.handled=none from hh) fun g3 e kp hx=>?_)
 obtain⟨ox,hox,hcx⟩:=hx
 exact aa (gE (T:="StopIteration") (b:=true) ⟨ox,hox,hcx⟩ nq (ai (q g3 fun b o hb e=>kp b o (e2.extBut b o hb e))))
end
theorem qG:Slot "set_iterator" "__iter__" "set_iterator.__iter__":=.of (owner:="set_iterator") (n:="__iter__") (by rw[typeLookup_type,mI];kernel_rfl) (by decide +kernel) (by decide +kernel) (by decide +kernel) (by first|exact .inl (by decide +kernel)|exact .inr (by decide +kernel)) (by rw[cH];kernel_rfl)
theorem vK(a:Value):argsOk "set_iterator.__iter__" ⟨[a],[]⟩:=by unfold argsOk;kernel_rfl
theorem vL:entryFor table "set_iterator.__iter__"=some Builtin.«dict_keyiterator.__iter__»:=entryFor_alias (id':="dict_keyiterator.__iter__") (by kernel_rfl) (by first|rfl|decide +kernel|(unfold String.splitOn;simp +decide [String.splitOnAux])) (by decide +kernel) (by kernel_rfl)
section
variable{prog:Program}{w:World}{A:Around}{E:Value->Shared->Prop}{s:Shared}
theorem vM{it S:Addr}{f:Value}{i:Int}{n ep:Nat}{Q:Value->Shared->Prop}(lK:s.heap.get? it=some (mT f i S n ep))(q:Q (.ref it) s):wpAny (model prog w) A (pyIter (.ref it)) Q E s:=by
 have T:Shared.TypeIs s (.ref it) "set_iterator":=⟨_,lK,rfl⟩
 exact kJ T qG (bD qG T vL (ai ⟨_,rfl,"set_iterator",_,T,dz.lookup,q⟩) (vK _))
theorem xk(hh:A.handled=none){it S p:Addr}{n ep:Nat}{es:Array (Int×Value)}{t:SetTable}{pl:List Nat}(nS:pl.Perm (List.range n))(hn:es.size=n)(h1:it≠S)(h2:it≠p) :
  Walks prog w A it [it,p,S] [it] n (fun i v=>∃k x,pl[i]?=some k/\es[k]?=some x/\v=x.2) (fun i h=>i<=n/\h.get? it=some (mT (.ref p) i S n ep)/\(∃o,h.get? p=some o/\o.cls=.type "tuple"/\∃e,o.data=.seq (pl.map fun k:Nat=>rawInt k).toArray e)/\fU w h S es ep t) where
 sub:=fun b hb=>by simp at hb;simp[hb]
 frame:=fun i h h' st k=>⟨st.1,k it (by simp) _ st.2.1,(let ⟨o,ho,r⟩:=st.2.2.1;⟨o,k p (by simp) o ho,r⟩),st.2.2.2.keep fun o ho=>k S (by simp) o ho⟩
 item:=fun i s Q E hi st q=>by
  obtain⟨_,lK,⟨op,hop,hcp,e,hdp⟩,hS⟩:=st
  have hl:pl.length=n:=by have:=nS.length_eq;simpa using this
  have hk:pl[i]?=some pl[i]:=af (by omega)
  have hkn:pl[i]<es.size:=by rw[hn];exact dr.mp (nS.mem_iff.mp (bU (by omega)))
  refine zG lK hS hn ⟨op,hop,hcp,hdp⟩ (k:=pl[i]) (x:=es[pl[i]]) (by simp[hk]) (by simp[hkn]) fun g a b=>q _ g s.toks ⟨pl[i],es[pl[i]],hk,by simp[hkn],rfl⟩ ⟨hi,?_,⟨op,b.extBut p op (Ne.symm h2) hop,hcp,e,hdp⟩,hS.keep fun o ho=>b.extBut S o (Ne.symm h1) ho⟩ fun c o hc ho=>b.extBut c o (fun z=>hc (by simp[z])) ho
  rw[a];rfl
 done:=fun s Q E st q=>by
  obtain⟨_,lK,⟨op,hop,hcp,e,hdp⟩,hS⟩:=st
  have hl:pl.length=n:=by have:=nS.length_eq;simpa using this
  exact tN hh lK hS hn ⟨op,hop,hcp,hdp⟩ (by simp[hl]) fun g kp=>q g s.toks fun c o hc ho=>kp c o (fun z=>hc (by simp[z])) ho
 self:=fun i s Q E st q=>vM st.2.1 q
theorem ug(hh:A.handled=none){it S:Addr}{n ep:Nat}{es:Array (Int×Value)}{t:SetTable}{vs:List Value}{sl:Nat->Nat}(hv:vs.length=n)(hn:es.size=n)(h1:it≠S)
  (hx:∀(s:Shared) (i:Nat),fU w s.heap S es ep t->i<=n->∀(A:Around) (Q':Option (Value×Nat)->Shared->Prop) (E':Value->Shared->Prop),Q' ((vs[i]?).map fun v=>(v,sl (i+1))) s->wpAny (model prog w) A (setNext S (sl i) i ep) Q' E' s) :
  Walks prog w A it [it,S] [it] n (fun i v=>vs[i]?=some v) (fun i h=>i<=n/\h.get? it=some (mT (rawInt (sl i)) i S n ep)/\fU w h S es ep t) where
 sub:=fun b hb=>by simp at hb;simp[hb]
 frame:=fun i h h' st k=>⟨st.1,k it (by simp) _ st.2.1,st.2.2.keep fun o ho=>k S (by simp) o ho⟩
 item:=fun i s Q E hi st q=>by
  obtain⟨_,lK,hS⟩:=st
  have hk:vs[i]?=some vs[i]:=af (by omega)
  refine A4 (x:=vs[i]) (sl':=sl (i+1)) lK hS hn (fun Q' E' y=>hx s i hS (dQ hi) _ Q' E' (by rw[hk];exact y)) fun g a b=>q _ g s.toks hk ⟨hi,?_,hS.keep fun o ho=>b.extBut S o (Ne.symm h1) ho⟩ fun c o hc ho=>b.extBut c o (fun z=>hc (by simp[z])) ho
  rw[a];rfl
 done:=fun s Q E st q=>by
  obtain⟨_,lK,hS⟩:=st
  have hk:vs[n]?=none:=bd (by omega)
  exact uR hh lK hS hn (fun Q' E' y=>hx s n hS (ah _) _ Q' E' (by rw[hk];exact y)) fun g kp=>q g s.toks fun c o hc ho=>kp c o (fun z=>hc (by simp[z])) ho
 self:=fun i s Q E st q=>vM st.2.1 q
end
section
variable{prog:Program}{w:World}{A:Around}{E:Value->Shared->Prop}{s:Shared}
theorem jK{Q:Bool->Shared->Prop}(q:Q (lN w) s):wpAny (model prog w) A setsByText Q E s:=by
 unfold setsByText
 exact aa (lB (ai q))
theorem uh{S:Addr}{es:Array (Int×Value)}{ep:Nat}{t:SetTable}{i:Nat}{Q:Option (Value×Nat)->Shared->Prop}(hb:lN w=true)(hS:fU w s.heap S es ep t)
  (q:Q ((((pickOrder (w.params.setOrder S ep) es).toList.map (·.2))[i]?).map fun v=>(v,0)) s):wpAny (model prog w) A (setNext S 0 i ep) Q E s:=by
 obtain⟨o,ho,oQ,hd⟩:=hS.ex
 unfold setNext
 refine aa (cU ho hd hS.fits ?_)
 dsimp only
 refine aa (jK ?_)
 rw[hb,am rfl,au (by simp)]
 unfold setWalk
 refine aa (aa (cU ho hd hS.fits ?_))
 dsimp only
 refine aa (jK ?_)
 rw[hb,am rfl]
 refine aa (lB (ai (ai ?_)))
 have e:((pickOrder (w.params.setOrder S ep) es)[i]?).map (fun e=>(e.2,0))=(((pickOrder (w.params.setOrder S ep) es).toList.map (·.2))[i]?).map fun v=>(v,0):=by
  rw[aL,aF,Option.map_map];rfl
 show Q (((pickOrder (w.params.setOrder S ep) es)[i]?).map fun e=>(e.2,0)) s
 rw[e];exact q
theorem ui(p:Nat):SetTable.below #[p] 0=0/\SetTable.below #[p] (p+1)=1:=by
 unfold SetTable.below
 constructor
 ·simp[SetTable.below.go]
 ·simp[SetTable.below.go]
theorem A5{S:Addr}{es:Array (Int×Value)}{ep:Nat}{t:SetTable}{i:Nat}{Q:Option (Value×Nat)->Shared->Prop}(hb:lN w=false)(hS:fU w s.heap S es ep t)(C4:t.led=true)(h1:es.size<=1)(hi:i<=es.size)
  (q:Q (((es.toList.map (·.2))[i]?).map fun v=>(v,if i+1=0 then 0 else t.place.getD 0 0+1)) s):wpAny (model prog w) A (setNext S (if i=0 then 0 else t.place.getD 0 0+1) i ep) Q E s:=by
 obtain⟨o,ho,oQ,hd⟩:=hS.ex
 have hf:=hS.fits
 have hps:t.place.size=es.size:=by
  unfold SetTable.fits at hf
  simp only[cq,dv]at hf
  exact hf.1
 unfold setNext
 refine aa (cU ho hd hS.fits ?_)
 dsimp only
 refine aa (jK ?_)
 rw[hb,au cD]
 show wpAny _ _ (if (!t.plain&&decide (es.size>1))=true then _ else _) _ _ _
 rw[au (by simp;omega)]
 show wpAny _ _ ((if (!t.led&&!es.isEmpty)=true then _ else pure ()) >>= _) _ _ _
 rw[au (by simp[C4])]
 refine aa (ai (ai ?_))
 by_cases hz:es.size=0
 ·have e1:es=#[]:=fH hz
  subst e1
  simpa using q
 ·have hs1:es.size=1:=by omega
  obtain⟨x,rfl⟩:∃x,es=#[x]:=by
   obtain⟨l⟩:=es
   obtain⟨x,e⟩:=fQ.mp hs1
   exact⟨x,eL Array.mk e⟩
  obtain⟨p,hp⟩:∃p,t.place=#[p]:=by
   generalize t.place=pl at hps
   obtain⟨l⟩:=pl
   obtain⟨x,e⟩:=fQ.mp hps
   exact⟨x,eL Array.mk e⟩
  rw[hp]at q ⊢
  rcases(show i=0\/i=1 by simp at hi;omega)with rfl|rfl
  ·simp[ui]at q ⊢;exact q
  ·simp[ui]at q ⊢;exact q
end
theorem uS{α β:Type}[Inhabited β](f:Nat->β)(xs:List α)(g:α->β)(n:Nat)(hn:xs.length=n)(hf:∀i x,xs[i]?=some x->f i=g x):(List.range n).map f=xs.map g:=by
 apply e_
 intro i
 rw[aL,aL]
 by_cases h:i<n
 ·rw[gJ h,af (by omega)]
  exact eL some (hf i _ (af (by omega)))
 ·rw[bd (by simp;omega),bd (by omega)];rfl
section
variable{prog:Program}{w:World}{A:Around}{E:Value->Shared->Prop}{s:Shared}
theorem vN{S:Addr}{es:Array (Int×Value)}{ep:Nat}{t:SetTable}{Q:Value->Shared->Prop}(hS:fU w s.heap S es ep t)(vq:yB w es.size t)(hsz:es.size<=sizeLine)
  (q:∀(g:Heap) (d:Drawn) (it:Addr) (fp:List Addr) (P:Nat->Value->Prop) (St:Nat->Heap->Prop),(∀A:Around,A.handled=none->Walks prog w A it fp [it] es.size P St)->St 0 g->s.heap.objs.size<=it->(∀b∈fp,b=S\/s.heap.objs.size<=b)->(∀b∈fp,b<g.objs.size)->(∀b o,s.heap.get? b=some o->g.get? b=some o) ->
   (∀fk,ItemsOf P fk es.size->fk.toList.Perm (es.toList.map (·.2)))->Q (.ref it) { s with heap:=g,drawn:=d }):wpAny (model prog w) A (pyIter (.ref S)) Q E s:=by
 obtain⟨o,ho,oQ,hd⟩:=hS.ex
 have T:Shared.TypeIs s (.ref S) "set":=⟨o,ho,oQ.1⟩
 have hSlt:=av ho
 refine kJ T PySem.F.slot_set_iter (bD PySem.F.slot_set_iter T qD ?_ (PySem.F.args_set_iter_1 _))
 show wpAny _ _ (Builtin.Frozenset.sizeOf S >>= _) _ _ s
 unfold Builtin.Frozenset.sizeOf
 refine aa (aa (d_ ho hd hS.fits (ai ?_)))
 unfold setDrawn
 refine aa (aa (cU ho hd hS.fits ?_))
 dsimp only
 refine aa (jK (ai ?_))
 by_cases hdr:(!lN w&&(!t.plain&&decide (es.size>1)))=true
 ·show wpAny _ _ (if (!lN w&&(!t.plain&&decide (es.size>1)))=true then _ else _) _ _ _
  rw[am hdr]
  refine aa (vJ es.size (List.range es.size) _ _ (by simp) fun pl hp d=>?_)
  have hl:pl.length=es.size:=by have:=hp.length_eq;simpa using this
  refine aa (wpAny_newTuple ?_ (by rw[az,hl];exact hsz))
  have hS1:fU w (s.heap.push { cls:=.type "tuple",data:=.seq (pl.map fun i:Nat=>rawInt i).toArray }) S es ep t:=hS.keep fun o e=>ag _ e
  obtain⟨o1,ho1,_,hd1⟩:=hS1.ex
  refine aa (kK (s:={ s with heap:=s.heap.push { cls:=.type "tuple",data:=.seq (pl.map fun i:Nat=>rawInt i).toArray },drawn:=d }) ho1 hd1 hS.fits ?_)
  refine aa (bx (ai ⟨_,rfl,"set_iterator",_,⟨_,ar _ rfl,rfl⟩,dz.lookup,?_⟩))
  have z:(s.heap.push { cls:=.type "tuple",data:=.seq (pl.map fun i:Nat=>rawInt i).toArray }).objs.size=s.heap.objs.size+1:=bh ..
  refine q _ d _ [_,s.heap.objs.size,S] _ _ (fun A hA=>xk (p:=s.heap.objs.size) (t:=t) (ep:=ep) hA hp rfl ?_ ?_) ⟨br _,ar _ rfl,⟨_,ag _ (ar _ rfl),rfl,0,rfl⟩,hS1.keep fun o e=>ag _ e⟩ ?_ (fun b hb=>?_) (fun b hb=>?_) (fun b o e=>ag _ (ag _ e)) fun fk hacc=>?_
  ·rw[z];exact du (bz hSlt)
  ·rw[z];exact Nat.succ_ne_self _
  ·rw[z];exact a8 _
  ·simp only[aC,cu,gP]at hb
   rcases hb with rfl|rfl|rfl
   ·rw[z];exact .inr (a8 _)
   ·exact .inr (ah _)
   ·exact .inl rfl
  ·simp only[aC,cu,gP]at hb
   have z2:∀o2,((s.heap.push { cls:=.type "tuple",data:=.seq (pl.map fun i:Nat=>rawInt i).toArray }).push o2).objs.size=s.heap.objs.size+2:=fun o2=>by rw[bh,z]
   rw[z2]
   rcases hb with rfl|rfl|rfl
   ·rw[z];exact bB _
   ·exact bz (bB _)
   ·exact bz (bz hSlt)
  ·have e:fk.toList=pl.map fun k=>(es.getD k (0,.none)).2:=by
    apply e_
    intro i
    rw[aL]
    by_cases hi:i<es.size
    ·have hia:i<fk.size:=by rw[hacc.1];exact hi
     have ha:fk[i]?=some (fk[i]'hia):=aS hia
     obtain⟨k,x,h1,h2,h3⟩:=hacc.2 i _ ha
     rw[aF,ha,h1]
     have:es.getD k (0,.none)=x:=by rw[bN,h2];rfl
     rw[h3]
     show some x.2=some (es.getD k (0,.none)).2
     rw[this]
    ·rw[bd (by rw[aO,hacc.1];omega),bd (by omega)];rfl
   rw[e]
   refine(hp.map _).trans (List.Perm.of_eq ?_)
   exact uS _ es.toList (·.2) es.size (by simp) fun i x hx=>by
    have hx':es[i]?=some x:=by rw[<- aF];exact hx
    rw[bN,hx'];rfl
 ·show wpAny _ _ (if (!lN w&&(!t.plain&&decide (es.size>1)))=true then _ else _) _ _ _
  rw[au hdr]
  refine aa (ai (aa (kK ho hd hS.fits ?_)))
  refine aa (bx (ai ⟨_,rfl,"set_iterator",_,⟨_,ar _ rfl,rfl⟩,dz.lookup,?_⟩))
  have fin:∀(vs:List Value) (sl:Nat->Nat),sl 0=0->vs.Perm (es.toList.map (·.2))->(∀(s:Shared) (i:Nat),fU w s.heap S es ep t->i<=es.size->∀(A:Around) (Q':Option (Value×Nat)->Shared->Prop) (E':Value->Shared->Prop),Q' ((vs[i]?).map fun v=>(v,sl (i+1))) s->wpAny (model prog w) A (setNext S (sl i) i ep) Q' E' s) ->
    Q (.ref s.heap.objs.size) { s with heap:=s.heap.push (mT (rawInt 0) 0 S es.size ep) }:=fun vs sl h0 hp hx=>by
   have hl:vs.length=es.size:=by have:=hp.length_eq;simpa using this
   refine q _ s.drawn s.heap.objs.size [s.heap.objs.size,S] _ _ (fun A hA=>ug (t:=t) (ep:=ep) (vs:=vs) (sl:=sl) hA hl rfl (du hSlt) hx) ⟨br _,?_,hS.keep fun o e=>ag _ e⟩ (ah _) (fun b hb=>?_) (fun b hb=>?_) (fun b o e=>ag _ e) fun fk hacc=>?_
   ·rw[h0];exact ar _ rfl
   ·simp only[aC,cu,gP]at hb
    rcases hb with rfl|rfl
    ·exact .inr (ah _)
    ·exact .inl rfl
   ·simp only[aC,cu,gP]at hb
    rw[bh]
    rcases hb with rfl|rfl
    ·exact bB _
    ·exact bz hSlt
   ·have e:fk.toList=vs:=by
     apply e_
     intro i
     by_cases hi:i<es.size
     ·have hia:i<fk.size:=by rw[hacc.1];exact hi
      have ha:fk[i]?=some (fk[i]'hia):=aS hia
      rw[aF,ha,hacc.2 i _ ha]
     ·rw[bd (by rw[aO,hacc.1];omega),bd (by omega)]
    rw[e];exact hp
  cases hb:lN w with
  |true=>exact fin ((pickOrder (w.params.setOrder S ep) es).toList.map (·.2)) (fun _=>0) rfl ((uf _ _).map _) fun s i hS' hi A Q' E' y=>uh hb hS' y
  |false=>
   have h1:es.size<=1:=by
    rcases vq.2 with z|z
    ·omega
    ·rw[hb,z]at hdr;simp at hdr;omega
   have C4:t.led=true:=vq.1.resolve_left (by rw[hb];exact cD)
   exact fin (es.toList.map (·.2)) (fun i=>if i=0 then 0 else t.place.getD 0 0+1) rfl (dY _) fun s i hS' hi A Q' E' y=>A5 hb hS' C4 h1 hi y
end
section
variable{prog:Program}{w:World}{A:Around}{E:Value->Shared->Prop}{s:Shared}
theorem vO{S:Addr}{Q:Bool->Shared->Prop}(T:s.TypeIs (.ref S) "set")(q:Q false s):wpAny (model prog w) A (Builtin.List.listLengthHint (.ref S)) Q E s:=by
 unfold Builtin.List.listLengthHint
 refine aa (wpAny_specialOf T PySem.F.slot_set_len.lookup ?_)
 generalize hid:("set.__len__":String)=id0
 wp_delta
 rw[show splitId id0=some ("set","__len__")from by subst hid;decide +kernel]
 subst hid
 refine aa (gE (T:="set") (b:=true) T (by rw[cH];kernel_rfl) ?_)
 refine ju (fun y=>absurd y (by decide)) (fun _=>ju (fun _=>?_) (fun y=>absurd (by decide +kernel) y))
 exact aa (fR T (ai q))
theorem vP{S:Addr}{es:Array (Int×Value)}{ep:Nat}{t:SetTable}{Q:List Value->Shared->Prop}(hS:fU w s.heap S es ep t)(vq:yB w es.size t)(hsz:es.size<=sizeLine)(hh:A.handled=none)
  (q:∀(g:Heap) (d:Drawn) (tk:Nat) (vs:List Value),(∀b o,s.heap.get? b=some o->g.get? b=some o)->vs.Perm (es.toList.map (·.2))->Q vs { s with heap:=g,drawn:=d,toks:=tk }):wpAny (model prog w) A (collect (.ref S)) Q E s:=by
 obtain⟨o,ho,oQ,hd⟩:=hS.ex
 have hSlt:=av ho
 unfold collect
 refine aa (iD (bI jk ?_))
 rw[bt PySem.F.plain_proto_collect _]
 show wpAny _ A.in1 (newList [] >>= fun l=>again (.builtin "list.__iadd__" ⟨[l,.ref S],[]⟩)) _ _ s
 refine aa (bx (ai ⟨cL PySem.F.plain_list_iadd _,bI lD ?_⟩))
 rw[bt PySem.F.plain_list_iadd _]
 generalize hL:s.heap.objs.size=L
 have gL:(s.heap.push { cls:=.type "list",data:=.seq ([]:List Value).toArray }).get? L=some { cls:=.type "list",data:=.seq #[] }:=by rw[<- hL];exact ar _ rfl
 have hS1:fU w (s.heap.push { cls:=.type "list",data:=.seq ([]:List Value).toArray }) S es ep t:=hS.keep fun o e=>ag _ e
 have z1:(s.heap.push { cls:=.type "list",data:=.seq ([]:List Value).toArray }).objs.size=L+1:=by rw[bh,hL]
 have kp1:∀b o,s.heap.get? b=some o->(s.heap.push { cls:=.type "list",data:=.seq ([]:List Value).toArray }).get? b=some o:=fun b o e=>ag _ e
 have bL:∀b o,s.heap.get? b=some o->b≠L:=fun b o e=>by rw[<- hL];exact aK (av e)
 generalize s.heap.push { cls:=.type "list",data:=.seq ([]:List Value).toArray }=h1 at gL hS1 z1 kp1 ⊢
 have yn:L≠S:=by rw[<- hL];exact du hSlt
 obtain⟨o1,ho1,hex1,hd1⟩:=hS1.ex
 have T:Shared.TypeIs { s with heap:=h1 } (.ref S) "set":=⟨o1,ho1,hex1.1⟩
 show wpAny _ A.in1 (Builtin.List.listExtendWith (.ref L) (.ref S) (.ref L)) _ _ _
 unfold Builtin.List.listExtendWith
 refine aa (fR (T:="set") T ?_)
 have e1:Builtin.List.listSameRef (.ref L) (.ref S)=false:=by simp[Builtin.List.listSameRef,yn]
 have e2:(Value.type "set" == Value.type "list")=false:=by decide
 have e3:(Value.type "set" == Value.type "tuple")=false:=by decide
 simp only[e1,e2,e3,jd,bY,cA]
 refine aa (vN (s:={ s with heap:=h1 }) hS1 vq hsz fun g d it fp P St W st lK zk hfl kp2 hperm=>?_)
 have gL2:=kp2 _ _ gL
 have hLf:L∉fp:=fun hm=>by
  rcases zk L hm with y|y
  ·exact yn y
  ·rw[show Shared.heap { s with heap:=h1 }=h1 from rfl,z1]at y;exact absurd y (oO.mpr (bB _))
 obtain⟨o2,ho2,hex2,hd2⟩:=(hS1.keep fun o e=>kp2 S o e).ex
 refine aa (bE (vO (s:={ s with heap:=g,drawn:=d }) ⟨o2,ho2,hex2.1⟩ ?_))
 have itL:it≠L:=fun y=>by
  have:=lK
  rw[show Shared.heap { s with heap:=h1 }=h1 from rfl,z1,y]at this
  exact absurd this (oO.mpr (bB _))
 have old:∀b o,s.heap.get? b=some o->b≠it:=fun b o e y=>by
  have h2:=av (kp1 b o e)
  have h3:=lK
  rw[show Shared.heap { s with heap:=h1 }=h1 from rfl]at h3
  rw[y]at h2
  exact absurd h2 (fx.mpr h3)
 have key:∀(g':Heap) (c tk:Nat),St 0 g'->(∀b o,b≠L->g.get? b=some o->g'.get? b=some o)->g'.get? L=some { cls:=.type "list",data:=.seq #[] c } ->
   codeAny (model prog w) A (.builtin "list.extend.loop" ⟨[.ref L,.ref it,.ref L],[]⟩) (wants (fun r s'=>wpAny (model prog w) A (match r with|.ref a=>(do match (<- load a).data with|.seq xs _=>pure xs.toList|_=>unsupported "internal:collect")|_=>unsupported "internal:collect") Q E s') E) { s with heap:=g',drawn:=d,toks:=tk }:=by
  intro g' c tk bp kp3 gL3
  refine codeAny_extend_loopS (W A.in1 (by simpa using hh)).toS hsz L hLf (.ref L) es.size 0 _ #[] c rfl (br _) bp gL3 (ItemsOf.nil _) fun s' fk c' hm gL4 hacc=>?_
  have ee:s'={ s with heap:=s'.heap,drawn:=d,toks:=s'.toks }:=by
   have h1:=hm.gens
   have h2:=hm.drawn
   have h3:=hm.os
   cases s'
   simp only at h1 h2 h3
   subst h1;subst h2;subst h3;rfl
  refine aa (oM gL4 (ai ?_))
  rw[ee]
  refine q s'.heap d s'.toks fk.toList (fun b o e=>hm.heap b o (fun y=>?_) (kp3 b o (bL b o e) (kp2 b o (kp1 b o e)))) (hperm fk hacc)
  rcases aC.mp y with y|y
  ·exact bL b o e y
  ·exact old b o e (aG.mp y)
 refine ju (fun _=>?_) (fun _=>ai ⟨cL PySem.F.plain_extend_loop _,key g 0 _ st (fun _ _ _ e=>e) gL2⟩)
 refine aa (dL (aa ?_))
 show wpAny _ _ (updateSeq L (·.push .none) >>= fun _=>updateSeq L (·.pop)) _ _ _
 refine aa (gW gL2 rfl ?_)
 have g5:=bF (Obj.mapSeq (·.push Value.none)) gL2 rfl
 refine gW (hz:=by seq_fits) g5 rfl ?_
 have g6:=bF (Obj.mapSeq (·.pop)) g5 rfl
 refine ai ⟨cL PySem.F.plain_extend_loop _,key _ _ _ ((W A hh).frame 0 _ _ st fun b hb o e=>?_) (fun b o hb e=>?_) g6⟩
 ·have hbL:b≠L:=fun y=>hLf (y▸hb)
  exact(bf _ _ (Ne.symm hbL)).trans ((bf _ _ (Ne.symm hbL)).trans e)
 ·exact(bf _ _ (Ne.symm hb)).trans ((bf _ _ (Ne.symm hb)).trans e)
end
end L2
namespace L2
variable{nk:Nat}
open PySem PySem.Spec PyProof.Rows
section
variable{prog:Program}{w:World}{A:Around}{E:Value->Shared->Prop}{s:Shared}
theorem xl{n:Nat}{S:Addr}{ks:List Str}{Q:Value->Shared->Prop}(z:rV prog w n s.heap S ks)(Fa:ks.length<64)(hh:A.handled=none)
  (q:∀(g0 g1:Heap) (d:Drawn) (tk:Nat) (out:Array Value) (ss:List Str) (e:Nat),(∀b o,s.heap.get? b=some o->g0.get? b=some o)->(∀b o,g0.get? b=some o->g1.get? b=some o)->g1.get? g0.objs.size=some (seqObj "list" out e) ->
   gN n out.toList->StrsAre out.toList ss->ss.Perm ks->sortedS ss=true->Q (.ref g0.objs.size) { s with heap:=g1,drawn:=d,toks:=tk }):wpAny (model prog w) A (call (.builtin "sorted") [.ref S]) Q E s:=by
 obtain⟨o,es,ep,t,ho,oQ,hd,hel,hp,hb,hf,vq,hta⟩:=z
 have hS:fU w s.heap S es ep t:=⟨⟨o,ho,oQ,hd⟩,hf⟩
 have eZ:es.size=ks.length:=by have:=hp.length_eq;simpa using this
 apply gG kind_sorted pS pT (pU _)
 show wpAny _ _ (checkCount "sorted" 1 1 _ >>= _) _ _ _
 refine aa (ai (aa (vP hS vq (by rw[gr];omega) (by simpa using hh) fun g d tk vs kp pv=>?_)))
 have hv:∀v∈vs,∃x t,v=Value.str x t:=fun v hv=>by
  obtain⟨e,he,rfl⟩:=bC.mp (pv.mem_iff.mp hv)
  obtain⟨t,ht⟩:=vI hel e he
  exact⟨_,t,ht⟩
 have jq:=strsAre_map vs hv
 have hks:(vs.map strOf).Perm ks:=by
  refine(pv.map strOf).trans ?_
  rw[bb];exact hp
 have hvl:vs.length<64:=by have:=hks.length_eq;rw[az]at this;omega
 refine aa (k7 ?_ (by rw[gr];omega))
 have oL:(g.push (seqObj "list" vs.toArray 0)).get? g.objs.size=some (seqObj "list" vs.toArray 0):=ar _ rfl
 refine aa (bE (bD nv ⟨_,oL,rfl⟩ mx (list_sort_treeK ol oL jq.keysOf (fun a b r e=>pR (by rw[<- e];exact jq)) hvl fun st a1 a2=>⟨_,rfl,?_⟩) (ny _)))
 obtain⟨ss,h1,h2,h3⟩:=nn jq a1 a2
 obtain⟨e,he⟩:=om (out:=(arrOf st).map (·.2)) oL
 refine ai ⟨_,rfl,q g _ d tk _ ss e kp (fun b o hb=>?_) he (fun x t hx=>hta x t (pv.mem_iff.mp (rT a1 _ hx))) h1 (h2.trans hks) h3⟩
 rw[nz (aK (av hb)) (by rw[bh];exact bz (av hb))]
 exact ag _ hb
abbrev Kh(ty:String)(x:Str)(t:Tok):Obj:={ cls:=.type ty,data:=.fields #[.str x t,.int 0 0] }
theorem A6{l:List Nat}{t:Tok}{Q:Value->Shared->Prop}(wP:0<s.toks)(hh:A.handled=none)(hb:l.length+1<scanBound)
  (q:∀g tk,s.toks<=tk->Ft prog w tk (fun j=>tx [l.getD j 0]) g s.heap.objs.size l.length->(∀b o,s.heap.get? b=some o->g.get? b=some o)->Q (.ref s.heap.objs.size) { s with heap:=g,toks:=tk }):wpAny (model prog w) A (call (.type "set") [.str (tx l) t]) Q E s:=by
 have z:(s.heap.push (bJ w)).objs.size=s.heap.objs.size+1:=bh ..
 have hn:(tx l).cps.size=l.length:=by simp[tx]
 have pM:∀i v,SignAt (tx l) i v->∃t,v=Value.str (tx [l.getD i 0]) t:=by
  rintro i v ⟨c,u,hc,rfl⟩
  have:l[i]?=some c:=by simpa[tx]using hc
  exact⟨u,by rw[aI,this];rfl⟩
 have hT:Shared.TypeIs { s with heap:=s.heap.push (bJ w) } (.str (tx l) t) "str":=jY _ _ _
 rw[<- hn]at hb q
 cases ha:(tx l).cps.all (· < 128)
 ·refine kO (T:="str") (fp:=fun it=>[it]) (P:=SignAt (tx l)) (St:=fun it i h=>h.IsStrIter it "str_iterator" (tx l) t i) hT (by rw[cH];kernel_rfl) (by rw[cH];kernel_rfl) (by decide)
   (fun A E Q y=>kH ha (by show Q (.ref (s.heap.push (bJ w)).objs.size) _;rw[z];exact y)) (fun A it hA _=>Walks.strWide hA it (tx l) t) (by simp) ⟨Kh "str_iterator" (tx l) t,?_,rfl,rfl⟩ pM hh hb (fun A hA i s' Q E hn hi st q=>by
    obtain⟨c,hx⟩:∃c,(tx l).cps[i]?=some c:=⟨_,aS hi⟩
    refine iz st hx fun h' bp hs=>q _ h' (s'.toks+1) (a8 _) (fun x u hx' _=>?_) ⟨c,_,hx,rfl⟩ bp fun b o hb e=>hs.extBut b o (fun z=>hb (by simp[z])) e
    rw[aG]at hx'
    cases hx'
    exact⟨ay wP hn,bB _⟩) q
  rw[<- z];exact ar _ rfl
 ·refine kO (T:="str") (fp:=fun it=>[it]) (P:=SignAt (tx l)) (St:=fun it i h=>h.IsStrIter it "str_ascii_iterator" (tx l) t i) hT (by rw[cH];kernel_rfl) (by rw[cH];kernel_rfl) (by decide)
   (fun A E Q y=>jZ ha (by show Q (.ref (s.heap.push (bJ w)).objs.size) _;rw[z];exact y)) (fun A it hA _=>Walks.strAscii hA it (tx l) t) (by simp) ⟨Kh "str_ascii_iterator" (tx l) t,?_,rfl,rfl⟩ pM hh hb (fun A hA i s' Q E hn hi st q=>by
    obtain⟨c,hx⟩:∃c,(tx l).cps[i]?=some c:=⟨_,aS hi⟩
    refine ii st hx fun h' bp hs=>q _ h' (s'.toks+1) (a8 _) (fun x u hx' _=>?_) ⟨c,_,hx,rfl⟩ bp fun b o hb e=>hs.extBut b o (fun z=>hb (by simp[z])) e
    rw[aG]at hx'
    cases hx'
    exact⟨ay wP hn,bB _⟩) q
  rw[<- z];exact ar _ rfl
theorem Ec{l:List Nat}{a:Addr}{bv:List Value}{Q:Value->Shared->Prop}(hh:A.handled=none)(hb:l.length+1<scanBound)(ht:s.heap.IsTuple a bv.toArray)(hv:b7 s.toks (io l) bv)
  (q:∀g tk,s.toks<=tk->Ft prog w tk (fun j=>tx [l.getD j 0]) g s.heap.objs.size l.length->(∀b o,s.heap.get? b=some o->g.get? b=some o)->Q (.ref s.heap.objs.size) { s with heap:=g,toks:=tk }):wpAny (model prog w) A (call (.type "set") [.ref a]) Q E s:=by
 have z:(s.heap.push (bJ w)).objs.size=s.heap.objs.size+1:=bh ..
 have hn:bv.toArray.size=l.length:=by have:=hv.length;unfold io at this;simpa using this.symm
 have ha:a<s.heap.objs.size:=by obtain⟨o,ho,_⟩:=ht;exact av ho
 have ht1:(s.heap.push (bJ w)).IsTuple a bv.toArray:=ht.at fun o e=>ag _ e
 have pM:∀i v,bv.toArray[i]?=some v->∃t,v=Value.str (tx [l.getD i 0]) t:=by
  intro i v hi
  have hi':bv[i]?=some v:=by simpa using hi
  have hlt:i<l.length:=by
   have:=(al.mp hi').1
   rw[<- hn];simpa using this
  have hx:(io l)[i]?=some (.str (tx [l.getD i 0])):=by
   unfold io
   rw[aL,af hlt,aI,af hlt];rfl
  obtain⟨u,hu,t,e⟩:=hv.get hx
  rw[hi']at hu
  exact⟨t.1,(be hu).trans e⟩
 rw[<- hn]at hb q
 refine kO (T:="tuple") (fp:=fun it=>[it,a]) (P:=fun i v=>bv.toArray[i]?=some v) (St:=fun it i h=>h.IsTupleIter it a i/\h.IsTuple a bv.toArray) ht1.typeIs (by rw[cH];kernel_rfl) (by rw[cH];kernel_rfl) (by decide)
  (fun A E Q y=>g7 ht1 (by show Q (.ref (s.heap.push (bJ w)).objs.size) _;rw[z];exact y)) (fun A it hA e=>Walks.tuple hA it a (by rw[e];exact aK (bz ha)) bv.toArray) (by simp;exact fun e=>absurd ha (by rw[<- e];exact b_ _)) ⟨⟨{ cls:=.type "tuple_iterator",data:=.fields #[.ref a,.int 0 0] },?_,rfl,rfl⟩,?_⟩ pM hh hb (fun A hA i s' Q E hn hi st q=>by
   refine up ((Walks.tuple hA (s.heap.objs.size+1) a (aK (bz ha)) bv.toArray).item i s' _ _ hi st fun v h' tk hp bp kp iR=>q v h' tk iR (fun x u hx=>?_) hp bp kp)
   rw[aG]at hx
   subst hx
   exact((oY hv).up (aA hn iR)) x u (by have hp:bv.toArray[i]?=some _:=hp;exact bV (by simpa using hp))) q
 ·rw[<- z];exact ar _ rfl
 ·exact ht1.at fun o e=>ag _ e
end
theorem Ed{l:List Nat}{ss ks:List Str}(hp:ss.Perm ks)(LI:ks.Nodup)(hm:∀x,x∈ks↔∃j,j<l.length/\tx [l.getD j 0]=x)(hs:sortedS ss=true) :
  ∃m:List Nat,ss=m.map (fun c=>tx [c])/\m.Nodup/\m.Pairwise (· <= ·)/\∀c,c∈m↔c∈l:=by
 have all:∀z∈ss,tx [z.cps.toList.headD 0]=z:=fun z hz=>by
  obtain⟨j,_,e⟩:=(hm z).mp (hp.mem_iff.mp hz)
  subst e;rfl
 have em:ss=(ss.map fun z=>z.cps.toList.headD 0).map fun c=>tx [c]:=by
  rw[bb]
  conv=>lhs;rw[<- ij ss]
  exact cw fun z hz=>(all z hz).symm
 refine⟨ss.map fun z=>z.cps.toList.headD 0,em,?_,?_,fun c=>?_⟩
 ·have nd:ss.Nodup:=hp.nodup_iff.mpr LI
  rw[em]at nd
  exact List.Pairwise.of_map (fun c=>tx [c]) (fun a b h e=>h (by rw[e])) nd
 ·refine vH _ ?_
  rw[bb]
  rw[em]at hs
  exact hs
 ·constructor
  ·intro hc
   obtain⟨z,hz,rfl⟩:=bC.mp hc
   obtain⟨j,hj,e⟩:=(hm z).mp (hp.mem_iff.mp hz)
   subst e
   show l.getD j 0∈l
   rw[aI,af hj]
   exact bU hj
  ·intro hc
   obtain⟨j,hj,e⟩:=fy hc
   refine bC.mpr ⟨tx [c],hp.mem_iff.mpr ((hm _).mpr ⟨j,hj,?_⟩),rfl⟩
   rw[aI,af hj,e];rfl
def Ee(K:Frag)(H:Hp)(v:V)(l:List Nat):Prop:=v=.str (tx l)\/∃a,v=.ref a/\gH K H a (io l)
def A7(K:Frag)(te:TE):TE:=fun σ H Q=>te σ H fun v H1=>∃l,Ee K H1 v l/\l.length<4000/\(∀m:List Nat,m.Nodup->(∀c∈m,c∈l)->m.length<64) /\
 ∀m:List Nat,m.Nodup->m.Pairwise (· <= ·)->(∀c,c∈m↔c∈l)->∀a H2,H1 a=none->H2=gb H1 a (.lst (m.map fun c=>V.str (tx [c])))->Q (.ref a) H2
theorem bi.kept2{X:Cx}{ae:List (Addr×Obj)}{σ:St}{H:Hp}{s:Shared}{h':Heap}{t':Nat}{d':Drawn}(I:bi X ae σ H s)(k:∀b o,s.heap.get? b=some o->h'.get? b=some o)(hk:s.toks<=t':=by first|exact ah _|exact a8 _|assumption|omega):bi X ae σ H { s with heap:=h',drawn:=d',toks:=t' }:=
 I.step (g':=s.gens) (ch:=[]) (fun _ z=>nomatch z) (fun b o _ _ _ e _=>k b o e) (fun b o _ _ _ e _=>⟨o.slots,k b o e⟩) (fun _ _ _ _ n=>n) (fun b o _ e=>⟨o,k b o e⟩) (fun _ _ e=>e) (fun _ _ _ e=>e) (fun b ps e=>⟨#[],by rw[e];simp⟩)
  (fun m hm=>let ⟨o,es,ep,ho,r⟩:=hm;⟨o,es,ep,k _ o ho,r⟩) ((I.hok.kept k).up hk) I.bare hk
theorem zH{X:Cx}{p1 p2 yg qy:Pos}{e:Expr}{te:TE}(h1:X.mg "sorted"=none)(h3:X.mg "set"=none)(he:QE X e te)(hc:X.calm=true:=by rfl)
  (Jm:Gl X "sorted":=by rfl) (Fb:Gl X "set":=by rfl) (Fg:starEach [e] X.env=(false,eval e X.env)::starEach [] X.env:=by rfl):QE X (.Call (.Name "sorted" p1) [.Call (.Name "set" p2) [e] [] qy] [] yg) (A7 X.K te):=⟨by
 intro ae s σ H Q I h
 refine cF (lL I Jm h1 k8 (fI ?_) (by decide) (by decide))
 show wpAny _ _ (spliced ((false,eval (.Call (.Name "set" p2) [e] [] qy) X.env)::[])) _ _ s
 refine cX (cF (lL I Fb h3 mM (c9 ?_ Fg rfl) (by decide) (by decide)))
 rw[Fg]
 show wpAny _ _ (spliced ((false,eval e X.env)::[])) _ _ s
 refine cX (jx (he.h ae s σ H _ I h) fun u s1 kt1 ⟨v,H1,I1,r1,l,hl,hb,Fa,q⟩=>d5 ?_)
 have hh:X.A.handled=none:=I1.ok.hd hc
 have hb':l.length+1<scanBound:=by unfold scanBound;omega
 have fin:∀g tk,s1.toks<=tk->Ft X.prog X.w tk (fun j=>tx [l.getD j 0]) g s1.heap.objs.size l.length->(∀b o,s1.heap.get? b=some o->g.get? b=some o) ->
   wpAny (model X.prog X.w) X.A (spliced []) (fun vs s₂=>wpAny (model X.prog X.w) X.A (call (.builtin "sorted") (.ref s1.heap.objs.size::vs)) (EP X ae σ Q) X.xe s₂) X.xe { s1 with heap:=g,toks:=tk }:=fun g tk iR hM kp=>by
  refine d5 ?_
  obtain⟨ks,z,nd,mem,len⟩:=hM
  have oJ:ks.length<64:=by
   obtain⟨m,em,mn,_,mm⟩:∃m:List Nat,ks=m.map (fun c=>tx [c])/\m.Nodup/\True/\∀c∈m,c∈l:=by
    have all:∀z∈ks,tx [z.cps.toList.headD 0]=z:=fun z hz=>by
     obtain⟨j,_,e⟩:=(mem z).mp hz
     subst e;rfl
    have em:ks=(ks.map fun z=>z.cps.toList.headD 0).map fun c=>tx [c]:=by
     rw[bb]
     conv=>lhs;rw[<- ij ks]
     exact cw fun z hz=>(all z hz).symm
    refine⟨_,em,?_,trivial,fun c hc=>?_⟩
    ·have nd':=nd
     rw[em]at nd'
     exact List.Pairwise.of_map (fun c=>tx [c]) (fun a b h e=>h (by rw[e])) nd'
    ·obtain⟨z,hz,rfl⟩:=bC.mp hc
     obtain⟨j,hj,e⟩:=(mem z).mp hz
     subst e
     show l.getD j 0∈l
     rw[aI,af hj]
     exact bU hj
   rw[em,az]
   exact Fa m mn mm
  refine up (xl z oJ hh fun g0 g1 d tk' out ss ep k0 k1 gL hta jq hperm hsrt hle2=>?_)
  have hle2:tk<=tk':=hle2
  have hle3:s1.toks<=tk':=aA iR hle2
  obtain⟨m,em,mn,mp,mm⟩:=Ed hperm nd mem hsrt
  have I2:bi X ae σ H1 { s1 with heap:=g0,drawn:=d,toks:=tk' }:=I1.kept2 fun b o e=>k0 b o (kp b o e)
  have qP:H1 g0.objs.size=none:=I2.hok.fresh (ah _)
  have hvals:b7 tk' (m.map fun c=>V.str (tx [c])) out.toList:=by
   have e:=lM jq (hta.up hle2)
   rw[em,bb]at e
   exact e
  refine⟨.ref g0.objs.size,_,I2.laid (o:=.lst (m.map fun c=>V.str (tx [c]))) (t':=tk') k1 (ah _) ?_,rfl,q m mn mp mm _ _ qP rfl⟩
  refine⟨?_,out.toList,ep,hvals,gL⟩
  rw[az]
  exact aA (dQ (Fa m mn fun c hc=>(mm c).mp hc)) (by decide)
 rcases hl with rfl|⟨a,rfl,hT⟩
 ·obtain⟨t,rfl⟩:=r1
  exact A6 I1.pos hh hb' fin
 ·cases r1
  obtain⟨bv,rv,ht,_⟩:=I1.tuple hT
  exact Ec hh hb' ht rv fin⟩
end L2
namespace L2
open PySem PySem.Spec PyProof.Rows
section
variable{prog:Program}{w:World}{A:Around}{E:Value->Shared->Prop}{s:Shared}
end
section
variable{X:Cx}{oH tg dq:Expr}{lJ:List Expr}{scope:Scope}{pos:Pos}{nm:List Str}{cl:List (Str×Addr)}{cap:List (Option Nat)}{wi:TI}{g:TG}{tc:TT}{te:TE}
theorem xn{x0:Str}{p0 p1:Pos}{gx:TG}(LZ:PG X (.Name x0 p0) gx)(LW:swapsWith (.ListComp oH [⟨tg,dq,lJ,0⟩] scope pos) (some (.Name x0 p0)) p1.line X.env=pure true)(iQ:X.calm=true)(tm:closureFor scope X.env=pure cl)(kh:∀x c,cl.lookup x=some c->X.env.cells.lookup x=some c)
  (iS:scope.kind=.function) (oK:∀x∈scope.names,x.2=.local->scope.names.lookup x.1=some .local) (eU:∀y∈scope.names,y.2≠.cell)
  (yk:∀x,((relabel scope X.env).names.lookup x=some .cell\/(relabel scope X.env).names.lookup x=some .free)->∃c,cl.lookup x=some c)
  (qY:∀(i j:Nat),cap[i]?=some (some j)->∃x,nm[i]?=some x/\X.N[j]?=some x/\rN X scope cl x) (eZ:cap.length=nm.length)
  (hi:PI X tg dq wi) (hg:∀C s0 H0 fp,PG (c_ X nm scope cl C s0 H0 fp) tg g) (ht:∀C s0 H0 fp,AT (c_ X nm scope cl C s0 H0 fp) lJ tc)
  (he:∀C s0 H0 fp,PE (c_ X nm scope cl C s0 H0 fp) oH te) (hs:∀x,foldedSetIterable dq X.env x=pure x:=by intro _;rfl) :
  PS X (.Assign [.Name x0 p0] (.ListComp oH [⟨tg,dq,lJ,0⟩] scope pos) p1) (DM (rM cap wi g tc te) gx):=by
 intro ae s σ H D I h
 rw[exec_Assign_Name_used _ _ _ _ LW]
 suffices main:wpAny (model X.prog X.w) X.A (comprehension (.ListComp oH [⟨tg,dq,lJ,0⟩] scope pos) scope X.env (firstIterPos [⟨tg,dq,lJ,0⟩] pos) (newList []) (firstAsync [⟨tg,dq,lJ,0⟩]) (firstIter [⟨tg,dq,lJ,0⟩] X.env) (some (assign (.Name x0 p0) X.env))) (fun _ s'=>SP X ae D .next s') X.xe s from
  aa (n_ (aa (aa (fP main (fun _ s' h=>ai (ai h)) fun _ _ z=>z))))
 refine t9 iQ tm kh iS oK eU yk qY eZ hi hg ht he hs I h fun s4 C D m4 Hn I4 B q=>?_
 obtain⟨oC,es,ep,hoC,hdC,hrC⟩:=B.ns
 refine fP (LZ _ s4 σ _ (.ref D) (.ref D) _ (I4.pins_of (pins':=ae++[(C,oC)]) fun p hp=>?_) rfl q) (fun _ s5 h5=>?_) fun _ _ z=>z
 ·rcases aZ.mp hp with z|z
  ·exact I4.pin p (aT _ z)
  ·have e:p=(C,oC):=by simpa using z
   subst e
   exact⟨hoC,B.fr,B.nl,B.nf,fun v z=>by rw[hdC]at z;cases z⟩
 obtain⟨σ',H',I6,nx⟩:=h5
 have pC:=I6.pin (C,oC) (aT _ (aT _ (aG.mpr rfl)))
 have I7:bi X ae σ' H' s5:=I6.pins_of fun p hp=>I6.pin p (aT _ (cZ _ hp))
 have B7:vE X ae H' s5 C m4:=⟨⟨oC,es,ep,pC.1,hdC,hrC⟩,pC.2.1,B.nl,B.nf,B.hi,B.nc,B.np⟩
 exact⟨m4,B7.ns,fun h' hs'=>⟨σ',H',B7.off I7 hs',nx⟩⟩
end
theorem xo{X:Cx}{x0:Str}{p0 p1:Pos}{gx:TG}{oH tg dq:Expr}{lJ:List Expr}{scope:Scope}{pos:Pos}{nm:List Str}{cap:List (Option Nat)}{wi:TI}{g:TG}{tc:TT}{te:TE}{m:Nat}(LZ:QG X (.Name x0 p0) gx)(iQ:X.calm=true)
  (oG:X.env.cells=cellsFrom m X.env.scope.names []) (iS:scope.kind=.function) (hB:zE X.env.scope.names scope.names nm cap X.N=true)
  (hi:QI X tg dq wi) (hg:∀cl C s0 H0 fp,QG (c_ X nm scope cl C s0 H0 fp) tg g) (ht:∀cl C s0 H0 fp,MP (c_ X nm scope cl C s0 H0 fp) lJ tc)
  (he:∀cl C s0 H0 fp,QE (c_ X nm scope cl C s0 H0 fp) oH te) (hs:∀x,foldedSetIterable dq X.env x=pure x:=by intro _;rfl) (LW:swapsWith (.ListComp oH [⟨tg,dq,lJ,0⟩] scope pos) (some (.Name x0 p0)) p1.line X.env=pure true:=by first|rfl|kernel_rfl) :
  QS X (.Assign [.Name x0 p0] (.ListComp oH [⟨tg,dq,lJ,0⟩] scope pos) p1) (DM (rM cap wi g tc te) gx):=by
 have F:=Kg (nm:=nm) (cap:=cap) (fun x z=>by rw[oG];exact lg z) hB
 exact⟨xn LZ.h LW iQ F.clos F.cl iS F.nms F.cell F.has F.cp F.len hi.h (fun C s0 H0 fp=>(hg _ C s0 H0 fp).h) (fun C s0 H0 fp=>(ht _ C s0 H0 fp).h) (fun C s0 H0 fp=>(he _ C s0 H0 fp).h) hs⟩
open AutoSeq1 (wpAny_loadPart')
theorem A8(l b:Addr)(i1 i2:Array Value)(n1 n2:Nat)(d1 d2:Option Addr)(s1 s2:Array (Option Value))(h0:i1.isEmpty=true) :
  Meets (Builtin.«tuple.__add__» ⟨[.ref l,.ref b],[]⟩) (fun _ R s=>s.heap.get? l=some { cls:=.type "tuple",dict:=d1,data:=.seq i1 n1,slots:=s1 }/\s.heap.get? b=some { cls:=.type "tuple",dict:=d2,data:=.seq i2 n2,slots:=s2 }/\R (.ok (.ret (.ref b))) s):=
 .of_wp fun prog w A R s h=>by
  obtain⟨hp,g,d,tk,os⟩:=s
  obtain⟨e1,e2,h⟩:=h
  have a2:=PyProof.Rows.sub_tuple_tuple
  wp_walk using cJ e1,cJ e2
  exact⟨_,rfl,h⟩
def Ki(K:Frag):R2:=fun x y H Q=>∃a b xs ys,x=.ref a/\y=.ref b/\gH K H a xs/\gH K H b ys/\xs.length+ys.length<=sizeLine/\∀p H2,nP H H2->gH K H2 p (xs++ys)->Q (.ref p) H2
theorem Hh{X:Cx}:NS X (binaryOp .Add) (Ki X.K):=⟨by
 intro ae s σ H x y v u Q I rx ry h
 obtain⟨a,b,xs,ys,rfl,rfl,ha,hb,hz,q⟩:=h
 by_cases hx:xs=[]
 ·subst hx
  cases rx
  cases ry
  obtain⟨bv,r1,p1,_⟩:=I.tuple ha
  obtain⟨its2,r2,p2,_⟩:=I.tuple hb
  have e1:bv=[]:=r1.nil_iff.mpr rfl
  obtain⟨⟨c1,d1,g1,l1⟩,f1,hc1,n1,hd1⟩:=id p1
  obtain⟨⟨c2,d2,g2,l2⟩,f2,hc2,n2,hd2⟩:=id p2
  simp only at hc1 hd1 hc2 hd2
  subst hc1 hd1 hc2 hd2
  refine pP ⟨_,f1,rfl⟩ ⟨_,f2,rfl⟩ ly og PySem.F.slot_tuple_add PySem.F.entry_tuple_add (PySem.F.args_tuple_add_2 _ _) (A8 a b bv.toArray its2.toArray n1 n2 d1 d2 l1 l2 (by rw[e1];rfl)) ⟨f1,f2,?_⟩
  exact⟨.ref b,H,I,rfl,q b H (nP.refl H) hb⟩
 ·exact DW ae s σ H _ _ v u Q I rx ry ⟨a,b,xs,ys,rfl,rfl,ha,hb,hx,hz,fun e=>q a H (nP.refl H) (by rw[e,cI];exact ha),fun _ p hp=>q p _ (cC hp _) (gH.of gm)⟩⟩
end L2
namespace L2
variable{nk:Nat}
open PySem PySem.Spec PyProof.Rows
inductive W where
 |non|bl (b:Bool)|int (i:Int)|str (l:List Nat)|tup (ws:List W)|loc (n:Nat)
inductive DK where
 |i (z:Int)|s (l:List Nat)
deriving DecidableEq
def DK.key:DK->jf
 |.i z=>.inl z
 |.s l=>.inr (tx l)
inductive KX where
 |bo (b:Bool)|fl (ks:List Int)|pr (i:Int) (ks:List Int)
deriving DecidableEq
def KX.w:KX->W
 |.bo b=>.bl b
 |.fl ks=>.tup (ks.map W.int)
 |.pr i ks=>.tup [.int i,.tup (ks.map W.int)]
def A9(ks:List Int):Int:=reduceHash (Builtin.Tuple.tupleHashOf (ks.map hashInt))
def KX.hash:KX->Int
 |.bo b=>hashInt (if b then 1 else 0)
 |.fl ks=>A9 ks
 |.pr i ks=>reduceHash (Builtin.Tuple.tupleHashOf [hashInt i,A9 ks])
inductive aq where
 |lst (ws:List W)
 |ro (ws:List W)
 |exc (c:Str)
 |dct (kvs:List (DK×W))
 |tab (P:Addr) (pos:Pos) (q:Str)
 |rod (kvs:List (DK×W))
 |dcx (kvs:List (KX×W))
 |rox (kvs:List (KX×W))
 |obj (c:Str) (fs:List (Str×W))
 |pin (k:Bool) (c:Addr) (o:Obj) (w:W)
 |gone
abbrev jQ:Nat:=1000000
theorem lO{n:Nat}(h:n<=jQ):n<=sizeLine:=aA h (by decide)
theorem Hi{n:Nat}(h:n<=jQ):n<sizeLine:=dJ h (by decide)
inductive R(α:Type) where
 |ok (a:α) (st:List aq)
 |ex (c:Str) (st:List aq)
 |bad
def R.bind{α β:Type}:R α->(α->List aq->R β)->R β
 |.ok a st,k=>k a st
 |.ex c st,_=>.ex c st
 |.bad,_=>.bad
@[simp] theorem R.bind_ok{α β:Type}(a:α)(st:List aq)(k:α->List aq->R β):(R.ok a st).bind k=k a st:=rfl
@[simp] theorem R.bind_ex{α β:Type}(c:Str)(st:List aq)(k:α->List aq->R β):(R.ex c st:R α).bind k=.ex c st:=rfl
@[simp] theorem R.bind_bad{α β:Type}(k:α->List aq->R β):(R.bad:R α).bind k=.bad:=rfl
abbrev cn:=List (Option W)
inductive RS where
 |nx (ρ:cn) (st:List aq)|rt (w:W) (st:List aq)|bk (ρ:cn) (st:List aq)|ct (ρ:cn) (st:List aq)
 |ex (c:Str) (ρ:cn) (st:List aq)|bad
abbrev FE:=cn->List aq->R W
abbrev FT:=cn->List aq->R Bool
abbrev FA:=cn->List aq->R (List W)
abbrev FS:=cn->List aq->RS
section
variable(K:Frag)
mutual
def bj(μ:List Addr)(H:Hp):W->V->Prop
 |.non,v=>v=.non
 |.bl b,v=>v=.bl b
 |.int i,v=>v=.int i
 |.str l,v=>v=.str (tx l)
 |.tup ws,v=>∃p vs,v=.ref p/\gH K H p vs/\RelWs μ H ws vs
 |.loc n,v=>∃a,μ[n]?=some a/\v=.ref a
def RelWs(μ:List Addr)(H:Hp):List W->List V->Prop
 |[],vs=>vs=[]
 |w::ws,vs=>∃x xs,vs=x::xs/\bj μ H w x/\RelWs μ H ws xs
end
end
theorem yD{μ μ':List Addr}(h:μ <+: μ'){n:Nat}{a:Addr}(e:μ[n]?=some a):μ'[n]?=some a:=by
 obtain⟨t,rfl⟩:=h
 rw[bw (al.mp e).1];exact e
section
variable{K:Frag}{μ μ':List Addr}{H H':Hp}
mutual
theorem bj.mono(h:μ <+: μ')(e:eV K H H'):∀{w:W} {v:V},bj K μ H w v->bj K μ' H' w v
 |.non,_,r=>by unfold bj at r ⊢;exact r
 |.bl _,_,r=>by unfold bj at r ⊢;exact r
 |.int _,_,r=>by unfold bj at r ⊢;exact r
 |.str _,_,r=>by unfold bj at r ⊢;exact r
 |.tup _,_,r=>by unfold bj at r ⊢;obtain⟨p,vs,a,b,c⟩:=r;exact⟨p,vs,a,e _ _ b,RelWs.mono h e c⟩
 |.loc _,_,r=>by unfold bj at r ⊢;obtain⟨a,b,c⟩:=r;exact⟨a,yD h b,c⟩
theorem RelWs.mono(h:μ <+: μ')(e:eV K H H'):∀{ws:List W} {vs:List V},RelWs K μ H ws vs->RelWs K μ' H' ws vs
 |[],_,r=>by unfold RelWs at r ⊢;exact r
 |_::_,_,r=>by unfold RelWs at r ⊢;obtain⟨x,xs,a,b,c⟩:=r;exact⟨x,xs,a,bj.mono h e b,RelWs.mono h e c⟩
end
theorem RelWs.nilI:RelWs K μ H [] []:=by unfold RelWs;rfl
theorem RelWs.consI{w:W}{ws:List W}{x:V}{xs:List V}(a:bj K μ H w x)(b:RelWs K μ H ws xs):RelWs K μ H (w::ws) (x::xs):=by unfold RelWs;exact⟨x,xs,rfl,a,b⟩
theorem RelWs.nilE{vs:List V}(h:RelWs K μ H [] vs):vs=[]:=by unfold RelWs at h;exact h
theorem RelWs.consE{w:W}{ws:List W}{vs:List V}(h:RelWs K μ H (w::ws) vs):∃x xs,vs=x::xs/\bj K μ H w x/\RelWs K μ H ws xs:=by unfold RelWs at h;exact h
theorem RelWs.pr:∀{ws:List W} {vs:List V},RelWs K μ H ws vs↔Paired (fun w v=>bj K μ H w v) ws vs
 |[],vs=>⟨fun h=>by rw[h.nilE];exact .nil,fun h=>by cases h;exact .nilI⟩
 |w::ws,vs=>⟨fun h=>by obtain⟨x,xs,rfl,a,b⟩:=h.consE;exact .cons a (RelWs.pr.mp b),fun h=>by cases h with|cons a b=>exact .consI a (RelWs.pr.mpr b)⟩
theorem RelWs.len{ws:List W}{vs:List V}(h:RelWs K μ H ws vs):ws.length=vs.length:=Paired.length (RelWs.pr.mp h)
theorem RelWs.app:∀{as:List W} {xs:List V} {bs:List W} {ys:List V},RelWs K μ H as xs->RelWs K μ H bs ys->RelWs K μ H (as++bs) (xs++ys)
 |[],xs,bs,ys,a,b=>by rw[a.nilE];exact b
 |w::as,xs,bs,ys,a,b=>by obtain⟨x,xs,rfl,c,d⟩:=a.consE;exact .consI c (RelWs.app d b)
theorem RelWs.get:∀{ws:List W} {vs:List V} {i:Nat} {w:W},RelWs K μ H ws vs->ws[i]?=some w->∃v,vs[i]?=some v/\bj K μ H w v
 |[],_,_,_,_,e=>by simp at e
 |x::ws,vs,0,w,h,e=>by obtain⟨y,ys,rfl,a,b⟩:=h.consE;simp at e;subst e;exact⟨y,rfl,a⟩
 |x::ws,vs,i+1,w,h,e=>by obtain⟨y,ys,rfl,a,b⟩:=h.consE;simpa using RelWs.get (i:=i) b (by simpa using e)
theorem RelWs.take:∀{ws:List W} {vs:List V} (n:Nat),RelWs K μ H ws vs->RelWs K μ H (ws.take n) (vs.take n)
 |_,_,0,_=>by simp only[j9];exact .nilI
 |[],vs,n+1,h=>by rw[h.nilE];exact .nilI
 |x::ws,vs,n+1,h=>by obtain⟨y,ys,rfl,a,b⟩:=h.consE;exact .consI a (RelWs.take n b)
theorem RelWs.drop:∀{ws:List W} {vs:List V} (n:Nat),RelWs K μ H ws vs->RelWs K μ H (ws.drop n) (vs.drop n)
 |_,_,0,h=>h
 |[],vs,n+1,h=>by rw[h.nilE];exact .nilI
 |x::ws,vs,n+1,h=>by obtain⟨y,ys,rfl,a,b⟩:=h.consE;exact RelWs.drop n b
theorem bj.intE{i:Int}{v:V}(h:bj K μ H (.int i) v):v=.int i:=by unfold bj at h;exact h
theorem bj.blE{b:Bool}{v:V}(h:bj K μ H (.bl b) v):v=.bl b:=by unfold bj at h;exact h
theorem bj.nonE{v:V}(h:bj K μ H .non v):v=.non:=by unfold bj at h;exact h
theorem bj.strE{l:List Nat}{v:V}(h:bj K μ H (.str l) v):v=.str (tx l):=by unfold bj at h;exact h
theorem bj.tupE{ws:List W}{v:V}(h:bj K μ H (.tup ws) v):∃p vs,v=.ref p/\gH K H p vs/\RelWs K μ H ws vs:=by unfold bj at h;exact h
theorem bj.locE{n:Nat}{v:V}(h:bj K μ H (.loc n) v):∃a,μ[n]?=some a/\v=.ref a:=by unfold bj at h;exact h
theorem bj.int{i:Int}:bj K μ H (.int i) (.int i):=by unfold bj;rfl
theorem bj.bl{i:Bool}:bj K μ H (.bl i) (.bl i):=by unfold bj;rfl
theorem bj.non:bj K μ H .non .non:=by unfold bj;rfl
theorem bj.str{l:List Nat}:bj K μ H (.str l) (.str (tx l)):=by unfold bj;rfl
theorem bj.tupI{ws:List W}{p:Addr}{vs:List V}(a:gH K H p vs)(b:RelWs K μ H ws vs):bj K μ H (.tup ws) (.ref p):=by unfold bj;exact⟨p,vs,rfl,a,b⟩
theorem bj.locI{n:Nat}{a:Addr}(e:μ[n]?=some a):bj K μ H (.loc n) (.ref a):=by unfold bj;exact⟨a,e,rfl⟩
end
def rX(a:Addr)(C:Value):HO:=.ext fun h=>∃o vs,h.get? a=some o/\o.cls=C/\o.data=.fields vs
def vQ(b:Addr)(q:Str):HO:=.ext fun h=>∃o vs t,h.get? b=some o/\o.data=.fields vs/\vs[1]?=some (.str q t)
def L6(K:Frag)(H:Hp)(a:Addr)(xs:List V):Prop:=
 (∃o,H a=some (.frz o (.lst xs)))\/∃(o:Obj) (bv:Array Value) (n:Nat),K.lookup a=some o/\o.cls=.type "list"/\o.dict=none/\o.data=.seq bv n/\bv.size<=sizeLine/\b7 0 xs bv.toList
theorem L6.sq{K:Frag}{H:Hp}{a:Addr}{xs:List V}(h:L6 K H a xs):pW K H a xs:=by
 rcases h with⟨o,h⟩|h
 ·exact .inl (.inr ⟨o,h⟩)
 ·exact .inr h
def aq.isRo:aq->Bool
 |.ro _=>true
 |.gone=>true
 |_=>false
def DX(a:Addr)(es:List DictEntry):Heap->Prop:=fun h=>∃o ep,h.get? a=some o/\o.ExactDict/\o.data=.dict es.toArray ep
abbrev Nr(a:Addr)(es:List DictEntry):HO:=.ext (DX a es)
def vR(K:Frag)(μ:List Addr)(H:Hp)(p:KX×W)(e:DictEntry):Prop:=e.hash=p.1.hash/\(∃v,bj K μ H p.1.w v/\cN 0 v e.key)/\∃v,bj K μ H p.2 v/\cN 0 v e.val
def MS(a:Addr)(o:Obj):HO:=.ext fun h=>h.get? a=some o
def kq(K:Frag)(mg:Str->Option Value)(μ:List Addr)(H:Hp):aq->Addr->Prop
 |.lst ws,a=>∃vs,H a=some (.lst vs)/\RelWs K μ H ws vs
 |.ro ws,a=>∃vs,L6 K H a vs/\RelWs K μ H ws vs
 |.exc c,a=>∃C,mg c=some C/\H a=some (rX a C)
 |.dct kvs,a=>∃vs,H a=some (.dK ((kvs.map fun p=>p.1.key).zip vs))/\RelWs K μ H (kvs.map fun p=>p.2) vs
 |.rod kvs,a=>∃vs o,H a=some (.frz o (.dK ((kvs.map fun p=>p.1.key).zip vs)))/\RelWs K μ H (kvs.map fun p=>p.2) vs
 |.dcx kvs,a=>∃es,H a=some (Nr a es)/\(a==sysModules)=false/\Paired (vR K μ H) kvs es/\(kvs.map fun p=>p.1).Nodup
 |.rox kvs,a=>∃es o,H a=some (.frz o (Nr a es))/\(a==sysModules)=false/\Paired (vR K μ H) kvs es/\(kvs.map fun p=>p.1).Nodup
 |.obj c fs,a=>∃C dx vs,mg c=some (.ref C)/\H a=some (.ins C dx ((fs.map fun p=>p.1).zip vs))/\RelWs K μ H (fs.map fun p=>p.2) vs
 |.tab P pos q,a=>a=P/\∃ps,H a=some (.tbl ps)/\TriplesOk ps.toList/\(codeAmong pos ps.toList=none\/∃c,codeAmong pos ps.toList=some (.ref c)/\H c=some (vQ c q))
 |.pin k c o w,a=>a=c/\H a=some (MS a o)/\(k=false->∃fd cd,o.data=.func fd/\fd.code=.ref cd/\H cd=some (vQ cd fd.qualname))/\∃v,bj K μ H w v/\(k=true->∃u,o.data=.cell (some u)/\cN 0 v u)
 |.gone,_=>True
structure gT(K:Frag)(mg:Str->Option Value)(μ:List Addr)(st:List aq)(H:Hp):Prop where
 nd:∀(i j:Nat) (a:Addr) (ci cj:aq),st[i]?=some ci->st[j]?=some cj->ci.isRo=false->cj.isRo=false->μ[i]?=some a->μ[j]?=some a->i=j
 len:st.length=μ.length
 at':∀(i:Nat) (c:aq) (a:Addr),st[i]?=some c->μ[i]?=some a->kq K mg μ H c a
section
variable{K:Frag}{mg:Str->Option Value}{μ μ':List Addr}{H H':Hp}{st:List aq}
theorem vR.mono(h:μ <+: μ')(x:eV K H H'){p:KX×W}{e:DictEntry}(r:vR K μ H p e):vR K μ' H' p e:=by
 obtain⟨a,⟨v,b,c⟩,u,d,g⟩:=r
 exact⟨a,⟨v,b.mono h x,c⟩,u,d.mono h x,g⟩
theorem kq.keep(h:μ <+: μ')(x:eV K H H'){c:aq}{a:Addr}(e:∀o,H a=some o->H' a=some o)(e2:∀b q,H b=some (vQ b q)->H' b=some (vQ b q))(r:kq K mg μ H c a):kq K mg μ' H' c a:=by
 cases c with
 |lst ws=>obtain⟨vs,p,y⟩:=r;exact⟨vs,e _ p,y.mono h x⟩
 |ro ws=>
  obtain⟨vs,p,y⟩:=r
  refine⟨vs,?_,y.mono h x⟩
  rcases p with⟨o,p⟩|p
  ·exact .inl ⟨o,e _ p⟩
  ·exact .inr p
 |exc c=>obtain⟨C,p,y⟩:=r;exact⟨C,p,e _ y⟩
 |dct kvs=>obtain⟨vs,p,y⟩:=r;exact⟨vs,e _ p,y.mono h x⟩
 |rod kvs=>obtain⟨vs,o,p,y⟩:=r;exact⟨vs,o,e _ p,y.mono h x⟩
 |dcx kvs=>obtain⟨es,p,d,y,z⟩:=r;exact⟨es,e _ p,d,Paired.imp' (fun _ _ q=>q.mono h x) y,z⟩
 |rox kvs=>obtain⟨es,o,p,d,y,z⟩:=r;exact⟨es,o,e _ p,d,Paired.imp' (fun _ _ q=>q.mono h x) y,z⟩
 |obj c fs=>obtain⟨C,dx,vs,m,p,y⟩:=r;exact⟨C,dx,vs,m,e _ p,y.mono h x⟩
 |tab P pos q=>
  obtain⟨ea,ps,p,t,y⟩:=r
  refine⟨ea,ps,e _ p,t,?_⟩
  rcases y with y|⟨c,y,z⟩
  ·exact .inl y
  ·exact .inr ⟨c,y,e2 _ _ z⟩
 |pin k c o w=>obtain⟨ea,p,g,v,y,z⟩:=r;exact⟨ea,e _ p,fun q=>let ⟨fd,cd,q1,q2,q3⟩:=g q;⟨fd,cd,q1,q2,e2 _ _ q3⟩,v,y.mono h x,z⟩
 |gone=>trivial
theorem kq.ro_ne{c:aq}{a:Addr}(r:kq K mg μ H c a)(h:c.isRo=false):∃o,H a=some o:=by
 cases c with
 |lst ws=>obtain⟨vs,p,y⟩:=r;exact⟨_,p⟩
 |ro ws=>cases h
 |exc c=>obtain⟨C,p,y⟩:=r;exact⟨_,y⟩
 |dct kvs=>obtain⟨vs,p,y⟩:=r;exact⟨_,p⟩
 |rod kvs=>obtain⟨vs,o,p,y⟩:=r;exact⟨_,p⟩
 |dcx kvs=>obtain⟨es,p,_⟩:=r;exact⟨_,p⟩
 |rox kvs=>obtain⟨es,o,p,_⟩:=r;exact⟨_,p⟩
 |obj c fs=>obtain⟨C,dx,vs,m,p,y⟩:=r;exact⟨_,p⟩
 |tab P pos q=>obtain⟨_,ps,p,_⟩:=r;exact⟨_,p⟩
 |pin k c o w=>obtain⟨_,p,_⟩:=r;exact⟨_,p⟩
 |gone=>cases h
theorem gT.same(S:gT K mg μ st H)(e:nP H H'):gT K mg μ st H':=⟨S.nd,S.len,fun i c a h1 h2=>(S.at' i c a h1 h2).keep (aj _) (gH.same e) (e a) fun b q h=>e b _ h⟩
theorem gT.get(S:gT K mg μ st H){n:Nat}{c:aq}(h:st[n]?=some c):∃a,μ[n]?=some a/\kq K mg μ H c a:=by
 have hn:n<μ.length:=by rw[<- S.len];exact(al.mp h).1
 exact⟨μ[n],af hn,S.at' n c _ h (af hn)⟩
theorem gT.push(S:gT K mg μ st H){p:Addr}{o:HO}{c:aq}(hp:H p=none)(hc:kq K mg (μ++[p]) (gb H p o) c p):gT K mg (μ++[p]) (st++[c]) (gb H p o):=by
 have hs:nP H (gb H p o):=cC hp o
 have Ar:μ <+: μ++[p]:=bQ _ _
 have old:∀{i:Nat} {d:aq} {a:Addr},i<st.length->(st++[c])[i]?=some d->(μ++[p])[i]?=some a->st[i]?=some d/\μ[i]?=some a:=fun{i d a} hi h1 h2=>by
  rw[bw hi]at h1
  rw[bw (by rw[<- S.len];exact hi)]at h2
  exact⟨h1,h2⟩
 have new:∀{i:Nat} {d:aq} {a:Addr},¬ i<st.length->(st++[c])[i]?=some d->(μ++[p])[i]?=some a->i=st.length/\d=c/\a=p:=fun{i d a} hi h1 h2=>by
  have hi':i=st.length:=by
   have:=(al.mp h1).1
   simp at this;omega
  subst hi'
  simp at h1
  rw[S.len,cE (ah _)]at h2
  simp at h2
  exact⟨rfl,h1.symm,h2.symm⟩
 refine⟨fun i j a ci cj h1 h2 r1 r2 m1 m2=>?_,by simp[S.len],fun i d a h1 h2=>?_⟩
 ·by_cases hi:i<st.length
  ·obtain⟨x1,x2⟩:=old hi h1 m1
   by_cases hj:j<st.length
   ·obtain⟨y1,y2⟩:=old hj h2 m2
    exact S.nd i j a ci cj x1 y1 r1 r2 x2 y2
   ·obtain⟨_,_,rfl⟩:=new hj h2 m2
    obtain⟨o',z⟩:=(S.at' i ci a x1 x2).ro_ne r1
    rw[hp]at z;cases z
  ·obtain⟨e1,_,rfl⟩:=new hi h1 m1
   by_cases hj:j<st.length
   ·obtain⟨y1,y2⟩:=old hj h2 m2
    obtain⟨o',z⟩:=(S.at' j cj a y1 y2).ro_ne r2
    rw[hp]at z;cases z
   ·obtain⟨e2,_,_⟩:=new hj h2 m2
    omega
 ·by_cases hi:i<st.length
  ·obtain⟨x1,x2⟩:=old hi h1 h2
   exact(S.at' i d a x1 x2).keep Ar (gH.same hs) (hs a) fun b q h=>hs b _ h
  ·obtain⟨_,rfl,rfl⟩:=new hi h1 h2
   exact hc
theorem gT.setG(S:gT K mg μ st H){n:Nat}{a:Addr}{c c':aq}{o o':HO}(hn:st[n]?=some c)(wN:c.isRo=false)(hm:μ[n]?=some a)(ha:H a=some o)(hf:∀q u,o≠.frz q u)(hg:∀q,o≠vQ a q)(hx:eV K H (gb H a o'))(N4:c'.isRo=false)(hr:kq K mg μ (gb H a o') c' a):gT K mg μ (st.set n c') (gb H a o'):=by
 have hl:n<st.length:=(al.mp hn).1
 have back:∀{i:Nat} {d:aq},(st.set n c')[i]?=some d->∃d',st[i]?=some d'/\(d'=d\/(i=n/\d=c')):=fun{i d} h=>by
  by_cases e:i=n
  ·subst e
   rw[bM hl]at h
   exact⟨_,hn,.inr ⟨rfl,(be h).symm⟩⟩
  ·rw[c7 (Ne.symm e)]at h
   exact⟨d,h,.inl rfl⟩
 refine⟨fun i j b ci cj h1 h2 r1 r2 m1 m2=>?_,by simp[S.len],fun i d b h1 h2=>?_⟩
 ·obtain⟨di,x1,y1⟩:=back h1
  obtain⟨dj,x2,y2⟩:=back h2
  refine S.nd i j b di dj x1 x2 ?_ ?_ m1 m2
  ·rcases y1 with rfl|⟨rfl,rfl⟩
   ·exact r1
   ·rw[hn]at x1;cases x1;exact wN
  ·rcases y2 with rfl|⟨rfl,rfl⟩
   ·exact r2
   ·rw[hn]at x2;cases x2;exact wN
 ·by_cases e:i=n
  ·subst e
   rw[bM hl]at h1
   cases h1
   rw[hm]at h2;cases h2
   exact hr
  ·rw[c7 (Ne.symm e)]at h1
   have r:=S.at' i d b h1 h2
   by_cases hrd:d.isRo=true
   ·cases d with
    |ro zs=>
     obtain⟨us,p,q⟩:=r
     refine⟨us,?_,q.mono (aj _) hx⟩
     rcases p with⟨o2,p⟩|p
     ·exact .inl ⟨o2,by rw[cx (by rintro rfl;rw[ha]at p;cases p;exact hf _ _ rfl)];exact p⟩
     ·exact .inr p
    |lst _=>cases hrd
    |exc _=>cases hrd
    |dct _=>cases hrd
    |rod _=>cases hrd
    |dcx _=>cases hrd
    |rox _=>cases hrd
    |obj _ _=>cases hrd
    |tab _ _ _=>cases hrd
    |pin _ _ _ _=>cases hrd
    |gone=>trivial
   ·refine r.keep (aj _) hx (fun o ho=>?_) fun b' q h=>by rw[cx (by rintro rfl;rw[ha]at h;cases h;exact hg _ rfl)];exact h
    have hb:b≠a:=by
     rintro rfl
     exact e (S.nd i n b d _ h1 hn (by simpa using hrd) wN h2 hm)
    rw[cx hb];exact ho
theorem gT.set(S:gT K mg μ st H){n:Nat}{a:Addr}{ws Jv:List W}{vs Dw:List V}(hn:st[n]?=some (.lst ws))(hm:μ[n]?=some a)(ha:H a=some (.lst vs))(hr:RelWs K μ H Jv Dw):gT K mg μ (st.set n (.lst Jv)) (gb H a (.lst Dw)):=by
 have hx:eV K H (gb H a (.lst Dw)):=gH.but nD ha
 have hl:n<st.length:=(al.mp hn).1
 have back:∀{i:Nat} {d:aq},(st.set n (.lst Jv))[i]?=some d->∃d',st[i]?=some d'/\(d'=d\/(i=n/\d=.lst Jv)):=fun{i d} h=>by
  by_cases e:i=n
  ·subst e
   rw[bM hl]at h
   exact⟨_,hn,.inr ⟨rfl,(be h).symm⟩⟩
  ·rw[c7 (Ne.symm e)]at h
   exact⟨d,h,.inl rfl⟩
 refine⟨fun i j b ci cj h1 h2 r1 r2 m1 m2=>?_,by simp[S.len],fun i d b h1 h2=>?_⟩
 ·obtain⟨di,x1,y1⟩:=back h1
  obtain⟨dj,x2,y2⟩:=back h2
  refine S.nd i j b di dj x1 x2 ?_ ?_ m1 m2
  ·rcases y1 with rfl|⟨rfl,rfl⟩
   ·exact r1
   ·rw[hn]at x1;cases x1;rfl
  ·rcases y2 with rfl|⟨rfl,rfl⟩
   ·exact r2
   ·rw[hn]at x2;cases x2;rfl
 ·by_cases e:i=n
  ·subst e
   rw[bM hl]at h1
   cases h1
   rw[hm]at h2;cases h2
   exact⟨Dw,gm,hr.mono (aj _) hx⟩
  ·rw[c7 (Ne.symm e)]at h1
   have r:=S.at' i d b h1 h2
   by_cases wN:d.isRo=true
   ·cases d with
    |ro zs=>
     obtain⟨us,p,q⟩:=r
     refine⟨us,?_,q.mono (aj _) hx⟩
     rcases p with⟨o',p⟩|p
     ·exact .inl ⟨o',by rw[cx (by rintro rfl;rw[ha]at p;cases p)];exact p⟩
     ·exact .inr p
    |lst _=>cases wN
    |exc _=>cases wN
    |dct _=>cases wN
    |rod _=>cases wN
    |dcx _=>cases wN
    |rox _=>cases wN
    |obj _ _=>cases wN
    |tab _ _ _=>cases wN
    |pin _ _ _ _=>cases wN
    |gone=>trivial
   ·refine r.keep (aj _) hx (fun o ho=>?_) fun b' q h=>by rw[cx (by rintro rfl;rw[ha]at h;cases h)];exact h
    have hb:b≠a:=by
     rintro rfl
     exact e (S.nd i n b d _ h1 hn (by simpa using wN) rfl h2 hm)
    rw[cx hb];exact ho
end
end L2
namespace L2
variable{nk:Nat}
open PySem PySem.Spec PyProof.Rows
structure Rl(X:Cx)(μ:List Addr)(ρ:cn)(st:List aq)(σ:St)(H:Hp):Prop where
 env:Paired (fun(o:Option W) (s:Option V)=>∀w,o=some w->∃v,s=some v/\bj X.K μ H w v) ρ σ
 sto:gT X.K X.mg μ st H
theorem p6{K:Frag}{μ μ':List Addr}{H H':Hp}(h:μ <+: μ')(x:eV K H H'):∀{ρ:cn} {σ:St},Paired (fun(o:Option W) (s:Option V)=>∀w,o=some w->∃v,s=some v/\bj K μ H w v) ρ σ ->
  Paired (fun(o:Option W) (s:Option V)=>∀w,o=some w->∃v,s=some v/\bj K μ' H' w v) ρ σ
 |_,_,.nil=>.nil
 |_,_,.cons a t=>.cons (fun w e=>let ⟨v,p,q⟩:=a w e;⟨v,p,q.mono h x⟩) (p6 h x t)
theorem Rl.to{X:Cx}{μ μ':List Addr}{ρ:cn}{st bp:List aq}{σ:St}{H H':Hp}(r:Rl X μ ρ st σ H)(h:μ <+: μ')(x:eV X.K H H')(s:gT X.K X.mg μ' bp H'):Rl X μ' ρ bp σ H':=⟨p6 h x r.env,s⟩
theorem rY{K:Frag}{μ:List Addr}{H:Hp}:∀{ρ:cn} {σ:St} {i:Nat} {w:W},Paired (fun(o:Option W) (s:Option V)=>∀w,o=some w->∃v,s=some v/\bj K μ H w v) ρ σ->ρ[i]?=some (some w)->∃v,σ[i]?=some (some v)/\bj K μ H w v
 |_,_,_,_,.nil,e=>by simp at e
 |_,_,0,w,.cons a t,e=>by simp at e;obtain⟨v,p,q⟩:=a w e;exact⟨v,by simp[p],q⟩
 |_,_,i+1,w,.cons a t,e=>by simpa using rY (i:=i) t (by simpa using e)
theorem o9{K:Frag}{μ:List Addr}{H:Hp}{w:W}{v:V}(r:bj K μ H w v):∀{ρ:cn} {σ:St} (i:Nat),Paired (fun(o:Option W) (s:Option V)=>∀w,o=some w->∃v,s=some v/\bj K μ H w v) ρ σ ->
  Paired (fun(o:Option W) (s:Option V)=>∀w,o=some w->∃v,s=some v/\bj K μ H w v) (ρ.set i (some w)) (σ.set i (some v))
 |_,_,_,.nil=>.nil
 |_,_,0,.cons a t=>.cons (fun w' e=>⟨v,rfl,by cases e;exact r⟩) t
 |_,_,i+1,.cons a t=>.cons a (o9 r i t)
structure li(X:Cx)(ae:List (Addr×Obj))(σ:St)(c:Str)(H:Hp)(e:Value)(s:Shared):Prop where
 inv:bi X ae σ H s
 ex:∃x C t B,e=.ref x/\X.mg c=some C/\H x=none/\B.StaysIn s.heap/\B.get? x=none/\s.heap.FunFrames B X.stack /\
  (s.heap.TracedW B x C (.ref t)\/(∃oe vs,s.heap.get? x=some oe/\oe.cls=C/\oe.dict=none/\oe.data=.fields vs/\vs[1]?=some .none/\vs[0]?=some (.ref t))\/∃L,X.env.frame=some L/\s.heap.TracedAtW B x C (.ref t) (rawInt L)) /\
  ∀b o,s.heap.get? b=some o->(H b≠none\/((∃o0,X.s₀.heap.get? b=some o0)/\b∉X.fs/\b∉X.ex)\/((∃y,X.env.cells.lookup y=some b)/\b∉mQ X.stack)\/∃p∈X.pn++ae,p.1=b)->B.get? b=some o
def XS(X:Cx)(c:Str)(μ:List Addr)(ρ:cn)(st:List aq)(H:Hp):Prop:=
 ∀ae μ' σ' H' e s',μ <+: μ'->eV X.K H H'->Rl X μ' ρ st σ' H'->li X ae σ' c H' e s'->X.xe e s'
def XE(X:Cx)(c:Str)(μ:List Addr)(st:List aq)(σ:St)(H:Hp):Prop:=
 ∀ae μ' H' e s',μ <+: μ'->eV X.K H H'->gT X.K X.mg μ' st H'->li X ae σ c H' e s'->X.xe e s'
theorem XE.mono{X:Cx}{c:Str}{μ μ1:List Addr}{st:List aq}{σ:St}{H H1:Hp}(h:XE X c μ st σ H)(p:μ <+: μ1)(x:eV X.K H H1):XE X c μ1 st σ H1:=fun ae μ' H' e s' a b=>h ae μ' H' e s' (p.trans a) (x.trans b)
theorem XS.mono{X:Cx}{c:Str}{μ μ1:List Addr}{ρ:cn}{st:List aq}{H H1:Hp}(h:XS X c μ ρ st H)(p:μ <+: μ1)(x:eV X.K H H1):XS X c μ1 ρ st H1:=fun ae μ' σ' H' e s' a b=>h ae μ' σ' H' e s' (p.trans a) (x.trans b)
theorem XS.toE{X:Cx}{c:Str}{μ:List Addr}{ρ:cn}{Jq st:List aq}{σ:St}{H:Hp}(h:XS X c μ ρ st H)(r:Rl X μ ρ Jq σ H):XE X c μ st σ H:=fun ae μ' H' e s' a b s f=>h ae μ' σ H' e s' a b (r.to a b s) f
def RK{α β:Type}(X:Cx)(rel:List Addr->Hp->α->β->Prop)(μ:List Addr)(σ:St)(H:Hp)(Q:β->Hp->Prop):R α->Prop
 |.ok a bp=>∀μ' b H',μ <+: μ'->eV X.K H H'->gT X.K X.mg μ' bp H'->rel μ' H' a b->Q b H'
 |.ex c bp=>XE X c μ bp σ H
 |.bad=>False
theorem RK.mono{α β:Type}{X:Cx}{rel:List Addr->Hp->α->β->Prop}{μ μ1:List Addr}{σ:St}{H H1:Hp}{Q:β->Hp->Prop}{r:R α}(h:RK X rel μ σ H Q r)(p:μ <+: μ1)(x:eV X.K H H1):RK X rel μ1 σ H1 Q r:=by
 cases r with
 |ok a st=>exact fun μ' b H' a1 b1=>h μ' b H' (p.trans a1) (x.trans b1)
 |ex c st=>exact XE.mono h p x
 |bad=>exact h
def tG{α β:Type}(X:Cx)(rel:List Addr->Hp->α->β->Prop)(f:cn->List aq->R α)(σ:St)(H:Hp)(Q:β->Hp->Prop):Prop:=
 ∃μ ρ st,Rl X μ ρ st σ H/\RK X rel μ σ H Q (f ρ st)
abbrev qU(X:Cx):List Addr->Hp->W->V->Prop:=fun μ H w v=>bj X.K μ H w v
abbrev MT(X:Cx):List Addr->Hp->List W->List V->Prop:=fun μ H w v=>RelWs X.K μ H w v
abbrev Hj:List Addr->Hp->Bool->Bool->Prop:=fun _ _ a b=>a=b
abbrev tE(X:Cx)(f:FE):TE:=tG X (qU X) f
abbrev tT(X:Cx)(f:FT):TT:=tG X Hj f
abbrev L7(X:Cx)(f:FA):TA:=tG X (MT X) f
theorem RK.bind{α β α' β':Type}{X:Cx}{rel:List Addr->Hp->α->β->Prop}{LB:List Addr->Hp->α'->β'->Prop}{μ:List Addr}{ρ:cn}{st:List aq}{σ:St}{H:Hp}{r:R α}{k:α->List aq->R α'}{Q:β'->Hp->Prop}{T:β->Hp->Prop}
  (h:RK X LB μ σ H Q (r.bind k)) (l:Rl X μ ρ st σ H)
  (hk:∀μ' bp x v H',μ <+: μ'->eV X.K H H'->Rl X μ' ρ bp σ H'->rel μ' H' x v->RK X LB μ' σ H' Q (k x bp)->T v H'):RK X rel μ σ H T r:=by
 cases r with
 |ok a bp=>exact fun μ' b H' p x s q=>hk μ' bp a b H' p x (l.to p x s) q (RK.mono h p x)
 |ex c bp=>exact h
 |bad=>exact h
def SK(X:Cx)(μ:List Addr)(H:Hp)(D:vz):RS->Prop
 |.nx ρ st=>∀μ' σ' H',μ <+: μ'->eV X.K H H'->Rl X μ' ρ st σ' H'->D.nx σ' H'
 |.bk ρ st=>∀μ' σ' H',μ <+: μ'->eV X.K H H'->Rl X μ' ρ st σ' H'->D.bk σ' H'
 |.ct ρ st=>∀μ' σ' H',μ <+: μ'->eV X.K H H'->Rl X μ' ρ st σ' H'->D.ct σ' H'
 |.rt w st=>∀μ' v H',μ <+: μ'->eV X.K H H'->gT X.K X.mg μ' st H'->bj X.K μ' H' w v->D.rt v H'
 |.ex c ρ st=>XS X c μ ρ st H
 |.bad=>False
theorem SK.mono{X:Cx}{μ μ1:List Addr}{H H1:Hp}{D:vz}{r:RS}(h:SK X μ H D r)(p:μ <+: μ1)(x:eV X.K H H1):SK X μ1 H1 D r:=by
 cases r with
 |nx ρ st=>exact fun μ' b H' a1 b1=>h μ' b H' (p.trans a1) (x.trans b1)
 |bk ρ st=>exact fun μ' b H' a1 b1=>h μ' b H' (p.trans a1) (x.trans b1)
 |ct ρ st=>exact fun μ' b H' a1 b1=>h μ' b H' (p.trans a1) (x.trans b1)
 |rt w st=>exact fun μ' b H' a1 b1=>h μ' b H' (p.trans a1) (x.trans b1)
 |ex c ρ st=>exact XS.mono h p x
 |bad=>exact h
def MU(X:Cx)(g:FS):TS:=fun D σ H=>∃μ ρ st,Rl X μ ρ st σ H/\SK X μ H D (g ρ st)
structure SE(X:Cx)(e:Expr)(f:FE):Prop where
 h:PE X e (tE X f)
structure ST(X:Cx)(e:Expr)(f:FT):Prop where
 h:PT X e (tT X f)
structure SW(X:Cx)(e:Expr)(f:FT):Prop where
 h:PW X e (tT X f)
structure SA(X:Cx)(es:List Expr)(f:FA):Prop where
 h:PA X es (L7 X f)
structure SS(X:Cx)(s:Stmt)(g:FS):Prop where
 h:PS X s (MU X g)
structure SB(X:Cx)(s:List Stmt)(g:FS):Prop where
 h:yo X s (MU X g)
theorem PE.imp{X:Cx}{e:Expr}{t t':TE}(h:PE X e t)(i:∀σ H Q,t' σ H Q->t σ H Q):PE X e t':=fun ae s σ H Q I q=>h ae s σ H Q I (i _ _ _ q)
theorem PT.imp{X:Cx}{e:Expr}{t t':TT}(h:PT X e t)(i:∀σ H Q,t' σ H Q->t σ H Q):PT X e t':=fun ae s σ H Q I q=>h ae s σ H Q I (i _ _ _ q)
theorem PW.imp{X:Cx}{e:Expr}{t t':TT}(h:PW X e t)(i:∀σ H Q,t' σ H Q->t σ H Q):PW X e t':=fun wh ae s σ H Q I q=>h wh ae s σ H Q I (i _ _ _ q)
theorem PA.imp{X:Cx}{e:List Expr}{t t':TA}(h:PA X e t)(i:∀σ H Q,t' σ H Q->t σ H Q):PA X e t':=fun pos ae s σ H Q I q=>h pos ae s σ H Q I (i _ _ _ q)
theorem PS.imp{X:Cx}{e:Stmt}{t t':TS}(h:PS X e t)(i:∀D σ H,t' D σ H->t D σ H):PS X e t':=fun ae s σ H D I q=>h ae s σ H D I (i _ _ _ q)
theorem yo.imp{X:Cx}{e:List Stmt}{t t':TS}(h:yo X e t)(i:∀D σ H,t' D σ H->t D σ H):yo X e t':=fun ae s σ H D I q=>h ae s σ H D I (i _ _ _ q)
section
variable{X:Cx}{a b c e o:Expr}{es:List Expr}{pos p p2 iy dZ:Pos}{x name:Str}{j:Nat}{eS:List Expr}{fa fb fc fe:FE}{ft fu:FT}{fs:FA}
def aw(i:Nat):FE:=fun ρ st=>match ρ[i]? with
 |some (some w)=>.ok w st
 |_=>.bad
theorem ao(i:Nat){x:Str}{pos:Pos}(hN:X.N[i]?=some x:=by rfl)(hv:JB X.env.scope x:=by first|exact Or.inl rfl|exact Or.inr (Or.inl rfl)|exact Or.inr (Or.inr rfl))(hd:(x==("__debug__":Str))=false:=by decide)
  (tD:(x==("__classdict__":Str))=false:=by decide):SE X (.Name x pos) (aw i):=⟨(pv i hN hv hd tD).imp fun σ H Q h=>by
 obtain⟨μ,ρ,st,r,h⟩:=h
 unfold aw at h
 cases e:ρ[i]? with
 |none=>rw[e]at h;exact h.elim
 |some ow=>
  cases ow with
  |none=>rw[e]at h;exact h.elim
  |some w=>
   rw[e]at h
   obtain⟨v,e1,e2⟩:=rY r.env e
   exact⟨v,e1,h μ v H (aj _) eV.refl r.sto e2⟩⟩
def eC(w:W):FE:=fun _ st=>.ok w st
abbrev eI(n:Int):FE:=eC (.int n)
theorem MV{w:W}{v:V}(hc:PE X e (tC v))(hr:∀μ H,bj X.K μ H w v):SE X e (eC w):=⟨hc.imp fun σ H Q h=>by
 obtain⟨μ,ρ,st,r,h⟩:=h
 exact h μ v H (aj _) eV.refl r.sto (hr _ _)⟩
theorem aM{i:Int}:SE X (.Constant (.int i) j pos) (eC (.int i)):=MV Gy fun _ _=>.int
theorem xp{k:Bool}:SE X (.Constant (.bool k) j pos) (eC (.bl k)):=MV JD fun _ _=>.bl
theorem mh{l:List Nat}(h:x=tx l:=by decide +kernel):SE X (.Constant (.str x) j pos) (eC (.str l)):=MV Gz fun _ _=>by rw[h];exact .str
def e2(f:W->W->List aq->R W)(fa fb:FE):FE:=fun ρ st=>(fa ρ st).bind fun x st=>(fb ρ st).bind fun y st=>f x y st
def Au(X:Cx)(μ:List Addr)(H:Hp)(Q:VK):R W->Prop
 |.ok w bp=>∀μ' v H',μ <+: μ'->eV X.K H H'->gT X.K X.mg μ' bp H'->bj X.K μ' H' w v->Q v H'
 |_=>False
def qV{α:Type}:R α->Prop
 |.ex _ _=>False
 |_=>True
def MW(X:Cx)(f:W->W->List aq->R W):R2:=fun x y H Q=>∃μ st wx wy,gT X.K X.mg μ st H/\bj X.K μ H wx x/\bj X.K μ H wy y/\Au X μ H Q (f wx wy st)
structure rZ(X:Cx)(g:Value->Value->Sem Value)(f:W->W->List aq->R W):Prop where
 h:mR X g (MW X f)
 n:∀x y st,qV (f x y st)
theorem r6{μ:List Addr}{σ:St}{H:Hp}{Q:VK}{r:R W}(h:RK X (qU X) μ σ H Q r)(n:qV r):Au X μ H Q r:=by
 cases r with
 |ok a st=>exact h
 |ex c st=>exact n.elim
 |bad=>exact h
theorem yE{f:W->W->List aq->R W}{σ:St}{H:Hp}{Q:VK}(n:∀x y st,qV (f x y st))(h:tE X (e2 f fa fb) σ H Q):JP (MW X f) (tE X fa) (tE X fb) σ H Q:=by
 obtain⟨μ,ρ,st,l,h⟩:=h
 refine⟨μ,ρ,st,l,RK.bind h l fun μ1 st1 x v H1 p1 x1 l1 q1 h1=>⟨μ1,ρ,st1,l1,RK.bind h1 l1 fun μ2 cP y u H2 p2 x2 l2 q2 h2=>?_⟩⟩
 exact⟨μ2,cP,x,y,l2.sto,q1.mono p2 x2,q2,r6 h2 (n _ _ _)⟩
theorem b8{op:Operator}{f:W->W->List aq->R W}(ho:rZ X (binaryOp op) f)(ha:SE X a fa)(hb:SE X b fb):SE X (.BinOp a op b pos) (e2 f fa fb):=⟨(JQ ho.h ha.h hb.h).imp fun _ _ _ h=>yE ho.n h⟩
theorem vS{op:CmpOp}{f:W->W->List aq->R W}(ho:rZ X (compareOp op) f)(ha:SE X a fa)(hb:SE X b fb)(hm:behindInMarks op b=false:=by first|exact AJ _|rfl):SE X (.Compare a [op] [b] pos) (e2 f fa fb):=⟨(DQ ho.h ha.h hb.h hm).imp fun _ _ _ h=>yE ho.n h⟩
def iJ(fa:FE):FT:=fun ρ st=>(fa ρ st).bind fun x st=>match x with
 |.bl k=>.ok k st
 |_=>.bad
theorem r9{σ:St}{H:Hp}{Q:Bool->Hp->Prop}(h:tT X (iJ fa) σ H Q):tE X fa σ H fun x H1=>∃k,x=.bl k/\Q k H1:=by
 obtain⟨μ,ρ,st,l,h⟩:=h
 refine⟨μ,ρ,st,l,RK.bind h l fun μ1 st1 x v H1 p1 x1 l1 q1 h1=>?_⟩
 cases x with
 |bl k=>exact⟨k,q1.blE,h1 μ1 k H1 (aj _) eV.refl l1.sto rfl⟩
 |_=>exact h1.elim
theorem da{op:CmpOp}{f:W->W->List aq->R W}(ho:rZ X (compareOp op) f)(ha:SE X a fa)(hb:SE X b fb)(hm:behindInMarks op b=false:=by first|exact AJ _|rfl):ST X (.Compare a [op] [b] pos) (iJ (e2 f fa fb)):=⟨(DR ho.h ha.h hb.h hm).imp fun σ H Q h=>by
 have h':tE X (e2 f fa fb) σ H fun x H1=>∃k,x=.bl k/\Q k H1:=r9 h
 exact yE ho.n h'⟩
theorem mU(h:SE X e fe)(he:∀tj,isTrue e X.env tj=(do let v <- tj;standAt e.pos;holding [v] (truthy v)):=by intro _;rfl):ST X e (iJ fe):=⟨(GC h.h he).imp fun σ H Q h=>r9 h⟩
def Ds(t u:FT):FT:=fun ρ st=>(t ρ st).bind fun k st=>if k then u ρ st else .ok false st
def A_(t u:FT):FT:=fun ρ st=>(t ρ st).bind fun k st=>if k then .ok true st else u ρ st
def Ef(t:FT):FT:=fun ρ st=>(t ρ st).bind fun k st=>.ok (!k) st
theorem uT(ha:ST X a ft):SW X (.BoolOp .And [a] pos) ft:=⟨DD ha.h⟩
theorem uU(ha:ST X a ft):SW X (.BoolOp .Or [a] pos) ft:=⟨GD ha.h⟩
theorem xq(ha:ST X a ft)(hb:SW X (.BoolOp .And (b::eS) pos) fu):SW X (.BoolOp .And (a::b::eS) pos) (Ds ft fu):=⟨(GE ha.h hb.h).imp fun σ H Q h=>by
 obtain⟨μ,ρ,st,l,h⟩:=h
 refine⟨μ,ρ,st,l,RK.bind h l fun μ1 st1 x v H1 p1 x1 l1 q1 h1=>?_⟩
 cases q1
 cases x with
 |true=>exact⟨μ1,ρ,st1,l1,h1⟩
 |false=>exact h1 μ1 false H1 (aj _) eV.refl l1.sto rfl⟩
theorem yF(ha:ST X a ft)(hb:SW X (.BoolOp .Or (b::eS) pos) fu):SW X (.BoolOp .Or (a::b::eS) pos) (A_ ft fu):=⟨(JF ha.h hb.h).imp fun σ H Q h=>by
 obtain⟨μ,ρ,st,l,h⟩:=h
 refine⟨μ,ρ,st,l,RK.bind h l fun μ1 st1 x v H1 p1 x1 l1 q1 h1=>?_⟩
 cases q1
 cases x with
 |false=>exact⟨μ1,ρ,st1,l1,h1⟩
 |true=>exact h1 μ1 true H1 (aj _) eV.refl l1.sto rfl⟩
theorem xr(h:SW X e ft):ST X e ft:=⟨h.h.pt⟩
theorem r_(ha:ST X a ft):ST X (.UnaryOp .Not a pos) (Ef ft):=⟨(GF ha.h).imp fun σ H Q h=>by
 obtain⟨μ,ρ,st,l,h⟩:=h
 refine⟨μ,ρ,st,l,RK.bind h l fun μ1 st1 x v H1 p1 x1 l1 q1 h1=>?_⟩
 cases q1
 exact h1 μ1 _ H1 (aj _) eV.refl l1.sto rfl⟩
def xt(fa fb:FE):FE:=fun ρ st=>(fa ρ st).bind fun x st=>match x with
 |.bl true=>fb ρ st
 |.bl false=>.ok (.bl false) st
 |_=>.bad
def Hk(fa fb:FE):FE:=fun ρ st=>(fa ρ st).bind fun x st=>match x with
 |.bl true=>.ok (.bl true) st
 |.bl false=>fb ρ st
 |_=>.bad
def Eg(fa:FE):FE:=fun ρ st=>(fa ρ st).bind fun x st=>match x with
 |.bl k=>.ok (.bl (!k)) st
 |_=>.bad
theorem yG{op:BoolOp}(h:SE X a fa):SE X (.BoolOp op [a] pos) fa:=⟨GG h.h⟩
theorem yH(ha:SE X a fa)(hb:SE X (.BoolOp .And (b::eS) pos) fb):SE X (.BoolOp .And (a::b::eS) pos) (xt fa fb):=⟨(GH ha.h hb.h).imp fun σ H Q h=>by
 obtain⟨μ,ρ,st,l,h⟩:=h
 refine⟨μ,ρ,st,l,RK.bind h l fun μ1 st1 x v H1 p1 x1 l1 q1 h1=>?_⟩
 cases x with
 |bl k=>
  refine⟨k,q1.blE,?_⟩
  cases k with
  |true=>exact⟨μ1,ρ,st1,l1,h1⟩
  |false=>exact h1 μ1 _ H1 (aj _) eV.refl l1.sto .bl
 |_=>exact h1.elim⟩
theorem MX(ha:SE X a fa)(hb:SE X (.BoolOp .Or (b::eS) pos) fb):SE X (.BoolOp .Or (a::b::eS) pos) (Hk fa fb):=⟨(JI ha.h hb.h).imp fun σ H Q h=>by
 obtain⟨μ,ρ,st,l,h⟩:=h
 refine⟨μ,ρ,st,l,RK.bind h l fun μ1 st1 x v H1 p1 x1 l1 q1 h1=>?_⟩
 cases x with
 |bl k=>
  refine⟨k,q1.blE,?_⟩
  cases k with
  |false=>exact⟨μ1,ρ,st1,l1,h1⟩
  |true=>exact h1 μ1 _ H1 (aj _) eV.refl l1.sto .bl
 |_=>exact h1.elim⟩
theorem Kj(ha:SE X a fa):SE X (.UnaryOp .Not a pos) (Eg fa):=⟨(GI ha.h).imp fun σ H Q h=>by
 obtain⟨μ,ρ,st,l,h⟩:=h
 refine⟨μ,ρ,st,l,RK.bind h l fun μ1 st1 x v H1 p1 x1 l1 q1 h1=>?_⟩
 cases x with
 |bl k=>exact⟨k,q1.blE,h1 μ1 _ H1 (aj _) eV.refl l1.sto .bl⟩
 |_=>exact h1.elim⟩
def W.isNon:W->Bool
 |.non=>true
 |_=>false
def xu(fa:FE):FE:=fun ρ st=>(fa ρ st).bind fun x st=>.ok (.bl x.isNon) st
def Fu(fa:FE):FE:=fun ρ st=>(fa ρ st).bind fun x st=>.ok (.bl (!x.isNon)) st
theorem Kk{μ:List Addr}{H:Hp}{w:W}{v:V}(r:bj X.K μ H w v):decide (v=.non)=w.isNon:=by
 cases w with
 |non=>rw[r.nonE];rfl
 |bl b=>rw[r.blE];rfl
 |int b=>rw[r.intE];rfl
 |str b=>rw[r.strE];rfl
 |tup b=>obtain⟨p,vs,rfl,_⟩:=r.tupE;rfl
 |loc b=>obtain⟨p,_,rfl⟩:=r.locE;rfl
theorem Fv{σ:St}{H:Hp}{Q:VK}(h:tE X (xu fa) σ H Q):JE (tE X fa) σ H Q:=by
 obtain⟨μ,ρ,st,l,h⟩:=h
 refine⟨μ,ρ,st,l,RK.bind h l fun μ1 st1 x v H1 p1 x1 l1 q1 h1=>?_⟩
 show Q (.bl (decide (v=.non))) H1
 rw[Kk q1]
 exact h1 μ1 _ H1 (aj _) eV.refl l1.sto .bl
theorem Kl{jp:Pos}(ha:SE X a fa):SE X (.Compare a [.Is] [.Constant .none j jp] pos) (xu fa):=⟨(GA (AC ha.h)).imp fun _ _ _ h=>Fv h⟩
theorem Hl{jp:Pos}(ha:SE X a fa):ST X (.Compare a [.Is] [.Constant .none j jp] pos) (iJ (xu fa)):=⟨(GB (AC ha.h)).imp fun _ _ _ h=>Fv (r9 h)⟩
def a6:FA:=fun _ st=>.ok [] st
def ax(fa:FE)(fs:FA):FA:=fun ρ st=>(fa ρ st).bind fun x st=>(fs ρ st).bind fun xs st=>.ok (x::xs) st
theorem aH:SA X [] a6:=⟨rH.imp fun σ H Q h=>by
 obtain⟨μ,ρ,st,l,h⟩:=h
 exact h μ [] H (aj _) eV.refl l.sto .nilI⟩
theorem ak(ha:SE X e fe)(hr:SA X es fs)(hs:starEach (e::es) X.env=(false,eval e X.env)::starEach es X.env:=by rfl):SA X (e::es) (ax fe fs):=⟨(kj ha.h hr.h hs).imp fun σ H Q h=>by
 obtain⟨μ,ρ,st,l,h⟩:=h
 refine⟨μ,ρ,st,l,RK.bind h l fun μ1 st1 x v H1 p1 x1 l1 q1 h1=>⟨μ1,ρ,st1,l1,RK.bind h1 l1 fun μ2 cP xs vs H2 p2 x2 l2 q2 h2=>?_⟩⟩
 exact h2 μ2 _ H2 (aj _) eV.refl l2.sto (.consI (q1.mono p2 x2) q2)⟩
def Km(zs:List (List Nat)):FA:=fun _ st=>.ok (zs.map W.str) st
def nU(ws:List W)(st:List aq):R W:=if ws.length<=jQ then .ok (.tup ws) st else .bad
def kr(ws:List W)(st:List aq):R W:=if ws.length<=jQ then .ok (.loc st.length) (st++[.lst ws])else .bad
def mB(fs:FA):FE:=fun ρ st=>(fs ρ st).bind fun ws st=>nU ws st
def o_(fs:FA):FE:=fun ρ st=>(fs ρ st).bind fun ws st=>kr ws st
theorem gT.newLst{K:Frag}{mg:Str->Option Value}{μ:List Addr}{st:List aq}{H:Hp}(S:gT K mg μ st H){p:Addr}{ws:List W}{vs:List V}(hp:H p=none)(r:RelWs K μ H ws vs):gT K mg (μ++[p]) (st++[.lst ws]) (gb H p (.lst vs)):=
 S.push hp ⟨vs,gm,r.mono (bQ _ _) (gH.same (cC hp _))⟩
theorem lP{K:Frag}{mg:Str->Option Value}{μ:List Addr}{st:List aq}{H H':Hp}(S:gT K mg μ st H){p:Addr}:bj K (μ++[p]) H' (.loc st.length) (.ref p):=.locI (by rw[S.len];simp)
theorem A'{μ:List Addr}{st:List aq}{σ:St}{H:Hp}{Q:VK}{ws:List W}{vs:List V}(S:gT X.K X.mg μ st H)(q:RelWs X.K μ H ws vs)(h:RK X (qU X) μ σ H Q (nU ws st)):vs.length<=sizeLine/\∀p H2,H p=none->H2=gb H p (.tup vs)->Q (.ref p) H2:=by
 unfold nU at h
 by_cases hz:ws.length<=jQ
 ·rw[am hz]at h
  refine⟨by rw[<- q.len];exact lO hz,fun p H2 hp e=>?_⟩
  subst e
  have x:=gH.same (K:=X.K) (cC hp (.tup vs))
  exact h μ _ _ (aj _) x (S.same (cC hp _)) (.tupI gH.new (q.mono (aj _) x))
 ·rw[au hz]at h;exact h.elim
theorem pb{μ:List Addr}{st:List aq}{σ:St}{H:Hp}{Q:VK}{ws:List W}{vs:List V}(S:gT X.K X.mg μ st H)(q:RelWs X.K μ H ws vs)(h:RK X (qU X) μ σ H Q (kr ws st)):vs.length<=sizeLine/\∀p H2,H p=none->H2=gb H p (.lst vs)->Q (.ref p) H2:=by
 unfold kr at h
 by_cases hz:ws.length<=jQ
 ·rw[am hz]at h
  refine⟨by rw[<- q.len];exact lO hz,fun p H2 hp e=>?_⟩
  subst e
  exact h (μ++[p]) _ _ (bQ _ _) (gH.same (cC hp _)) (S.newLst hp q) (lP S)
 ·rw[au hz]at h;exact h.elim
theorem nV{k:Nat}(h:SA X es fs):SE X (.Tuple es k pos) (mB fs):=⟨(D9 h.h).imp fun σ H Q h=>by
 obtain⟨μ,ρ,st,l,h⟩:=h
 exact⟨μ,ρ,st,l,RK.bind h l fun μ1 st1 x v H1 p1 x1 l1 q1 h1=>A' l1.sto q1 h1⟩⟩
theorem pc(h:SA X es fs):SE X (.List es pos) (o_ fs):=⟨(D_ h.h).imp fun σ H Q h=>by
 obtain⟨μ,ρ,st,l,h⟩:=h
 exact⟨μ,ρ,st,l,RK.bind h l fun μ1 st1 x v H1 p1 x1 l1 q1 h1=>pb l1.sto q1 h1⟩⟩
end
end L2
namespace L2
open PySem PySem.Spec PyProof.Rows
section
variable{X:Cx}
theorem pd{μ:List Addr}{st:List aq}{H:Hp}{Q:VK}{i:Int}(S:gT X.K X.mg μ st H)(h:Au X μ H Q (.ok (.int i) st)):Q (.int i) H:=h μ _ H (aj _) eV.refl S .int
theorem lQ{μ:List Addr}{st:List aq}{H:Hp}{Q:VK}{i:Bool}(S:gT X.K X.mg μ st H)(h:Au X μ H Q (.ok (.bl i) st)):Q (.bl i) H:=h μ _ H (aj _) eV.refl S .bl
theorem ph{μ:List Addr}{st:List aq}{H:Hp}{Q:VK}{i:List Nat}(S:gT X.K X.mg μ st H)(h:Au X μ H Q (.ok (.str i) st)):Q (.str (tx i)) H:=h μ _ H (aj _) eV.refl S .str
theorem Hm{μ:List Addr}{σ:St}{H:Hp}{Q:VK}{r:R W}(h:Au X μ H Q r):RK X (qU X) μ σ H Q r:=by
 cases r with
 |ok a st=>exact h
 |ex c st=>exact h.elim
 |bad=>exact h
def Av(C:Int->Int->Prop)[∀i j,Decidable (C i j)](f:Int->Int->Int):W->W->List aq->R W
 |.int i,.int j,st=>if C i j then .ok (.int (f i j)) st else .bad
 |_,_,_=>.bad
theorem xw{g:Value->Value->Sem Value}{C C':Int->Int->Prop}[∀i j,Decidable (C' i j)]{f:Int->Int->Int}(h:mR X g (rI C fun i j=>.int (f i j)))(hC:∀i j,C' i j->C i j):rZ X g (Av C' f):=⟨h.imp fun x y H Q ⟨μ,st,wx,wy,S,rx,ry,q⟩=>by
 cases wx with
 |int i=>
  cases wy with
  |int j=>
   simp only[Av]at q
   by_cases c:C' i j
   ·rw[am c]at q;exact⟨i,j,rx.intE,ry.intE,hC i j c,pd S q⟩
   ·rw[au c]at q;exact q.elim
  |_=>exact q.elim
 |_=>cases wy<;>exact q.elim,fun x y st=>by
 unfold Av
 split
 ·split<;>trivial
 ·trivial⟩
def zI(f:Int->Int->Bool):W->W->List aq->R W
 |.int i,.int j,st=>.ok (.bl (f i j)) st
 |_,_,_=>.bad
theorem Ba{g:Value->Value->Sem Value}{f:Int->Int->Bool}(h:mR X g (AI fun i j=>.bl (f i j))):rZ X g (zI f):=⟨h.imp fun x y H Q ⟨μ,st,wx,wy,S,rx,ry,q⟩=>by
 cases wx with
 |int i=>
  cases wy with
  |int j=>exact⟨i,j,rx.intE,ry.intE,lQ S q⟩
  |_=>exact q.elim
 |_=>cases wy<;>exact q.elim,fun x y st=>by
 unfold zI
 split<;>trivial⟩
abbrev Eh(i j:Int):Prop:=(-(2^64)<i/\i<2^64)\/(-(2^64)<j/\j<2^64)
abbrev vT:=Av (fun _ _=>True) fun i j=>i-j
abbrev Kn:=Av Eh fun i j=>i*j
abbrev gl:=Av (fun _ j=>0<j) fun i j=>i%j
abbrev qH:=Av (fun _ j=>0<j/\j<1073741824) fun i j=>i/j
abbrev Ko:=Av (fun i j=>0<=j/\j<=1000000/\i.natAbs<2^64) fun i j=>i^j.toNat
abbrev Ho:=Av (fun _ j=>0<=j) fun i j=>i/2^j.toNat
abbrev Bb:=Av (fun _ _=>True) fun i j=>Builtin.bitAnd i j
theorem Bc{g:Value->Value->Sem Value}{f:Int->Int->V}(h:mR X g (AI f)):mR X g (rI (fun _ _=>True) f):=h.imp fun _ _ _ _ ⟨i,j,a,b,_,q⟩=>⟨i,j,a,b,q⟩
theorem uj:rZ X (binaryOp .Sub) vT:=xw (Bc GV) fun _ _ _=>trivial
theorem Kp:rZ X (binaryOp .Mult) Kn:=xw GW fun _ _ h=>h
theorem fA:rZ X (binaryOp .Mod) gl:=xw GX fun _ _ h=>h
theorem p7:rZ X (binaryOp .FloorDiv) qH:=xw DP fun _ _ h=>h
theorem Kq:rZ X (binaryOp .Pow) Ko:=xw GY fun _ _ h=>h
theorem Kr:rZ X (binaryOp .RShift) Ho:=xw GZ fun _ _ h=>h
theorem Hq:rZ X (binaryOp .BitAnd) Bb:=xw (Bc G0) fun _ _ _=>trivial
def eh:W->W->List aq->R W
 |.int i,.int j,st=>.ok (.int (i+j)) st
 |.str a,.str b,st=>if a.length+b.length<=jQ then .ok (.str (a++b)) st else .bad
 |.tup a,.tup b,st=>nU (a++b) st
 |.loc n,.loc m,st=>match st[n]?,st[m]? with
  |some (.lst a),some (.lst b)=>kr (a++b) st
  |_,_=>.bad
 |_,_,_=>.bad
theorem Ei(ws:List W)(st:List aq):qV (nU ws st):=by unfold nU;split<;>trivial
theorem Ej(ws:List W)(st:List aq):qV (kr ws st):=by unfold kr;split<;>trivial
theorem eG:rZ X (binaryOp .Add) eh:=⟨fun ae s σ H x y v u Q I rv ru ⟨μ,st,wx,wy,S,rx,ry,q⟩=>by
 cases wx with
 |int i=>
  cases wy with
  |int j=>exact GU ae s σ H x y v u Q I rv ru ⟨i,j,rx.intE,ry.intE,pd S q⟩
  |_=>exact q.elim
 |str a=>
  cases wy with
  |str b=>
   simp only[eh]at q
   by_cases c:a.length+b.length<=jQ
   ·rw[am c]at q
    exact w5 ae s σ H x y v u Q I rv ru ⟨_,_,rx.strE,ry.strE,by rw[gZ,gZ];exact lO c,by rw[xf];exact ph S q⟩
   ·rw[au c]at q;exact q.elim
  |_=>exact q.elim
 |tup a=>
  cases wy with
  |tup b=>
   obtain⟨p1,vs1,rfl,h1,r1⟩:=rx.tupE
   obtain⟨p2,vs2,rfl,h2,r2⟩:=ry.tupE
   have q':Au X μ H Q (nU (a++b) st):=q
   unfold nU at q'
   by_cases c:(a++b).length<=jQ
   ·rw[am c]at q'
    refine Hh.h ae s σ H _ _ v u Q I rv ru ⟨p1,p2,vs1,vs2,rfl,rfl,h1,h2,by rw[<- r1.len,<- r2.len,<- aJ];exact lO c,fun p H2 e t=>?_⟩
    exact q' μ _ _ (aj _) (gH.same e) (S.same e) (.tupI t ((r1.app r2).mono (aj _) (gH.same e)))
   ·rw[au c]at q';exact q'.elim
  |_=>exact q.elim
 |loc n=>
  cases wy with
  |loc m=>
   simp only[eh]at q
   cases e1:st[n]? with
   |none=>rw[e1]at q;exact q.elim
   |some c1=>
    cases e2:st[m]? with
    |none=>rw[e1,e2]at q;cases c1<;>exact q.elim
    |some c2=>
     cases c1 with
     |lst a=>
      cases c2 with
      |lst b=>
       rw[e1,e2]at q
       obtain⟨a1,g1,vs1,k1,r1⟩:=S.get e1
       obtain⟨a2,g2,vs2,k2,r2⟩:=S.get e2
       obtain⟨b1,f1,rfl⟩:=rx.locE
       obtain⟨b2,f2,rfl⟩:=ry.locE
       rw[g1]at f1;cases f1
       rw[g2]at f2;cases f2
       obtain⟨hz,qq⟩:=pb (σ:=σ) S (r1.app r2) (Hm q)
       exact D' ae s σ H _ _ v u Q I rv ru ⟨a1,a2,vs1,vs2,rfl,rfl,k1,k2,by rw[<- aJ];exact hz,qq⟩
      |_=>rw[e1,e2]at q;exact q.elim
     |_=>rw[e1,e2]at q;exact q.elim
  |_=>exact q.elim
 |_=>cases wy<;>exact q.elim,fun x y st=>by
 unfold eh
 split
 ·trivial
 ·split<;>trivial
 ·exact Ei _ _
 ·split
  ·exact Ej _ _
  ·trivial
 ·trivial⟩
abbrev Ks:=zI fun i j=>decide (i<j)
abbrev Fw:=zI fun i j=>decide (j<i)
abbrev MY:=zI fun i j=>decide (j<=i)
theorem w_lt:rZ X (compareOp .Lt) Ks:=Ba JT
theorem Bd:rZ X (compareOp .Gt) Fw:=Ba JV
theorem Kt:rZ X (compareOp .GtE) MY:=Ba JW
end
end L2
namespace L2
variable{nk:Nat}
open PySem PySem.Spec PyProof.Rows
mutual
def jC:W->W->Option Bool
 |.non,.non=>some true
 |.bl a,.bl b=>some (a==b)
 |.bl a,.int b=>some ((if a then 1 else 0)==b)
 |.int a,.bl b=>some (a==(if b then 1 else 0))
 |.int a,.int b=>some (a==b)
 |.str a,.str b=>some (a==b)
 |.tup a,.tup b=>eqWs a b
 |.loc _,_=>none
 |.non,.loc _=>none
 |.bl _,.loc _=>none
 |.int _,.loc _=>none
 |.str _,.loc _=>none
 |.tup _,.loc _=>none
 |.non,.bl _=>some false
 |.non,.int _=>some false
 |.non,.str _=>some false
 |.non,.tup _=>some false
 |.bl _,.non=>some false
 |.bl _,.str _=>some false
 |.bl _,.tup _=>some false
 |.int _,.non=>some false
 |.int _,.str _=>some false
 |.int _,.tup _=>some false
 |.str _,.non=>some false
 |.str _,.bl _=>some false
 |.str _,.int _=>some false
 |.str _,.tup _=>some false
 |.tup _,.non=>some false
 |.tup _,.bl _=>some false
 |.tup _,.int _=>some false
 |.tup _,.str _=>some false
def eqWs:List W->List W->Option Bool
 |[],[]=>some true
 |[],_::_=>some false
 |_::_,[]=>some false
 |x::xs,y::ys=>match jC x y,eqWs xs ys with
  |some a,some b=>some (a&&b)
  |_,_=>none
end
mutual
def W.dep:W->Nat
 |.tup ws=>depWs ws+1
 |_=>0
def depWs:List W->Nat
 |[]=>0
 |w::ws=>max w.dep (depWs ws)
end
theorem oq:∀(xs ys:List W) (b:Bool),eqWs xs ys=some b->∃e:Nat->Bool,(∀j (h1:j<xs.length) (h2:j<ys.length),jC xs[j] ys[j]=some (e j))/\((List.range (min xs.length ys.length)).all e&&xs.length==ys.length)=b
 |[],[],b,h=>by unfold eqWs at h;cases h;exact⟨fun _=>true,fun j h1=>absurd h1 (fY _),rfl⟩
 |[],y::ys,b,h=>by unfold eqWs at h;cases h;exact⟨fun _=>true,fun j h1=>absurd h1 (fY _),by simp⟩
 |x::xs,[],b,h=>by unfold eqWs at h;cases h;exact⟨fun _=>true,fun j _ h1=>absurd h1 (fY _),by simp⟩
 |x::xs,y::ys,b,h=>by
  unfold eqWs at h
  cases e1:jC x y with
  |none=>rw[e1]at h;simp at h
  |some a=>
   cases e2:eqWs xs ys with
   |none=>rw[e1,e2]at h;simp at h
   |some c=>
    rw[e1,e2]at h
    simp at h
    obtain⟨e,he,hb⟩:=oq xs ys c e2
    refine⟨fun j=>match j with|0=>a|j+1=>e j,fun j h1 h2=>?_,?_⟩
    ·cases j with
     |zero=>exact e1
     |succ j=>exact he j (iF h1) (iF h2)
    ·have m:min (x::xs).length (y::ys).length=min xs.length ys.length+1:=by simp only[cr];omega
     rw[m,l8,List.all_cons,List.all_map,<- h,<- hb]
     simp[Function.comp_def,Bool.and_assoc]
theorem yI{X:Cx}{H:Hp}{μ:List Addr}{a b:W}{x:V}{k:Bool}(hn:a.dep<=0)(ra:bj X.K μ H a x)(rb:bj X.K μ H b x)(he:jC a b=some k):k=true:=by
 cases a with
 |tup i=>unfold W.dep at hn;omega
 |non=>cases ra.nonE;cases b<;>first|(unfold jC at he;cases he;rfl)|cases rb.blE|cases rb.intE|cases rb.strE|(obtain⟨_,_,z,_⟩:=rb.tupE;cases z)|(unfold jC at he;cases he)
 |bl i=>cases ra.blE;cases b<;>first|(cases rb.blE;unfold jC at he;simp at he;exact he)|cases rb.nonE|cases rb.intE|cases rb.strE|(obtain⟨_,_,z,_⟩:=rb.tupE;cases z)|(unfold jC at he;cases he)
 |int i=>cases ra.intE;cases b<;>first|(cases rb.intE;unfold jC at he;simp at he;exact he)|cases rb.nonE|cases rb.blE|cases rb.strE|(obtain⟨_,_,z,_⟩:=rb.tupE;cases z)|(unfold jC at he;cases he)
 |str i=>cases ra.strE;cases b<;>first|(have z:=rb.strE;injection z with z;rw[uO.mp z]at he;unfold jC at he;simp at he;exact he)|cases rb.nonE|cases rb.blE|cases rb.intE|(obtain⟨_,_,z,_⟩:=rb.tupE;cases z)|(unfold jC at he;cases he)
 |loc i=>cases b<;>(unfold jC at he;cases he)
theorem Be{X:Cx}{ae:List (Addr×Obj)}{σ:St}{H:Hp}{s:Shared}{μ:List Addr}(I:bi X ae σ H s):∀(n:Nat) (a b:W) (x:V) (k:Bool),a.dep<=n->bj X.K μ H a x->bj X.K μ H b x->jC a b=some k->k=true:=by
 intro n
 induction n with
 |zero=>exact fun a b x k hn ra rb he=>yI hn ra rb he
 |succ n ih=>
  intro a b x k hn ra rb he
  cases a with
  |tup i=>
   obtain⟨p',Dw,rfl,hS',r'⟩:=ra.tupE
   cases b with
   |tup z=>
    obtain⟨p,vs,e,hS,r⟩:=rb.tupE
    cases e
    obtain rfl:=I.tuple_inj hS hS'
    have he':eqWs i z=some k:=by unfold jC at he;exact he
    have dn:depWs i<=n:=by unfold W.dep at hn;omega
    have key:∀(i z:List W) (vs:List V) (k:Bool),depWs i<=n->RelWs X.K μ H i vs->RelWs X.K μ H z vs->eqWs i z=some k->k=true:=by
     intro i
     induction i with
     |nil=>
      intro z vs k _ r' r he
      have e1:=r'.nilE
      subst e1
      cases z with
      |nil=>unfold eqWs at he;cases he;rfl
      |cons _ _=>have e2:=r.len;simp at e2
     |cons w i ih2=>
      intro z vs k dn r' r he
      obtain⟨x,xs,rfl,rx,rxs⟩:=r'.consE
      cases z with
      |nil=>have e2:=r.len;simp at e2
      |cons y z=>
       obtain⟨x2,xs2,e3,ry,rys⟩:=r.consE
       cases e3
       unfold eqWs at he
       cases e1:jC w y with
       |none=>rw[e1]at he;simp at he
       |some k1=>
        cases e2:eqWs i z with
        |none=>rw[e1,e2]at he;simp at he
        |some k2=>
         rw[e1,e2]at he
         simp at he
         unfold depWs at dn
         have q1:=ih w y x k1 (by omega) rx ry e1
         have q2:=ih2 z xs k2 (by omega) rxs rys e2
         rw[<- he,q1,q2];rfl
    exact key i z _ k dn r' r he'
   |non=>cases rb.nonE
   |bl z=>cases rb.blE
   |int z=>cases rb.intE
   |str z=>cases rb.strE
   |loc z=>unfold jC at he;cases he
  |_=>exact yI (ah _) ra rb he
theorem p8:∀{ws:List W} {j:Nat} (h:j<ws.length),ws[j].dep<=depWs ws
 |w::ws,0,_=>by unfold depWs;exact Nat.le_max_left _ _
 |w::ws,j+1,h=>by unfold depWs;exact aA (p8 (j:=j) (iF h)) (Nat.le_max_right _ _)
inductive Sh(s:Shared):W->Value->Prop
 |non:Sh s .non .none
 |bl (b:Bool):Sh s (.bl b) (.bool b)
 |int (i:Int) (t:Tok):Sh s (.int i) (.int i t)
 |str (l:List Nat) (t:Tok):Sh s (.str l) (.str (tx l) t)
 |tup (ws:List W) (p:Addr) (bv:List Value) (h:IsTup s.heap p bv.toArray):Sh s (.tup ws) (.ref p)
 |loc (n:Nat) (u:Value):Sh s (.loc n) u
section
variable{X:Cx}{ae:List (Addr×Obj)}{σ:St}{H:Hp}{s:Shared}{μ:List Addr}
theorem qI(I:bi X ae σ H s){a:W}{x:V}{u:Value}(ra:bj X.K μ H a x)(ru:cN s.toks x u):Sh s a u:=by
 cases a with
 |non=>cases ra.nonE;cases ru;exact .non
 |bl i=>cases ra.blE;cases ru;exact .bl _
 |int i=>cases ra.intE;obtain⟨t,rfl⟩:=ru;exact .int _ _
 |str i=>cases ra.strE;obtain⟨t,rfl⟩:=ru;exact .str _ _
 |tup i=>obtain⟨p,vs,rfl,hS,_⟩:=ra.tupE;cases ru;obtain⟨bv,_,ht,_⟩:=I.tuple hS;exact .tup _ _ _ ht
 |loc i=>exact .loc _ _
open SeqAt.EqAt in
theorem yJ{A:Around}{a b:W}{u v:Value}{k:Bool}(ha:Sh s a u)(hb:Sh s b v)(hu:A.units<cLine)(ht:b.dep=0\/a.dep=0)(he:jC a b=some k):SeqAt.EqAt A s u v k:=by
 cases ha<;>cases hb<;>first
  |(unfold jC at he;cases he;done)
  |(unfold jC at he;cases he;with_reducible first|exact same _|exact bool_none _|exact bool_bool _ _|exact bool_int _ _ _|exact bool_str _ _ _|exact int_none _ _|exact int_bool _ _ _|exact int_int _ _ _ _|exact int_str _ _ _ _|exact str_none _ _|exact str_bool _ _ _|exact str_int _ _ _ _|exact none_bool _|exact none_int _ _|exact none_str _ _)
  |(unfold jC at he;cases he;(with_reducible first|refine' bool_tuple _ ?_ hu|refine' int_tuple _ _ ?_ hu|refine' str_tuple _ _ ?_ hu|refine' tuple_none ?_ hu|refine' tuple_bool _ ?_ hu|refine' tuple_int _ _ ?_ hu|refine' tuple_str _ _ ?_ hu|refine' none_tuple ?_ hu);rotate_left;assumption)
  |(unfold W.dep at ht;omega)
  |skip
 rename_i i t z r
 unfold jC at he;cases he
 have:=str_str (A:=A) (s:=s) (tx i) t (tx z) r
 rw[<- on]at this
 exact this
open SeqAt.RcAt in
theorem Ek{A:Around}{a b:W}{u v:Value}{k:Bool}(ha:Sh s a u)(hb:Sh s b v)(hu:A.units<cLine)(ht:b.dep=0\/a.dep=0)(he:jC a b=some k):SeqAt.RcAt A s u v k:=by
 cases ha<;>cases hb<;>first
  |(unfold jC at he;cases he;done)
  |(unfold jC at he;cases he;with_reducible first|exact none_none|exact bool_none _|exact bool_bool _ _|exact bool_int _ _ _|exact bool_str _ _ _|exact int_none _ _|exact int_bool _ _ _|exact int_int _ _ _ _|exact int_str _ _ _ _|exact str_none _ _|exact str_bool _ _ _|exact str_int _ _ _ _|exact none_bool _|exact none_int _ _|exact none_str _ _)
  |(unfold jC at he;cases he;(with_reducible first|refine' bool_tuple _ ?_ hu|refine' int_tuple _ _ ?_ hu|refine' str_tuple _ _ ?_ hu|refine' tuple_none ?_ hu|refine' tuple_bool _ ?_ hu|refine' tuple_int _ _ ?_ hu|refine' tuple_str _ _ ?_ hu|refine' none_tuple ?_ hu);rotate_left;assumption)
  |(unfold W.dep at ht;omega)
  |skip
 rename_i i t z r
 unfold jC at he;cases he
 have:=str_str (A:=A) (s:=s) (tx i) t (tx z) r
 rw[<- on]at this
 exact this
open SeqAt.RcNeAt in
theorem zJ        {A : Around} {a b : W} {u v : Value} {k : Bool} (ha : Sh s a u) (hb : Sh s b v) (hu : A.units < cLine) (ht : b.dep = 0 \/ a.dep = 0) (he : jC  a b = some k) : SeqAt.RcNeAt A s u v (!k) := by
  cases ha <;> cases hb <;> first
    | (unfold jC  at he; cases he; done)
    | (unfold jC  at he; cases he; try simp only [Bool.not_true, Bool.not_false]
       with_reducible first | exact none_none | exact bool_none _ | exact bool_bool _ _ | exact bool_int _ _ _ | exact bool_str _ _ _ | exact int_none _ _ | exact int_bool _ _ _ | exact int_int _ _ _ _ | exact int_str _ _ _ _ | exact str_none _ _ | exact str_bool _ _ _ | exact str_int _ _ _ _ | exact none_bool _ | exact none_int _ _ | exact none_str _ _)
    | (unfold jC  at he; cases he; try simp only [Bool.not_true, Bool.not_false]
       (with_reducible first | refine' bool_tuple _ ?_ hu | refine' int_tuple _ _ ?_ hu | refine' str_tuple _ _ ?_ hu | refine' tuple_none ?_ hu | refine' tuple_bool _ ?_ hu | refine' tuple_int _ _ ?_ hu | refine' tuple_str _ _ ?_ hu | refine' none_tuple ?_ hu); rotate_left; assumption)
    | (unfold W.dep at ht; omega)
    | skip
  rename_i i t z r
  unfold jC  at he; cases he
  have := str_str (A := A) (s := s) (tx i) t (tx z) r
  rw [<- on           ] at this
  exact this
theorem vU{i z:List W}{vs Dw:List V}{bv its':List Value}{e:Nat->Bool}{A:Around}{m:Nat}(ih:∀(a b:W) (A:Around) (x y:V) (u v:Value) (k:Bool),a.dep<=m->bj X.K μ H a x->bj X.K μ H b y->cN nk x u->cN nk y v->A.units+m<cLine->jC a b=some k->SeqAt.EqAt A s u v k)
  (r':RelWs X.K μ H i Dw) (r:RelWs X.K μ H z vs) (w':b7 nk Dw its') (w:b7 nk vs bv) (hd:depWs i<=m) (hu:A.units+1+m<cLine) (h1:∀j (h1:j<i.length) (h2:j<z.length),jC i[j] z[j]=some (e j)):∀j (j1:j<its'.toArray.size) (j2:j<bv.toArray.size),SeqAt.EqAt A.in1 s its'.toArray[j] bv.toArray[j] (e j):=fun j j1 j2=>by
 have j1':j<i.length:=by rw[r'.len,w'.length];simpa using j1
 have j2':j<z.length:=by rw[r.len,w.length];simpa using j2
 obtain⟨x1,g1,q1⟩:=r'.get (af j1')
 obtain⟨x2,g2,q2⟩:=r.get (af j2')
 obtain⟨u1,f1,v1⟩:=w'.get g1
 obtain⟨u2,f2,v2⟩:=w.get g2
 have E:=ih i[j] z[j] A.in1 x1 x2 u1 u2 (e j) (aA (p8 j1') hd) q1 q2 v1 v2 hu (h1 j j1' j2')
 have t1:its'.toArray[j]=u1:=by simpa using (al.mp f1).2
 have t2:bv.toArray[j]=u2:=by simpa using (al.mp f2).2
 rw[t1,t2];exact E
theorem Bf(I:bi X ae σ H s):∀(n:Nat) (a b:W) (A:Around) (x y:V) (u v:Value) (k:Bool),a.dep<=n->bj X.K μ H a x->bj X.K μ H b y->cN s.toks x u->cN s.toks y v->A.units+n<cLine->jC a b=some k->SeqAt.EqAt A s u v k:=by
 intro n
 induction n with
 |zero=>exact fun a b A x y u v k hn ra rb ru rv hu he=>yJ (qI I ra ru) (qI I rb rv) hu (.inr (by omega)) he
 |succ m ih=>
  intro a b A x y u v k hn ra rb ru rv hu he
  by_cases hb:b.dep=0\/a.dep=0
  ·exact yJ (qI I ra ru) (qI I rb rv) (by omega) hb he
  ·cases b with
   |tup z=>
    cases a with
    |tup i=>
     obtain⟨p',Dw,rfl,hS',r'⟩:=id ra.tupE;cases ru;obtain⟨its',w',ht',_⟩:=I.tuple hS'
     obtain⟨p,vs,rfl,hS,r⟩:=id rb.tupE;cases rv;obtain⟨bv,w,ht,_⟩:=I.tuple hS
     by_cases hpp:p'=p
     ·subst hpp
      rw[Be I (m+1) (.tup i) (.tup z) (.ref p') k hn ra rb he]
      exact SeqAt.EqAt.same _
     ·obtain⟨e,h1,h2⟩:=oq i z k (by unfold jC at he;exact he)
      have R:=SeqAt.RcAt.tuples (A:=A) (e:=e) ht' ht (by omega) (vU ih r' r w' w (by unfold W.dep at hn;omega) (by omega) h1)
      rw[show its'.toArray.size=i.length by simp[<- w'.length,<- r'.len],show bv.toArray.size=z.length by simp[<- w.length,<- r.len],h2]at R
      exact SeqAt.EqAt.of_refs hpp R
    |_=>exact(hb (.inr rfl)).elim
   |_=>exact(hb (.inl rfl)).elim
theorem Bg(I:bi X ae σ H s){n:Nat}{a b:W}{A:Around}{x y:V}{u v:Value}{k:Bool}(hn:b.dep=0\/a.dep<=n)(ra:bj X.K μ H a x)(rb:bj X.K μ H b y)(ru:cN s.toks x u)(rv:cN s.toks y v)(hu:A.units+n<cLine)(he:jC a b=some k):SeqAt.RcAt A s u v k/\SeqAt.RcNeAt A s u v (!k):=by
 by_cases hb:b.dep=0\/a.dep=0
 ·exact⟨Ek (qI I ra ru) (qI I rb rv) (by omega) hb he,zJ (qI I ra ru) (qI I rb rv) (by omega) hb he⟩
 cases b with
 |tup z=>
  cases a with
  |tup i=>
   obtain⟨p',Dw,rfl,hS',r'⟩:=ra.tupE;cases ru;obtain⟨its',w',ht',_⟩:=I.tuple hS'
   obtain⟨p,vs,rfl,hS,r⟩:=rb.tupE;cases rv;obtain⟨bv,w,ht,_⟩:=I.tuple hS
   obtain⟨e,h1,h2⟩:=oq i z k (by unfold jC at he;exact he)
   have hd:depWs i+1<=n:=hn.elim (fun z=>(hb (.inl z)).elim) id
   obtain⟨m,rfl⟩:∃m,n=m+1:=⟨n-1,by omega⟩
   have T:=vU (A:=A) (Bf I m) r' r w' w (by omega) (by omega) h1
   have R:=SeqAt.RcAt.tuples (A:=A) (e:=e) ht' ht (by omega) T
   have R2:=SeqAt.RcNeAt.tuples (A:=A) (e:=e) ht' ht (by omega) T
   rw[show its'.toArray.size=i.length by simp[<- w'.length,<- r'.len],show bv.toArray.size=z.length by simp[<- w.length,<- r.len],h2]at R R2
   exact⟨R,R2⟩
  |_=>exact(hb (.inr rfl)).elim
 |_=>exact(hb (.inl rfl)).elim
end
def mV:W->W->List aq->R W:=fun x y st=>match jC x y with
 |some k=>if y.dep=0\/x.dep<=64 then .ok (.bl k) st else .bad
 |none=>.bad
theorem mC{X:Cx}{k:Nat}(hr:im k X.A):rZ X (compareOp .Eq) mV:=⟨fun ae s σ H x y v u Q I rv ru ⟨μ,st,wx,wy,S,rx,ry,q⟩=>by
 unfold mV at q
 cases e:jC wx wy with
 |none=>rw[e]at q;exact q.elim
 |some b=>
  rw[e]at q
  simp only at q
  by_cases c:wy.dep=0\/wx.dep<=64
  ·rw[am c]at q
   have:=hr.units
   exact(Bg I c rx ry rv ru this e).1 X.prog X.w X.xe _ ⟨.bl b,H,I,rfl,lQ S q⟩
  ·rw[au c]at q;exact q.elim,fun x y st=>by
 unfold mV
 split
 ·split<;>trivial
 ·trivial⟩
def Bh:W->W->List aq->R W:=fun x y st=>match jC x y with
 |some k=>if y.dep=0\/x.dep<=64 then .ok (.bl (!k)) st else .bad
 |none=>.bad
theorem El{X:Cx}{k:Nat}(hr:im k X.A):rZ X (compareOp .NotEq) Bh:=⟨fun ae s σ H x y v u Q I rv ru ⟨μ,st,wx,wy,S,rx,ry,q⟩=>by
 unfold Bh at q
 cases e:jC wx wy with
 |none=>rw[e]at q;exact q.elim
 |some b=>
  rw[e]at q
  simp only at q
  by_cases c:wy.dep=0\/wx.dep<=64
  ·rw[am c]at q
   have:=hr.units
   exact(Bg I c rx ry rv ru this e).2 X.prog X.w X.xe _ ⟨.bl (!b),H,I,rfl,lQ S q⟩
  ·rw[au c]at q;exact q.elim,fun x y st=>by
 unfold Bh
 split
 ·split<;>trivial
 ·trivial⟩
def p9(x:W):List W->Option Bool
 |[]=>some false
 |y::ys=>match jC y x,p9 x ys with
  |some a,some b=>some (a||b)
  |_,_=>none
def xy(Gq:Bool)(x y:W)(st:List aq):R W:=match y with
 |.str l=>(match x with
  |.str [c]=>.ok (.bl (if Gq then !decide (c∈l)else decide (c∈l))) st
  |_=>.bad)
 |.tup ys=>(match p9 x ys with
  |some k=>if depWs ys<=63 then .ok (.bl (if Gq then !k else k)) st else .bad
  |none=>.bad)
 |.loc n=>(match st[n]? with
  |some (.lst ys)=>(match p9 x ys with
   |some k=>if depWs ys<=63 then .ok (.bl (if Gq then !k else k)) st else .bad
   |none=>.bad)
  |_=>.bad)
 |_=>.bad
theorem vV{x:W}:∀{ys:List W} {k:Bool},p9 x ys=some k->(∀(j:Nat) w,ys[j]?=some w->∃b,jC w x=some b)/\(k=true↔∃(j:Nat) (w:W),ys[j]?=some w/\jC w x=some true)
 |[],k,h=>by
  unfold p9 at h;cases h
  exact⟨fun j w e=>by simp at e,fun z=>(by cases z),fun⟨j,w,e,_⟩=>(by simp at e)⟩
 |y::ys,k,h=>by
  unfold p9 at h
  cases e1:jC y x with
  |none=>rw[e1]at h;simp at h
  |some a=>
   cases e2:p9 x ys with
   |none=>rw[e1,e2]at h;simp at h
   |some b=>
    rw[e1,e2]at h
    simp at h
    obtain⟨q1,q2⟩:=vV e2
    refine⟨fun j w e=>?_,fun z=>?_,fun⟨j,w,e,f⟩=>?_⟩
    ·cases j with
     |zero=>simp at e;subst e;exact⟨a,e1⟩
     |succ j=>exact q1 j w (by simpa using e)
    ·rw[<- h]at z
     cases a with
     |true=>exact⟨0,y,rfl,e1⟩
     |false=>
      obtain⟨j,w,p,q⟩:=q2.mp (by simpa using z)
      exact⟨j+1,w,by simpa using p,q⟩
    ·rw[<- h]
     cases j with
     |zero=>simp at e;subst e;rw[e1]at f;cases f;rfl
     |succ j=>rw[q2.mpr ⟨j,w,by simpa using e,f⟩];simp
theorem sd{X:Cx}{ae:List (Addr×Obj)}{σ:St}{H:Hp}{s:Shared}{μ:List Addr}(I:bi X ae σ H s){wx:W}{x:V}{v:Value}(rx:bj X.K μ H wx x)(rv:cN s.toks x v)(n:Nat){A:Around}(hu:A.units+n<cLine)
  {ys:List W} {vs:List V} {us:List Value} {k:Bool} (hd:depWs ys<=n) (rs:RelWs X.K μ H ys vs) (vw:b7 s.toks vs us) (ha:p9 wx ys=some k):∃e:Value->Bool,(∀u,u∈us.toArray->SeqAt.EqAt A s u v (e u))/\us.toArray.any e=k:=by
 classical
 obtain⟨q1,q2⟩:=vV ha
 have at':∀(j:Nat) (u:Value),us[j]?=some u->∃w b,ys[j]?=some w/\jC w wx=some b/\SeqAt.EqAt A s u v b:=fun j u e=>by
  have hj:j<ys.length:=by
   have h1:=(al.mp e).1
   rw[rs.len,vw.length];exact h1
  obtain⟨b,hb⟩:=q1 j ys[j] (af hj)
  obtain⟨y,g1,r1⟩:=rs.get (af hj)
  obtain⟨u',f1,v1⟩:=vw.get g1
  rw[e]at f1;cases f1
  exact⟨_,b,af hj,hb,Bf I n ys[j] wx A y x u v b (aA (p8 hj) hd) r1 rx v1 rv hu hb⟩
 refine⟨fun u=>decide (∃(j:Nat) (w:W),us[j]?=some u/\ys[j]?=some w/\jC w wx=some true),fun u hu=>?_,?_⟩
 ·by_cases c:∃(j:Nat) (w:W),us[j]?=some u/\ys[j]?=some w/\jC w wx=some true
  ·show SeqAt.EqAt A s u v (decide _)
   rw[a9 c]
   obtain⟨j,w,e1,e2,e3⟩:=c
   obtain⟨w',b,f1,f2,f3⟩:=at' j u e1
   rw[e2]at f1;cases f1
   rw[e3]at f2;cases f2
   exact f3
  ·show SeqAt.EqAt A s u v (decide _)
   rw[aP c]
   obtain⟨j,hj,e⟩:=List.mem_iff_getElem.mp (show u∈us by simpa using hu)
   have e':us[j]?=some u:=by rw[af hj,e]
   obtain⟨w',b,f1,f2,f3⟩:=at' j u e'
   cases b with
   |false=>exact f3
   |true=>exact absurd ⟨j,w',e',f1,f2⟩ c
 ·rw[List.any_toArray]
  cases k with
  |true=>
   obtain⟨j,w,e1,e2⟩:=q2.mp rfl
   have hj:j<us.length:=by rw[<- vw.length,<- rs.len];exact(al.mp e1).1
   exact List.any_eq_true.mpr ⟨us[j],bU hj,a9 ⟨j,w,af hj,e1,e2⟩⟩
  |false=>
   refine List.any_eq_false.mpr fun u _ c=>?_
   obtain⟨j,w,_,e1,e2⟩:=gj c
   have:=q2.mpr ⟨j,w,e1,e2⟩
   cases this
theorem Em{X:Cx}{k:Nat}(hr:im k X.A):rZ X (compareOp .In) (xy false):=⟨fun ae s σ H x y v u Q I rv ru ⟨μ,st,wx,wy,S,rx,ry,q⟩=>by
 have hu:=hr.units
 cases wy with
 |str l=>
  simp only[xy]at q
  split at q
  ·exact zC ae s σ H x y v u Q I rv ru ⟨_,_,rx.strE,ry.strE,lQ S q⟩
  ·exact q.elim
 |tup ys=>
  simp only[xy]at q
  cases hk:p9 wx ys with
  |none=>rw[hk]at q;exact q.elim
  |some kk=>
   rw[hk]at q
   simp only at q
   by_cases c:depWs ys<=63
   ·rw[am c]at q
    obtain⟨p,vs,rfl,hS,r⟩:=ry.tupE
    cases ru
    obtain⟨bv,w,ht,_⟩:=I.tuple hS
    obtain⟨e,he,ha⟩:=sd (A:=X.A.in1) I rx rv 63 (by show X.A.units+1+63<cLine;omega) c r w hk
    exact SeqAt.in_tupleAt e ht he ⟨.bl _,H,I,rfl,by rw[ha];exact lQ S q⟩
   ·rw[au c]at q;exact q.elim
 |loc n=>
  simp only[xy]at q
  cases e1:st[n]? with
  |none=>rw[e1]at q;exact q.elim
  |some cc=>
   rw[e1]at q
   cases cc with
   |lst ys=>
    simp only at q
    cases hk:p9 wx ys with
    |none=>rw[hk]at q;exact q.elim
    |some kk=>
     rw[hk]at q
     simp only at q
     by_cases c:depWs ys<=63
     ·rw[am c]at q
      obtain⟨a1,g1,vs,k1,r⟩:=S.get e1
      obtain⟨b1,f1,rfl⟩:=ry.locE
      rw[g1]at f1;cases f1
      cases ru
      obtain⟨bv,w,ht,_⟩:=I.list (pW.of k1)
      obtain⟨e,he,ha⟩:=sd (A:=X.A.in1) I rx rv 63 (by show X.A.units+1+63<cLine;omega) c r w hk
      exact SeqAt.in_listAt e ht.isList he ⟨.bl _,H,I,rfl,by rw[ha];exact lQ S q⟩
     ·rw[au c]at q;exact q.elim
   |_=>exact q.elim
 |_=>exact q.elim,fun x y st=>by
 unfold xy
 repeat' split
 all_goals trivial⟩
end L2
namespace L2
open PySem PySem.Spec PyProof.Rows
section
variable{prog:Program}{w:World}{A:Around}{E:Value->Shared->Prop}{s:Shared}
theorem vW{t sl:Addr}{items:Array Value}{vl vu:Value}{lo hi:Option Int}{Q:Value->Shared->Prop}(ht:IsTup s.heap t items)(hs:s.heap.IsSliceOf sl vl vu .none)(pl:IsPart vl lo)(pu:IsPart vu hi)
  (hw:HT.sIx items.size 0 lo=0/\HT.sIx items.size items.size hi=items.size) (h:Q (.ref t) s):wpAny (model prog w) A (getItem (.ref t) (.ref sl)) Q E s:=by
 obtain⟨os,hos,hcs,Az⟩:=id hs
 have hTs:s.TypeIs (.ref sl) "slice":=⟨os,hos,hcs⟩
 unfold getItem
 try with_reducible refine bE ?_
 first|refine aa (ai ?_)|skip
 refine aa (wpAny_sequenceKey ht.typeIs (by decide) ?_)
 refine aa (bT (name:=Str.ofString "__getitem__") ht.typeIs dC
  (bD dC ht.typeIs entry_tuple_getitem ?_ (args_tuple_getitem _ _)))
 show wpAny _ _ (Builtin.Tuple.tupleItemsOf (.ref t) >>= _) _ _ s
 refine aa (tupleItemsOf_ ht ?_)
 refine aa (fR hTs ?_)
 rw[am (by decide)]
 refine aa (HT.sliceApplied_gen hs pl pu ?_)
 have hyes:(((HT.sIx items.size 0 lo:Nat):Int)==0&&(1:Int)==1&&(HT.sIx items.size items.size hi-HT.sIx items.size 0 lo)==items.size)=true:=by
  rw[hw.1,hw.2];simp
 show wpAny _ _ (if (((HT.sIx items.size 0 lo:Nat):Int)==0&&(1:Int)==1&&(HT.sIx items.size items.size hi-HT.sIx items.size 0 lo)==items.size)=true then _ else _) _ _ s
 rw[am hyes]
 unfold Builtin.Tuple.tupleIsExact
 obtain⟨ot,hot,hct,nt,hdt⟩:=id ht
 refine aa (aa (fR (T:="tuple") ht.typeIs ?_))
 refine ai ?_
 rw[am (by decide)]
 exact aa (dL (ai ⟨_,rfl,ai h⟩))
end
section
variable{X:Cx}{a b c e o:Expr}{es:List Expr}{pos p p2 iy dZ:Pos}{x name:Str}{j:Nat}{fa fb fc fe:FE}{fs:FA}
def lstOf(st:List aq)(n:Nat):Option (List W):=match st[n]? with
 |some (.lst ws)=>some ws
 |some (.ro ws)=>some ws
 |_=>none
theorem gT.lstOf{K:Frag}{mg:Str->Option Value}{μ:List Addr}{st:List aq}{H:Hp}(S:gT K mg μ st H){n:Nat}{ws:List W}(h:lstOf st n=some ws):∃a vs,μ[n]?=some a/\pW K H a vs/\RelWs K μ H ws vs:=by
 unfold L2.lstOf at h
 cases e:st[n]? with
 |none=>rw[e]at h;cases h
 |some cc=>
  rw[e]at h
  cases cc with
  |lst zs=>cases h;obtain⟨a,g,vs,k,r⟩:=S.get e;exact⟨a,vs,g,pW.of k,r⟩
  |ro zs=>cases h;obtain⟨a,g,vs,k,r⟩:=S.get e;exact⟨a,vs,g,k.sq,r⟩
  |exc zs=>cases h
  |dct zs=>cases h
  |rod zs=>cases h
  |dcx zs=>cases h
  |rox zs=>cases h
  |obj _ _=>cases h
  |tab _ _ _=>cases h
  |pin _ _ _ _=>cases h
  |gone=>cases h
def tz{α:Type}(o:Option α)(k:α->R W):R W:=match o with
 |some a=>k a
 |none=>.bad
@[simp] theorem dg{α:Type}(a:α)(k:α->R W):tz (some a) k=k a:=rfl
def d8(x y:W)(st:List aq):R W:=match x,y with
 |.tup ws,.int i=>tz (qS ws i) fun w=>.ok w st
 |.str l,.int i=>if l.length<=jQ then tz (qS l i) (fun c=>.ok (.str [c]) st)else .bad
 |.loc n,.int i=>tz (lstOf st n) fun ws=>tz (qS ws i) fun w=>.ok w st
 |_,_=>.bad
theorem yK{K:Frag}{μ:List Addr}{H:Hp}{ws:List W}{vs:List V}{i:Int}{w:W}(r:RelWs K μ H ws vs)(h:qS ws i=some w):∃v,qS vs i=some v/\bj K μ H w v:=by
 unfold qS at h ⊢
 rw[<- r.len]
 cases e:Js ws.length i with
 |none=>rw[e]at h;cases h
 |some k=>rw[e]at h;exact r.get h
theorem MZ:Dq X (MW X d8):=fun value slice ae s σ H x y v u Q I rv ru ⟨μ,st,wx,wy,S,rx,ry,q⟩ hs=>by
 refine G8 value slice ae s σ H x y v u Q I rv ru ?_ hs
 cases wy with
 |int i=>
  cases wx with
  |tup ws=>
   simp only[d8]at q
   cases e1:qS ws i with
   |none=>rw[e1]at q;exact q.elim
   |some w=>
    rw[e1]at q
    obtain⟨p,vs,rfl,hS,r⟩:=rx.tupE
    obtain⟨z,f,g⟩:=yK r e1
    exact .inr (.inl ⟨p,vs,i,z,rfl,ry.intE,hS,f,q μ z H (aj _) eV.refl S g⟩)
  |str l=>
   simp only[d8]at q
   by_cases c:l.length<=jQ
   ·rw[am c]at q
    cases e1:qS l i with
    |none=>rw[e1]at q;exact q.elim
    |some w=>
     rw[e1]at q
     exact .inr (.inr ⟨_,i,w,rx.strE,ry.intE,by rw[gZ];exact lO c,by rw[Ha];exact e1,ph S q⟩)
   ·rw[au c]at q;exact q.elim
  |loc n=>
   simp only[d8]at q
   cases e0:lstOf st n with
   |none=>rw[e0]at q;exact q.elim
   |some ws=>
    rw[e0]at q
    cases e1:qS ws i with
    |none=>rw[dg,e1]at q;exact q.elim
    |some w=>
     rw[dg,e1]at q
     obtain⟨a,vs,g,hS,r⟩:=S.lstOf e0
     obtain⟨b1,f1,rfl⟩:=rx.locE
     rw[g]at f1;cases f1
     obtain⟨z,f,g⟩:=yK r e1
     exact .inl ⟨_,vs,i,z,rfl,ry.intE,hS,f,q μ z H (aj _) eV.refl S g⟩
  |_=>exact q.elim
 |_=>cases wx<;>exact q.elim
theorem qJ{α:Type}{o:Option α}{k:α->R W}(h:∀a,qV (k a)):qV (tz o k):=by
 unfold tz
 split
 ·exact h _
 ·trivial
theorem Ku(x y:W)(st:List aq):qV (d8 x y st):=by
 unfold d8
 split
 ·exact qJ fun _=>trivial
 ·split
  ·exact qJ fun _=>trivial
  ·trivial
 ·exact qJ fun _=>qJ fun _=>trivial
 ·trivial
theorem eD(ha:SE X a fa)(hb:SE X b fb)(hs:yt b:=by intro _ _;rfl):SE X (.Subscript a b pos) (e2 d8 fa fb):=⟨(J3 MZ ha.h hb.h hs).imp fun _ _ _ h=>yE Ku h⟩
abbrev FO:=cn->List aq->R (Option Int)
abbrev M0:List Addr->Hp->Option Int->Option Int->Prop:=fun _ _ a b=>a=b
structure SO(X:Cx)(e:Option Expr)(f:FO):Prop where
 h:PO X e (tG X M0 f)
def nX:FO:=fun _ st=>.ok none st
def mW(fa:FE):FO:=fun ρ st=>(fa ρ st).bind fun x st=>match x with
 |.int i=>.ok (some i) st
 |_=>.bad
theorem PO.imp{X:Cx}{e:Option Expr}{t t':TO}(h:PO X e t)(i:∀σ H Q,t' σ H Q->t σ H Q):PO X e t':=fun ae s σ H Q I q=>h ae s σ H Q I (i _ _ _ q)
theorem nE:SO X none nX:=⟨DU.imp fun σ H Q h=>by
 obtain⟨μ,ρ,st,l,h⟩:=h
 exact h μ none H (aj _) eV.refl l.sto rfl⟩
theorem nF(ha:SE X a fa):SO X (some a) (mW fa):=⟨(DV ha.h).imp fun σ H Q h=>by
 obtain⟨μ,ρ,st,l,h⟩:=h
 refine⟨μ,ρ,st,l,RK.bind h l fun μ1 st1 x v H1 p1 x1 l1 q1 h1=>?_⟩
 cases x with
 |int k=>exact⟨k,q1.intE,h1 μ1 _ H1 (aj _) eV.refl l1.sto rfl⟩
 |_=>exact h1.elim⟩
def iZ{α:Type}(xs:List α)(lo hi:Option Int):List α:=(xs.drop (HT.sIx xs.length 0 lo)).take (HT.sIx xs.length xs.length hi-HT.sIx xs.length 0 lo)
def wV(x:W)(lo hi:Option Int)(st:List aq):R W:=match x with
 |.tup ws=>.ok (.tup (iZ ws lo hi)) st
 |.str l=>if l.length<=jQ then .ok (.str (iZ l lo hi)) st else .bad
 |.loc n=>tz (lstOf st n) fun ws=>.ok (.loc st.length) (st++[.lst (iZ ws lo hi)])
 |_=>.bad
theorem Kv(x:W)(lo hi:Option Int)(st:List aq):qV (wV x lo hi st):=by
 unfold wV tz
 repeat' split
 all_goals trivial
def Bi(fa:FE)(fl fh:FO):FE:=fun ρ st=>(fa ρ st).bind fun x st=>(fl ρ st).bind fun l st=>(fh ρ st).bind fun h st=>wV x l h st
theorem M1:J1 X (fun x lo hi H Q=>∃μ st wx,gT X.K X.mg μ st H/\bj X.K μ H wx x/\Au X μ H Q (wV wx lo hi st)):=by
 intro ae s σ H x v vl vu lo hi sl Q I rv hs pl pu ⟨μ,st,wx,S,rx,q⟩
 cases wx with
 |tup ws=>
  obtain⟨p,vs,rfl,hS,r⟩:=rx.tupE
  have hl:=r.len
  by_cases hw:HT.sIx vs.length 0 lo=0/\HT.sIx vs.length vs.length hi=vs.length
  ·cases rv
   obtain⟨bv,w,ht,hz⟩:=I.tuple hS
   have eZ:bv.toArray.size=vs.length:=by rw[aR];exact w.length.symm
   refine⟨"tuple",_,dC.lookup,ht.typeIs,vW ht hs pl pu (by rw[eZ];exact hw) ⟨.ref p,H,I,rfl,?_⟩⟩
   have e:iZ ws lo hi=ws:=by
    unfold iZ
    rw[hl,hw.1,hw.2,ni,ma,<- hl,List.take_length]
   have q':Au X μ H Q (.ok (.tup (iZ ws lo hi)) st):=q
   rw[e]at q'
   exact q' μ _ H (aj _) eV.refl S rx
  ·refine G5 ae s σ H _ v vl vu lo hi sl Q I rv hs pl pu ⟨p,vs,rfl,hS,hw,fun p2 hp2=>?_⟩
   have x:=gH.same (K:=X.K) (cC hp2 (.tup (rL vs lo hi)))
   have rc:RelWs X.K μ H (iZ ws lo hi) (rL vs lo hi):=by
    unfold iZ rL
    rw[hl]
    exact(r.drop _).take _
   exact q μ _ _ (aj _) x (S.same (cC hp2 _)) (.tupI gH.new (rc.mono (aj _) x))
 |str l=>
  simp only[wV]at q
  by_cases c:l.length<=jQ
  ·rw[am c]at q
   exact Hd ae s σ H _ v vl vu lo hi sl Q I rv hs pl pu ⟨l,rx.strE,lO c,ph S q⟩
  ·rw[au c]at q;exact q.elim
 |loc n=>
  simp only[wV]at q
  cases e0:lstOf st n with
  |none=>rw[e0]at q;exact q.elim
  |some ws=>
   rw[e0]at q
   obtain⟨a,vs,g,hS,r⟩:=S.lstOf e0
   obtain⟨b1,f1,rfl⟩:=rx.locE
   rw[g]at f1;cases f1
   have hl:=r.len
   refine D0 ae s σ H _ v vl vu lo hi sl Q I rv hs pl pu ⟨_,vs,rfl,hS,fun p2 hp2=>?_⟩
   have rc:RelWs X.K μ H (iZ ws lo hi) (rL vs lo hi):=by
    unfold iZ rL
    rw[hl]
    exact(r.drop _).take _
   exact q (μ++[p2]) _ _ (bQ _ _) (gH.same (cC hp2 _)) (S.newLst hp2 rc) (lP S)
 |_=>exact q.elim
theorem zK{lo hi:Option Expr}{fl fh:FO}(ha:SE X a fa)(hl:SO X lo fl)(hh:SO X hi fh):SE X (.Subscript a (.Slice lo hi none p2) pos) (Bi fa fl fh):=⟨(AL M1 ha.h hl.h hh.h).imp fun σ H Q h=>by
 obtain⟨μ,ρ,st,l,h⟩:=h
 refine⟨μ,ρ,st,l,RK.bind h l fun μ1 st1 x v H1 p1 x1 l1 q1 h1=>⟨μ1,ρ,st1,l1,RK.bind h1 l1 fun μ2 cP y u H2 p2 x2 l2 q2 h2=>⟨μ2,ρ,cP,l2,RK.bind h2 l2 fun μ3 lc z t H3 p3 x3 l3 q3 h3=>?_⟩⟩⟩
 cases q2;cases q3
 exact⟨μ3,lc,x,l3.sto,(q1.mono p2 x2).mono p3 x3,r6 h3 (Kv _ _ _ _)⟩⟩
def Nt(X:Cx)(F:List W->List aq->R W):List V->Hp->VK->Prop:=fun vs H Q=>∃μ st ws,gT X.K X.mg μ st H/\RelWs X.K μ H ws vs/\Au X μ H Q (F ws st)
structure uk(X:Cx)(f:Value)(F:List W->List aq->R W):Prop where
 h:jg X f (Nt X F)
 n:∀ws st,qV (F ws st)
def cT(F:List W->List aq->R W)(fs:FA):FE:=fun ρ st=>(fs ρ st).bind fun ws st=>F ws st
theorem yL{F:List W->List aq->R W}{σ:St}{H:Hp}{Q:VK}(n:∀ws st,qV (F ws st))(h:tE X (cT F fs) σ H Q):MD (Nt X F) (L7 X fs) σ H Q:=by
 obtain⟨μ,ρ,st,l,h⟩:=h
 exact⟨μ,ρ,st,l,RK.bind h l fun μ1 st1 x v H1 p1 x1 l1 q1 h1=>⟨μ1,st1,x,l1.sto,q1,r6 h1 (n _ _)⟩⟩
theorem dN{id:String}{F:List W->List aq->R W}(hc:uk X (.builtin id) F)(hm:X.mg x=none)(hv:bootBuiltins x=some (.builtin id))(ha:SA X (e::es) fs)(hg:Gl X x:=by rfl)(hn:x ≠ "__name__":=by decide)(Aq:(x==("__debug__":Str))=false:=by decide)
  (he:starEach (e::es) X.env=(false,eval e X.env)::starEach es X.env:=by rfl) (nS:(backTo pos (starEach es X.env)).any (·.1)=false:=by rfl):SE X (.Call (.Name x p) (e::es) [] pos) (cT F fs):=⟨(oS hc.h hg hm hv ha.h hn Aq he nS).imp fun _ _ _ h=>yL hc.n h⟩
theorem iq{T:String}{F:List W->List aq->R W}(hc:uk X (.type T) F)(hm:X.mg x=none)(hv:bootBuiltins x=some (.type T))(ha:SA X (e::es) fs)(hg:Gl X x:=by rfl)(hn:x ≠ "__name__":=by decide)(Aq:(x==("__debug__":Str))=false:=by decide)
  (he:starEach (e::es) X.env=(false,eval e X.env)::starEach es X.env:=by rfl) (nS:(backTo pos (starEach es X.env)).any (·.1)=false:=by rfl):SE X (.Call (.Name x p) (e::es) [] pos) (cT F fs):=⟨(pX hc.h hg hm hv ha.h hn Aq he nS).imp fun _ _ _ h=>yL hc.n h⟩
theorem RelWs.two{K:Frag}{μ:List Addr}{H:Hp}{a b:W}{vs:List V}(r:RelWs K μ H [a,b] vs):∃x y,vs=[x,y]/\bj K μ H a x/\bj K μ H b y:=by
 obtain⟨x,xs,rfl,rx,rn⟩:=r.consE
 obtain⟨y,ys,rfl,ry,rm⟩:=rn.consE
 rw[rm.nilE];exact⟨x,y,rfl,rx,ry⟩
theorem RelWs.one{K:Frag}{μ:List Addr}{H:Hp}{a:W}{vs:List V}(r:RelWs K μ H [a] vs):∃x,vs=[x]/\bj K μ H a x:=by
 obtain⟨x,xs,rfl,rx,rn⟩:=r.consE
 rw[rn.nilE];exact⟨x,rfl,rx⟩
def gn(ws:List W)(st:List aq):R W:=match ws with
 |[.tup xs]=>.ok (.int xs.length) st
 |[.str l]=>if l.length<=jQ then .ok (.int l.length) st else .bad
 |[.loc n]=>tz (lstOf st n) fun xs=>.ok (.int xs.length) st
 |_=>.bad
theorem iu:uk X (.builtin "len") gn:=⟨fun ae s σ H vs us Q I rv ⟨μ,st,ws,S,r,q⟩=>by
 unfold gn at q
 split at q
 ·obtain⟨x,rfl,rx⟩:=r.one
  obtain⟨p,ys,rfl,hS,r'⟩:=rx.tupE
  exact oU ae s σ H _ us Q I rv ⟨p,ys,rfl,.inr hS,by rw[<- r'.len];exact pd S q⟩
 ·obtain⟨x,rfl,rx⟩:=r.one
  split at q
  ·rename_i c
   exact uM ae s σ H _ us Q I rv ⟨_,by rw[rx.strE],by rw[gZ];exact lO c,by rw[gZ];exact pd S q⟩
  ·exact q.elim
 ·obtain⟨x,rfl,rx⟩:=r.one
  unfold tz at q
  split at q
  ·rename_i ys e0
   obtain⟨a,vs,g,hS,r'⟩:=S.lstOf e0
   obtain⟨b1,f1,rfl⟩:=rx.locE
   rw[g]at f1;cases f1
   exact oU ae s σ H _ us Q I rv ⟨_,vs,rfl,.inl hS,by rw[<- r'.len];exact pd S q⟩
  ·exact q.elim
 ·exact q.elim,fun ws st=>by
 unfold gn tz
 repeat' split
 all_goals trivial⟩
def iw(ws:List W)(st:List aq):R W:=match ws with
 |[.tup xs]=>.ok (.tup xs) st
 |[.loc n]=>tz (lstOf st n) fun xs=>.ok (.tup xs) st
 |_=>.bad
theorem jD:uk X (.type "tuple") iw:=⟨fun ae s σ H vs us Q I rv ⟨μ,st,ws,S,r,q⟩=>by
 unfold iw at q
 split at q
 ·obtain⟨x,rfl,rx⟩:=r.one
  obtain⟨p,ys,rfl,hS,r'⟩:=id rx.tupE
  exact vC ae s σ H _ us Q I rv ⟨p,ys,rfl,hS,q μ _ H (aj _) eV.refl S rx⟩
 ·obtain⟨x,rfl,rx⟩:=r.one
  unfold tz at q
  split at q
  ·rename_i ys e0
   obtain⟨a,vs,g,hS,r'⟩:=S.lstOf e0
   obtain⟨b1,f1,rfl⟩:=rx.locE
   rw[g]at f1;cases f1
   refine vG ae s σ H _ us Q I rv ⟨_,vs,rfl,hS,fun l H2 hl e=>?_⟩
   subst e
   have x:=gH.same (K:=X.K) (cC hl (.tup vs))
   exact q μ _ _ (aj _) x (S.same (cC hl _)) (.tupI gH.new (r'.mono (aj _) x))
  ·exact q.elim
 ·exact q.elim,fun ws st=>by
 unfold iw tz
 repeat' split
 all_goals trivial⟩
end
section
variable{X:Cx}{a b c e o:Expr}{es:List Expr}{pos p p2 iy dZ:Pos}{x name:Str}{j:Nat}{fa fb fc fe:FE}{fs:FA}{ft:FT}{st1:Stmt}{sr sa sb:List Stmt}{g g':FS}
def bG(g g':FS):FS:=fun ρ st=>match g ρ st with
 |.nx ρ' bp=>g' ρ' bp
 |r=>r
def fB:FS:=fun ρ st=>.nx ρ st
theorem er:SB X [] fB:=⟨DE.imp fun D σ H h=>by
 obtain⟨μ,ρ,st,l,h⟩:=h
 exact h μ σ H (aj _) eV.refl l⟩
theorem bu(h1:SS X st1 g):SB X [st1] g:=⟨DF h1.h⟩
theorem aN(h1:SS X st1 g)(h2:SB X sr g'):SB X (st1::sr) (bG g g'):=⟨(AD h1.h h2.h).imp fun D σ H h=>by
 obtain⟨μ,ρ,st,l,h⟩:=h
 refine⟨μ,ρ,st,l,?_⟩
 unfold bG at h
 cases e:g ρ st with
 |nx ρ' bp=>rw[e]at h;exact fun μ' σ' H' p x l'=>⟨μ',ρ',bp,l',SK.mono h p x⟩
 |rt w bp=>rw[e]at h;exact h
 |bk ρ' bp=>rw[e]at h;exact h
 |ct ρ' bp=>rw[e]at h;exact h
 |ex c ρ' bp=>rw[e]at h;exact h
 |bad=>rw[e]at h;exact h⟩
def R.stmt{α:Type}(r:R α)(ρ:cn)(k:α->List aq->RS):RS:=match r with
 |.ok a st=>k a st
 |.ex c st=>.ex c ρ st
 |.bad=>.bad
@[simp] theorem R.stmt_ok{α:Type}(a:α)(st:List aq)(ρ:cn)(k:α->List aq->RS):(R.ok a st).stmt ρ k=k a st:=rfl
theorem RK.stmt{α β:Type}{rel:List Addr->Hp->α->β->Prop}{μ:List Addr}{ρ:cn}{st:List aq}{σ:St}{H:Hp}{D:vz}{r:R α}{k:α->List aq->RS}{T:β->Hp->Prop}
  (h:SK X μ H D (r.stmt ρ k)) (l:Rl X μ ρ st σ H)
  (hk:∀μ' bp x v H',μ <+: μ'->eV X.K H H'->Rl X μ' ρ bp σ H'->rel μ' H' x v->SK X μ' H' D (k x bp)->T v H'):RK X rel μ σ H T r:=by
 cases r with
 |ok a bp=>exact fun μ' b H' p x s q=>hk μ' bp a b H' p x (l.to p x s) q (SK.mono h p x)
 |ex c bp=>exact XS.toE h l
 |bad=>exact h
def iL(fe:FE):FS:=fun ρ st=>(fe ρ st).stmt ρ fun _ st=>.nx ρ st
theorem i_(he:SE X e fe)(hs:swapsWith e none pos.line X.env=pure false:=by rfl):SS X (.Expr e pos) (iL fe):=⟨(DG he.h hs).imp fun D σ H h=>by
 obtain⟨μ,ρ,st,l,h⟩:=h
 exact⟨μ,ρ,st,l,RK.stmt h l fun μ1 st1 x v H1 p1 x1 l1 q1 h1=>h1 μ1 σ H1 (aj _) eV.refl l1⟩⟩
def fN(fe:FE):FS:=fun ρ st=>(fe ρ st).stmt ρ fun w st=>.rt w st
theorem cO(he:SE X e fe):SS X (.Return (some e) pos) (fN fe):=⟨(GJ he.h).imp fun D σ H h=>by
 obtain⟨μ,ρ,st,l,h⟩:=h
 exact⟨μ,ρ,st,l,RK.stmt h l fun μ1 st1 x v H1 p1 x1 l1 q1 h1=>h1 μ1 v H1 (aj _) eV.refl l1.sto q1⟩⟩
def mZ(t:FT)(g g':FS):FS:=fun ρ st=>(t ρ st).stmt ρ fun k st=>if k then g ρ st else g' ρ st
theorem fV(hc:ST X c ft)(ha:SB X sa g)(hb:SB X sb g'):SS X (.If c sa sb pos) (mZ ft g g'):=⟨(JL hc.h ha.h hb.h).imp fun D σ H h=>by
 obtain⟨μ,ρ,st,l,h⟩:=h
 refine⟨μ,ρ,st,l,RK.stmt h l fun μ1 st1 x v H1 p1 x1 l1 q1 h1=>?_⟩
 cases q1
 cases x with
 |true=>exact⟨μ1,ρ,st1,l1,h1⟩
 |false=>exact⟨μ1,ρ,st1,l1,h1⟩⟩
abbrev FG:=W->cn->Option cn
abbrev Fx:=List W->cn->Option cn
def L8(X:Cx)(f:FG):TG:=fun v σ H Q=>∃μ ρ st w ρ',Rl X μ ρ st σ H/\bj X.K μ H w v/\f w ρ=some ρ'/\∀σ',Rl X μ ρ' st σ' H->Q σ' H
def M2(X:Cx)(f:Fx):DH:=fun vs σ H Q=>∃μ ρ st ws ρ',Rl X μ ρ st σ H/\RelWs X.K μ H ws vs/\f ws ρ=some ρ'/\∀σ',Rl X μ ρ' st σ' H->Q σ' H
theorem PG.imp{X:Cx}{e:Expr}{t t':TG}(h:PG X e t)(i:∀v σ H Q,t' v σ H Q->t v σ H Q):PG X e t':=fun ae s σ H x u Q I r q=>h ae s σ H x u Q I r (i _ _ _ _ q)
theorem Fh.imp{X:Cx}{e:List Expr}{t t':DH}(h:Fh X e t)(i:∀v σ H Q,t' v σ H Q->t v σ H Q):Fh X e t':=fun ae s σ H x u Q I r q=>h ae s σ H x u Q I r (i _ _ _ _ q)
structure SG(X:Cx)(e:Expr)(f:FG):Prop where
 h:PG X e (L8 X f)
structure L9(X:Cx)(e:List Expr)(f:Fx):Prop where
 h:Fh X e (M2 X f)
def m6(i:Nat):FG:=fun w ρ=>some (ρ.set i (some w))
theorem yM{i:Nat}(hN:X.N.Nodup)(hi:X.N[i]?=some x)(hx:Dp X.env.scope x)(hf:X.fn x=true\/X.env.scope.names.lookup x=some .local:=by first|exact .inl rfl|exact .inr rfl|assumption):SG X (.Name x pos) (m6 i):=⟨(DJ hN hi hx hf).imp fun v σ H Q h=>by
 obtain⟨μ,ρ,st,w,ρ',l,r,e,q⟩:=h
 cases e
 exact q _ ⟨o9 r i l.env,l.sto⟩⟩
def yN:Fx:=fun ws ρ=>match ws with
 |[]=>some ρ
 |_=>none
def m7(f:FG)(fs:Fx):Fx:=fun ws ρ=>match ws with
 |w::ws=>(f w ρ).bind fun ρ'=>fs ws ρ'
 |[]=>none
theorem yO:L9 X [] yN:=⟨DL.imp fun vs σ H Q h=>by
 obtain⟨μ,ρ,st,ws,ρ',l,r,e,q⟩:=h
 cases ws with
 |nil=>cases e;exact⟨r.nilE,q σ l⟩
 |cons _ _=>cases e⟩
theorem pi{f:FG}{fs:Fx}(h1:SG X e f)(h2:L9 X es fs)(hs:(assignEach (e::es) X.env).map (·.2)=assign e X.env::(assignEach es X.env).map (·.2):=by rfl):L9 X (e::es) (m7 f fs):=⟨(AE h1.h h2.h hs).imp fun vs σ H Q h=>by
 obtain⟨μ,ρ,st,ws,ρ',l,r,e,q⟩:=h
 cases ws with
 |nil=>cases e
 |cons w ws=>
  obtain⟨x,xs,rfl,rx,rs⟩:=r.consE
  simp only[m7]at e
  cases e1:f w ρ with
  |none=>rw[e1]at e;cases e
  |some ρ1=>
   rw[e1]at e
   exact⟨x,xs,rfl,μ,ρ,st,w,ρ1,l,rx,e1,fun σ1 l1=>⟨μ,ρ1,st,ws,ρ',l1,rs,e,q⟩⟩⟩
def Kw(n:Nat)(fs:Fx):FG:=fun w ρ=>match w with
 |.tup ws=>if ws.length=n then fs ws ρ else none
 |_=>none
theorem Bj{k n:Nat}{fs:Fx}(hc:X.calm=true)(h:L9 X es fs)(hn:(assignEach es X.env).length=n:=by rfl)(jq:(assignEach es X.env).findIdx? (·.1)=none:=by rfl):SG X (.Tuple es k pos) (Kw n fs):=⟨(GL hc h.h hn jq).imp fun v σ H Q h=>by
 obtain⟨μ,ρ,st,w,ρ',l,r,e,q⟩:=h
 cases w with
 |tup ws=>
  obtain⟨p,vs,rfl,hS,rs⟩:=r.tupE
  simp only[Kw]at e
  by_cases c:ws.length=n
  ·rw[am c]at e
   exact⟨p,vs,rfl,hS,by rw[<- rs.len];exact c,μ,ρ,st,ws,ρ',l,rs,e,q⟩
  ·rw[au c]at e;cases e
 |_=>cases e⟩
def Bk(fe:FE)(f:FG):FS:=fun ρ st=>(fe ρ st).stmt ρ fun w st=>match f w ρ with
 |some ρ'=>.nx ρ' st
 |none=>.bad
def dH(i:Nat)(fe:FE):FS:=fun ρ st=>(fe ρ st).stmt ρ fun w st=>.nx (ρ.set i (some w)) st
theorem Hr{i:Nat}{jp:Pos}(hN:X.N.Nodup)(hi:X.N[i]?=some x)(hx:Dp X.env.scope x)(he:SE X e fe)(hs:swapsWith e (some (.Name x jp)) pos.line X.env=pure false:=by rfl)(hf:X.fn x=true\/X.env.scope.names.lookup x=some .local:=by first|exact .inl rfl|exact .inr rfl|assumption) :
  SS X (.Assign [.Name x jp] e pos) (dH i fe):=⟨(GO hN hi hx he.h hs hf).imp fun D σ H h=>by
 obtain⟨μ,ρ,st,l,h⟩:=h
 exact⟨μ,ρ,st,l,RK.stmt h l fun μ1 st1 x v H1 p1 x1 l1 q1 h1=>h1 μ1 _ H1 (aj _) eV.refl ⟨o9 q1 i l1.env,l1.sto⟩⟩⟩
def En(fo fi fe:FE)(f:W->W->W->List aq->Option (List aq)):FS:=fun ρ st=>(fe ρ st).stmt ρ fun v st=>(fo ρ st).stmt ρ fun x st=>(fi ρ st).stmt ρ fun i st=>match f x i v st with
 |some bp=>.nx ρ bp
 |none=>.bad
def Fy(X:Cx)(f:W->W->W->List aq->Option (List aq)):DI:=fun o i v H Q=>∃μ st wo wi wv bp,gT X.K X.mg μ st H/\bj X.K μ H wo o/\bj X.K μ H wi i/\bj X.K μ H wv v/\f wo wi wv st=some bp/\∀H',eV X.K H H'->gT X.K X.mg μ bp H'->Q H'
theorem Hs{f:W->W->W->List aq->Option (List aq)}{i:Expr}{jp:Pos}{fi:FE}{fo:FE}(Ng:GK X (Fy X f))(he:SE X e fe)(ho:SE X o fo)(hi:SE X i fi)
  (ha:∀v,assign (.Subscript o i jp) X.env v=(do
   let ov <- holding [v] (eval o X.env)
   let iv <- holding [v,ov] (eval i X.env)
   standAt jp
   holding [v,ov,iv] (setItem ov iv v)
   release [v,ov,iv] []):=by intro _;rfl)
  (hs:swapsWithSole [.Subscript o i jp] e pos.line X.env=pure false:=by rfl) (hw:swappedStores [.Subscript o i jp] e X.env=pure none:=by rfl) (h1:(assignEach [.Subscript o i jp] X.env).map (·.2)=[assign (.Subscript o i jp) X.env]:=by rfl) :
  SS X (.Assign [.Subscript o i jp] e pos) (En fo fi fe f):=⟨(GN he.h (GM ho.h hi.h Ng ha) hs hw h1).imp fun D σ H h=>by
 obtain⟨μ,ρ,st,l,h⟩:=h
 refine⟨μ,ρ,st,l,RK.stmt h l fun μ1 st1 v vv H1 p1 x1 l1 q1 h1=>⟨μ1,ρ,st1,l1,RK.stmt h1 l1 fun μ2 cP x xv H2 p2 x2 l2 q2 h2=>⟨μ2,ρ,cP,l2,RK.stmt h2 l2 fun μ3 lc i iv H3 p3 x3 l3 q3 h3=>?_⟩⟩⟩
 cases e1:f x i v lc with
 |none=>rw[e1]at h3;exact h3.elim
 |some bp=>
  rw[e1]at h3
  exact⟨μ3,lc,x,i,v,bp,l3.sto,q2.mono p3 x3,q3,(q1.mono p2 x2).mono p3 x3,e1,fun H' xx S'=>h3 μ3 σ H' (aj _) xx (l3.to (aj _) xx S')⟩⟩
end
def iM(st:List aq):Option (Nat×List W)->Prop
 |none=>True
 |some (n,ws)=>lstOf st n=some ws
abbrev zL:=List W×Option (Nat×List W)
abbrev FI:=cn->List aq->R zL
def xz(X:Cx)(J:It)(k:zL)(μ:List Addr)(H:Hp):Prop:=
 ∀(i:Nat) μ' bp H',μ <+: μ'->eV X.K H H'->gT X.K X.mg μ' bp H'->iM bp k.2 ->
  (∀w,k.1[i]?=some w->J.go i H'/\∀x H'',J.yld i H' x H''->eV X.K H' H''/\gT X.K X.mg μ' bp H''/\bj X.K μ' H'' w x)/\(k.1.length<=i->J.stop i H')
abbrev Kx(X:Cx):List Addr->Hp->zL->It->Prop:=fun μ H k J=>xz X J k μ H
structure SI(X:Cx)(tg it:Expr)(f:FI):Prop where
 h:PI X tg it (fun σ H R=>tG X (Kx X) f σ H R)
theorem PI.imp{X:Cx}{tg it:Expr}{t t':TI}(h:PI X tg it t)(i:∀σ H Q,t' σ H Q->t σ H Q):PI X tg it t':=fun ae s σ H Q I q=>h ae s σ H Q I (i _ _ _ q)
open Classical in
def pq(f:FG)(body:FS)(ck:Option (Nat×List W)):List W->FS
 |[],ρ,st=>if iM st ck then .nx ρ st else .bad
 |w::ws,ρ,st=>if iM st ck then(match f w ρ with
  |none=>.bad
  |some ρ'=>(match body ρ' st with
   |.nx ρ2 cP=>pq f body ck ws ρ2 cP
   |.ct ρ2 cP=>pq f body ck ws ρ2 cP
   |.bk ρ2 cP=>.nx ρ2 cP
   |.rt w cP=>.rt w cP
   |.ex c ρ2 cP=>.ex c ρ2 cP
   |.bad=>.bad))else .bad
def p_(fi:FI)(f:FG)(body:FS):FS:=fun ρ st=>(fi ρ st).stmt ρ fun k st=>pq f body k.2 k.1 ρ st
section
variable{X:Cx}{a b c e o tg dq:Expr}{es:List Expr}{pos p p2:Pos}{fa fb fe:FE}{fs:FA}{ft:FT}{body:List Stmt}{g:FS}{f:FG}{fi:FI}
theorem ou(hi:SI X tg dq fi)(hg:SG X tg f)(hb:SB X body g)(hc:X.calm=true:=by rfl)(hp:PassesOwn (model X.prog X.w) X.A X.env X.xe:=by passes_own)(hs:∀x,foldedSetIterable dq X.env x=pure x:=by intro _;rfl):SS X (.For tg dq body [] pos) (p_ fi f g):=⟨(GQ hp hc hi.h hg.h hb.h hs).imp fun D σ H h=>by
 obtain⟨μ,ρ,st,l,h⟩:=h
 refine⟨μ,ρ,st,l,RK.stmt h l fun μ1 st1 k J H1 p1 x1 l1 wk h1=>?_⟩
 refine⟨fun i m σ' H'=>i<=k.1.length/\m=k.1.length-i/\∃μ' ρ' bp,μ1 <+: μ'/\eV X.K H1 H'/\Rl X μ' ρ' bp σ' H'/\SK X μ' H' D (pq f g k.2 (k.1.drop i) ρ' bp),
  ⟨_,br _,rfl,μ1,ρ,st1,aj _,eV.refl,l1,h1⟩,?_⟩
 rintro i m σ' H' ⟨hi,rfl,μ',ρ',bp,pm,xm,lm,hm⟩
 by_cases hlt:i<k.1.length
 ·rw[cb hlt]at hm
  unfold pq at hm
  by_cases ck:iM bp k.2
  ·rw[am ck]at hm
   obtain⟨go,yld⟩:=(wk i μ' bp H' pm xm lm.sto ck).1 _ (af hlt)
   cases hf:f k.1[i] ρ' with
   |none=>rw[hf]at hm;exact hm.elim
   |some ρ2=>
    rw[hf]at hm
    simp only at hm
    refine .inr ⟨go,fun σ2 H2=>∃μ2 ρ3 cP,μ' <+: μ2/\eV X.K H' H2/\Rl X μ2 ρ3 cP σ2 H2/\SK X μ2 H2 D (pq f g k.2 (k.1.drop (i+1)) ρ3 cP),fun σ2 H2 ⟨μ2,ρ3,cP,q1,q2,q3,q4⟩=>
     ⟨_,by omega,hlt,rfl,μ2,ρ3,cP,pm.trans q1,xm.trans q2,q3,q4⟩,fun x H2 hy=>?_⟩
    obtain⟨y1,y2,y3⟩:=yld x H2 hy
    refine⟨μ',ρ',bp,k.1[i],ρ2,lm.to (aj _) y1 y2,y3,hf,fun σ2 l2=>⟨μ',ρ2,bp,l2,?_⟩⟩
    cases e:g ρ2 bp with
    |nx ρ3 lc=>rw[e]at hm;exact fun μ4 σ4 H4 p4 x4 l4=>⟨μ4,ρ3,lc,p4,y1.trans x4,l4,SK.mono hm p4 (y1.trans x4)⟩
    |ct ρ3 lc=>rw[e]at hm;exact fun μ4 σ4 H4 p4 x4 l4=>⟨μ4,ρ3,lc,p4,y1.trans x4,l4,SK.mono hm p4 (y1.trans x4)⟩
    |bk ρ3 lc=>rw[e]at hm;exact fun μ4 σ4 H4 p4 x4 l4=>hm μ4 σ4 H4 p4 (y1.trans x4) l4
    |rt w lc=>rw[e]at hm;exact fun μ4 v4 H4 p4 x4=>hm μ4 v4 H4 p4 (y1.trans x4)
    |ex c ρ3 lc=>rw[e]at hm;exact XS.mono hm (aj _) y1
    |bad=>rw[e]at hm;exact hm
  ·rw[au ck]at hm;exact hm.elim
 ·have hi':i=k.1.length:=by omega
  subst hi'
  rw[md (ah _)]at hm
  unfold pq at hm
  by_cases ck:iM bp k.2
  ·rw[am ck]at hm
   exact .inl ⟨(wk _ μ' bp H' pm xm lm.sto ck).2 (ah _),hm μ' σ' H' (aj _) eV.refl lm⟩
  ·rw[au ck]at hm;exact hm.elim⟩
def fC(t:FT)(body:FS):Nat->FS
 |0,_,_=>.bad
 |n+1,ρ,st=>(t ρ st).stmt ρ fun k st=>if k then(match body ρ st with
   |.nx ρ2 cP=>fC t body n ρ2 cP
   |.ct ρ2 cP=>fC t body n ρ2 cP
   |.bk ρ2 cP=>.nx ρ2 cP
   |.rt w cP=>.rt w cP
   |.ex c ρ2 cP=>.ex c ρ2 cP
   |.bad=>.bad)else .nx ρ st
open Classical in
def oy(t:FT)(body:FS):FS:=fun ρ st=>if h:∃n,fC t body n ρ st≠.bad then fC t body h.choose ρ st else .bad
theorem m8(t:FT)(g:FS):∀(n:Nat) (ρ:cn) (st:List aq),fC t g n ρ st≠.bad->fC t g (n+1) ρ st=fC t g n ρ st
 |0,_,_,h=>absurd rfl h
 |n+1,ρ,st,h=>by
  unfold fC at h ⊢
  cases e:t ρ st with
  |ex c st1=>rfl
  |bad=>rfl
  |ok k st1=>
   rw[e]at h
   simp only[R.stmt_ok]at h ⊢
   cases k with
   |false=>rfl
   |true=>
    simp only[gD]at h ⊢
    cases e2:g ρ st1 with
    |nx ρ2 cP=>rw[e2]at h;exact m8 t g n ρ2 cP h
    |ct ρ2 cP=>rw[e2]at h;exact m8 t g n ρ2 cP h
    |_=>rfl
theorem ul{t:FT}{g:FS}{n m:Nat}{ρ:cn}{st:List aq}(h:fC t g n ρ st≠.bad)(hm:n<=m):fC t g m ρ st=fC t g n ρ st:=by
 induction hm with
 |refl=>rfl
 |@step m _ ih=>rw[m8 t g m ρ st (by rw[ih];exact h),ih]
theorem zM{t:FT}{g:FS}{n:Nat}{ρ:cn}{st:List aq}{r:RS}(h:fC t g n ρ st=r)(hr:r≠.bad):oy t g ρ st=r:=by
 have hx:∃n,fC t g n ρ st≠.bad:=⟨n,by rw[h];exact hr⟩
 unfold oy
 rw[dif_pos hx]
 have c:=hx.choose_spec
 have a:=ul c (Nat.le_max_left hx.choose n)
 have b:=ul (n:=n) (m:=max hx.choose n) (by rw[h];exact hr) (Nat.le_max_right _ _)
 rw[<- a,b,h]
theorem vX{X:Cx}{t:FT}{g:FS}{D:vz}:∀(n:Nat) (σ:St) (H:Hp) (μ:List Addr) (ρ:cn) (st:List aq),Rl X μ ρ st σ H->SK X μ H D (fC t g n ρ st)->AF (tT X t) (MU X g) D σ H:=by
 intro n σ H μ ρ st l h
 refine⟨fun m σ' H'=>∃μ' ρ' bp,Rl X μ' ρ' bp σ' H'/\SK X μ' H' D (fC t g m ρ' bp),⟨n,μ,ρ,st,l,h⟩,?_⟩
 rintro m σ' H' ⟨μ',ρ',bp,l',h'⟩
 cases m with
 |zero=>exact h'.elim
 |succ m=>
  refine⟨μ',ρ',bp,l',RK.stmt h' l' fun μ1 st1 k v H1 p1 x1 l1 q1 h1=>?_⟩
  cases q1
  cases k with
  |false=>exact h1 μ1 σ' H1 (aj _) eV.refl l1
  |true=>
   refine⟨fun σ2 H2=>∃μ2 ρ2 cP,Rl X μ2 ρ2 cP σ2 H2/\SK X μ2 H2 D (fC t g m ρ2 cP),fun σ2 H2 z=>⟨m,bB m,z⟩,μ1,ρ',st1,l1,?_⟩
   simp only[gD]at h1
   cases e:g ρ' st1 with
   |nx ρ3 lc=>rw[e]at h1;exact fun μ4 σ4 H4 p4 x4 l4=>⟨μ4,ρ3,lc,l4,SK.mono h1 p4 x4⟩
   |ct ρ3 lc=>rw[e]at h1;exact fun μ4 σ4 H4 p4 x4 l4=>⟨μ4,ρ3,lc,l4,SK.mono h1 p4 x4⟩
   |bk ρ3 lc=>rw[e]at h1;exact h1
   |rt w lc=>rw[e]at h1;exact h1
   |ex c ρ3 lc=>rw[e]at h1;exact h1
   |bad=>rw[e]at h1;exact h1
theorem Bm{t:FT}(hc:ST X c t)(hb:SB X body g)(hp:PassesOwn (model X.prog X.w) X.A X.env X.xe:=by passes_own):SS X (.While c body [] pos) (oy t g):=⟨(AG hp hc.h hb.h).imp fun D σ H h=>by
 obtain⟨μ,ρ,st,l,h⟩:=h
 unfold oy at h
 by_cases hx:∃n,fC t g n ρ st≠.bad
 ·rw[dif_pos hx]at h;exact vX _ σ H μ ρ st l h
 ·rw[dif_neg hx]at h;exact h.elim⟩
def Bn(fe:FE):FI:=fun ρ st=>(fe ρ st).bind fun x st=>match x with
 |.tup ws=>.ok (ws,none) st
 |_=>.bad
theorem Bo(he:SE X e fe):SI X tg e (Bn fe):=⟨(GP he.h).imp fun σ H R h=>by
 obtain⟨μ,ρ,st,l,h⟩:=h
 refine⟨μ,ρ,st,l,RK.bind h l fun μ1 st1 x v H1 p1 x1 l1 q1 h1=>?_⟩
 cases x with
 |tup ws=>
  obtain⟨p,vs,rfl,hS,r⟩:=q1.tupE
  refine⟨p,rfl,⟨vs,hS⟩,h1 μ1 _ H1 (aj _) eV.refl l1.sto fun i μ' bp H' pp xx S _=>⟨fun w hw=>?_,fun hl=>⟨vs,xx _ _ hS,by rw[<- r.len];exact hl⟩⟩⟩
  have r':=r.mono pp xx
  obtain⟨v,g1,g2⟩:=r'.get hw
  refine⟨⟨vs,v,xx _ _ hS,g1⟩,fun y H'' hy=>?_⟩
  obtain⟨rfl,hy⟩:=hy
  have:=hy vs (xx _ _ hS)
  rw[g1]at this;cases this
  exact⟨eV.refl,S,g2⟩
 |_=>exact h1.elim⟩
def Fz(fe:FE):FI:=fun ρ st=>(fe ρ st).bind fun x st=>match x with
 |.loc n=>(match lstOf st n with
  |some ws=>.ok (ws,some (n,ws)) st
  |none=>.bad)
 |_=>.bad
theorem Ht(he:SE X e fe):SI X tg e (Fz fe):=⟨(DN he.h).imp fun σ H R h=>by
 obtain⟨μ,ρ,st,l,h⟩:=h
 refine⟨μ,ρ,st,l,RK.bind h l fun μ1 st1 x v H1 p1 x1 l1 q1 h1=>?_⟩
 cases x with
 |loc n=>
  obtain⟨a,ha,rfl⟩:=q1.locE
  simp only at h1
  cases e1:lstOf st1 n with
  |none=>rw[e1]at h1;exact h1.elim
  |some ws=>
   rw[e1]at h1
   obtain⟨a',vs0,g0,hS0,r0⟩:=l1.sto.lstOf e1
   rw[ha]at g0;cases g0
   refine⟨a,rfl,⟨vs0,hS0⟩,h1 μ1 _ H1 (aj _) eV.refl l1.sto fun i μ' bp H' pp xx S ck=>?_⟩
   obtain⟨a2,vs,g2,hS,r⟩:=S.lstOf (show lstOf bp n=some ws from ck)
   have:μ'[n]?=some a:=yD pp ha
   rw[g2]at this;cases this
   refine⟨fun w hw=>?_,fun hl=>⟨vs,hS,by rw[<- r.len];exact hl⟩⟩
   obtain⟨v,g1,g3⟩:=r.get hw
   refine⟨⟨vs,v,hS,g1⟩,fun y H'' hy=>?_⟩
   obtain⟨rfl,hy⟩:=hy
   have:=hy vs hS
   rw[g1]at this;cases this
   exact⟨eV.refl,S,g3⟩
 |_=>exact h1.elim⟩
def dh(lo:Int)(n:Nat):List W:=(List.range n).map fun(i:Nat)=>W.int (lo+i)
theorem fO(lo:Int)(n:Nat):(dh lo n).length=n:=by simp[dh]
theorem xA{μ:List Addr}{H:Hp}{lo:Int}{n:Nat}:xz X (L3 lo n) (dh lo n,none) μ H:=fun i μ' bp H' pp xx S _=>by
 refine⟨fun w hw=>?_,fun hl=>by rw[fO]at hl;exact hl⟩
 have hi:i<n:=by
  have:=(al.mp hw).1
  rw[fO]at this;exact this
 refine⟨hi,fun y H'' hy=>?_⟩
 obtain⟨rfl,rfl⟩:=hy
 have e:w=.int (lo+i):=by
  unfold dh at hw
  rw[aL,gJ hi]at hw
  exact(be hw).symm
 subst e
 exact⟨eV.refl,S,.int⟩
def dk(fs:FA):FI:=fun ρ st=>(fs ρ st).bind fun ws st=>match ws with
 |[.int j]=>if -(2^62)<=j/\j<2^62 then .ok (dh 0 j.toNat,none) st else .bad
 |_=>.bad
theorem hZ(hm:X.mg "range"=none)(ha:SA X [a] fs)(hg:Gl X "range":=by rfl)(hs:starEach [a] X.env=[(false,eval a X.env)]:=by rfl):SI X tg (.Call (.Name "range" p) [a] [] pos) (dk fs):=⟨(zt hg hm ha.h hs).imp fun σ H R h=>by
 obtain⟨μ,ρ,st,l,h⟩:=h
 refine⟨μ,ρ,st,l,RK.bind h l fun μ1 st1 x v H1 p1 x1 l1 q1 h1=>?_⟩
 split at h1
 ·obtain⟨y,rfl,ry⟩:=q1.one
  split at h1
  ·rename_i c
   exact⟨_,by rw[ry.intE],c.1,c.2,h1 μ1 _ H1 (aj _) eV.refl l1.sto xA⟩
  ·exact h1.elim
 ·exact h1.elim⟩
end
end L2
namespace L2
variable{nk:Nat}
open PySem PySem.Spec PyProof.Rows
mutual
def W.und(n:Nat):W->Bool
 |.loc m=>decide (m<n)
 |.tup ws=>undWs n ws
 |_=>true
def undWs(n:Nat):List W->Bool
 |[]=>true
 |w::ws=>w.und n&&undWs n ws
end
def aq.und(n:Nat):aq->Bool
 |.lst ws=>undWs n ws
 |.ro ws=>undWs n ws
 |.exc _=>true
 |.dct kvs=>undWs n (kvs.map fun p=>p.2)
 |.rod kvs=>undWs n (kvs.map fun p=>p.2)
 |.dcx kvs=>undWs n (kvs.map fun p=>p.2)
 |.rox kvs=>undWs n (kvs.map fun p=>p.2)
 |.obj _ fs=>undWs n (fs.map fun p=>p.2)
 |.tab _ _ _=>true
 |.pin _ _ _ w=>w.und n
 |.gone=>true
section
variable{K:Frag}{mg:Str->Option Value}{μ μ':List Addr}{H H':Hp}
mutual
theorem bj.und:∀{w:W} {v:V},bj K μ H w v->w.und μ.length=true
 |.non,_,_=>by simp[W.und]
 |.bl _,_,_=>by simp[W.und]
 |.int _,_,_=>by simp[W.und]
 |.str _,_,_=>by simp[W.und]
 |.tup _,_,r=>by obtain⟨p,vs,_,_,c⟩:=r.tupE;unfold W.und;exact RelWs.und c
 |.loc _,_,r=>by obtain⟨a,e,_⟩:=r.locE;unfold W.und;exact a9 (al.mp e).1
theorem RelWs.und:∀{ws:List W} {vs:List V},RelWs K μ H ws vs->undWs μ.length ws=true
 |[],_,_=>by unfold undWs;rfl
 |_::_,_,r=>by obtain⟨x,xs,_,b,c⟩:=r.consE;unfold undWs;rw[bj.und b,RelWs.und c];rfl
end
mutual
theorem bj.take{n:Nat}:∀{w:W} {v:V},bj K μ H w v->w.und n=true->bj K (μ.take n) H w v
 |.non,_,r,_=>by rw[r.nonE];exact .non
 |.bl _,_,r,_=>by rw[r.blE];exact .bl
 |.int _,_,r,_=>by rw[r.intE];exact .int
 |.str _,_,r,_=>by rw[r.strE];exact .str
 |.tup _,_,r,b=>by obtain⟨p,vs,rfl,h,c⟩:=r.tupE;unfold W.und at b;exact .tupI h (RelWs.takeN c b)
 |.loc _,_,r,b=>by obtain⟨a,e,rfl⟩:=r.locE;unfold W.und at b;exact .locI (by rw[bZ (gj b)];exact e)
theorem RelWs.takeN{n:Nat}:∀{ws:List W} {vs:List V},RelWs K μ H ws vs->undWs n ws=true->RelWs K (μ.take n) H ws vs
 |[],_,r,_=>by rw[r.nilE];exact .nilI
 |_::_,_,r,b=>by
  obtain⟨x,xs,rfl,b1,c1⟩:=r.consE
  unfold undWs at b
  rw[cq]at b
  exact .consI (bj.take b1 b.1) (RelWs.takeN c1 b.2)
end
theorem KX.und_w(k:KX)(n:Nat):k.w.und n=true:=by
 have hi:∀ks:List Int,undWs n (ks.map W.int)=true:=fun ks=>by
  induction ks with
  |nil=>rfl
  |cons a l ih=>show(true&&undWs n (l.map W.int))=true;rw[ih];rfl
 cases k with
 |bo b=>rfl
 |fl ks=>unfold KX.w W.und;exact hi ks
 |pr i ks=>unfold KX.w W.und undWs;rw[show(W.int i).und n=true from rfl];unfold undWs;rw[show(W.tup (ks.map W.int)).und n=true by unfold W.und;exact hi ks];rfl
theorem se:∀{kvs:List (KX×W)} {es:List DictEntry},Paired (vR K μ H) kvs es->undWs μ.length (kvs.map fun p=>p.2)=true
 |_,_,.nil=>rfl
 |_,_,.cons r t=>by
  obtain⟨_,_,v,h,_⟩:=r
  show(_&&undWs _ _)=true
  rw[h.und,se t];rfl
theorem qa{n:Nat}:∀{kvs:List (KX×W)} {es:List DictEntry},Paired (vR K μ H) kvs es->undWs n (kvs.map fun p=>p.2)=true->Paired (vR K (μ.take n) H) kvs es
 |_,_,.nil,_=>.nil
 |_,_,.cons r t,b=>by
  obtain⟨a,⟨u,c,d⟩,v,h,g⟩:=r
  have b:(_&&undWs n _)=true:=b
  rw[cq]at b
  exact .cons ⟨a,⟨u,bj.take c (KX.und_w _ n),d⟩,v,bj.take h b.1,g⟩ (qa t b.2)
theorem kq.und{c:aq}{a:Addr}(r:kq K mg μ H c a):c.und μ.length=true:=by
 cases c with
 |lst ws=>obtain⟨vs,_,y⟩:=r;exact y.und
 |ro ws=>obtain⟨vs,_,y⟩:=r;exact y.und
 |exc c=>rfl
 |dct kvs=>obtain⟨vs,_,y⟩:=r;exact y.und
 |rod kvs=>obtain⟨vs,_,_,y⟩:=r;exact y.und
 |dcx kvs=>obtain⟨es,_,_,y,_⟩:=r;exact se y
 |rox kvs=>obtain⟨es,_,_,_,y,_⟩:=r;exact se y
 |obj _ fs=>obtain⟨_,_,vs,_,_,y⟩:=r;exact y.und
 |tab _ _ _=>rfl
 |pin _ _ _ _=>obtain⟨_,_,_,v,y,_⟩:=r;exact y.und
 |gone=>rfl
theorem kq.take{n:Nat}{c:aq}{a:Addr}(r:kq K mg μ H c a)(b:c.und n=true):kq K mg (μ.take n) H c a:=by
 cases c with
 |lst ws=>obtain⟨vs,x,y⟩:=r;exact⟨vs,x,y.takeN b⟩
 |ro ws=>obtain⟨vs,x,y⟩:=r;exact⟨vs,x,y.takeN b⟩
 |exc c=>exact r
 |dct kvs=>obtain⟨vs,x,y⟩:=r;exact⟨vs,x,y.takeN b⟩
 |rod kvs=>obtain⟨vs,o,x,y⟩:=r;exact⟨vs,o,x,y.takeN b⟩
 |dcx kvs=>obtain⟨es,x,d,y,z⟩:=r;exact⟨es,x,d,qa y b,z⟩
 |rox kvs=>obtain⟨es,o,x,d,y,z⟩:=r;exact⟨es,o,x,d,qa y b,z⟩
 |obj _ fs=>obtain⟨C,dx,vs,m,x,y⟩:=r;exact⟨C,dx,vs,m,x,y.takeN b⟩
 |tab _ _ _=>exact r
 |pin _ _ _ _=>obtain⟨ea,p,g,v,y,z⟩:=r;exact⟨ea,p,g,v,y.take b,z⟩
 |gone=>trivial
end
theorem dS.ex{P:Program}{w:World}{H:Hp}{h:Heap}{a:Addr}{o:HO}(x:dS P w nk H h a o):∃ob,h.get? a=some ob:=by
 cases o with
 |lst xs=>obtain⟨_,_,_,_,e⟩:=x;exact⟨_,e⟩
 |tup xs=>obtain⟨_,_,_,o,e,_⟩:=x;exact⟨_,e⟩
 |dK kvs=>obtain⟨_,_,_,_,o,_,_,e,_⟩:=x;exact⟨_,e⟩
 |dT kvs=>obtain⟨_,_,_,_,o,_,_,e,_⟩:=x;exact⟨_,e⟩
 |set S n=>obtain⟨o,_,_,_,e,_⟩:=x;exact⟨_,e⟩
 |ins C dx fs=>obtain⟨_,_,_,e,_⟩:=x;exact⟨_,e⟩
 |own y=>obtain⟨_,e⟩:=x;exact⟨_,e⟩
 |xd fs=>obtain⟨_,⟨_,_,_,e,_⟩,_⟩:=x;exact⟨_,e⟩
 |rng lo hi=>obtain⟨_,_,_,e⟩:=x;exact⟨_,e⟩
 |frz ob u=>obtain⟨e,_⟩:=x;exact⟨_,e⟩
 |tbl ps=>exact⟨_,(show h.get? a=some _ from x)⟩
 |met f y=>exact⟨_,(show h.get? a=some _ from x)⟩
 |ext φ=>obtain⟨_,⟨_,e⟩,_⟩:=x;exact⟨_,e⟩
def FB(st bp:List aq)(ws:List W):Prop:=undWs st.length ws=true/\st.length<=bp.length/\∀(i:Nat),i<st.length->bp[i]?=st[i]?\/∃c,bp[i]?=some c/\c.und st.length=true
open Classical in
def mi(st bp:List aq)(ws:List W):List aq:=if FB st bp ws then bp.take st.length else bp
theorem lj{K:Frag}{mg:Str->Option Value}{μ μ':List Addr}{H H':Hp}{st bp:List aq}{ws:List W}{vs:List V}(S:gT K mg μ st H)(S':gT K mg μ' bp H')(p:μ <+: μ')(r:RelWs K μ' H' ws vs) :
  ∃μ2,μ <+: μ2/\gT K mg μ2 (mi st bp ws) H'/\RelWs K μ2 H' ws vs:=by
 unfold mi
 by_cases k:FB st bp ws
 ·rw[am k]
  obtain⟨k1,k2,k3⟩:=k
  have e:μ'.take st.length=μ:=by
   obtain⟨t,rfl⟩:=p
   rw[S.len,List.take_left]
  refine⟨μ'.take st.length,by rw[e];exact aj _,⟨fun i j a ci cj h1 h2 r1 r2 m1 m2=>?_,by rw[aQ,aQ,S'.len],fun i c a h1 h2=>?_⟩,r.takeN k1⟩
  ·have hi:i<st.length:=by have:=(al.mp h1).1;rw[aQ]at this;omega
   have hj:j<st.length:=by have:=(al.mp h2).1;rw[aQ]at this;omega
   rw[bZ hi]at h1 m1
   rw[bZ hj]at h2 m2
   exact S'.nd i j a ci cj h1 h2 r1 r2 m1 m2
  ·have hi:i<st.length:=by have:=(al.mp h1).1;rw[aQ]at this;omega
   rw[bZ hi]at h1 h2
   refine(S'.at' i c a h1 h2).take ?_
   rcases k3 i hi with q|⟨c',q,b⟩
   ·rw[h1]at q
    obtain⟨a0,g0,r0⟩:=S.get q.symm
    have:=r0.und
    rw[S.len];exact this
   ·rw[h1]at q;cases q;exact b
 ·rw[au k]
  exact⟨μ',p,S',r⟩
def fW(N:Nat)(body:FS)(ws:List W)(st:List aq):R W:=match body (ws.map some++List.replicate (N-ws.length) none) st with
 |.rt w bp=>.ok w (mi st bp [w])
 |.nx _ bp=>.ok .non (mi st bp [])
 |.ex c _ bp=>.ex c (mi st bp [])
 |_=>.bad
def mj(P:Program)(w:World):vB:=fun outer H s E e s'=>∃x C t B H',e=.ref x/\E C none H'/\s'.os=s.os/\AllBare s'.gens/\Un (mQ outer) [] H H' s.heap s'.heap/\nA P w s'.toks H' s'.heap/\H' x=none/\Heap.FlyingW B outer x C (.ref t) s'.heap /\
 ∀b o,s'.heap.get? b=some o->(H' b≠none\/((∃o0,s.heap.get? b=some o0)/\b∉mQ outer))->B.get? b=some o
def nQ(K:Frag)(mg:Str->Option Value)(n:Nat)(F:List W->List aq->R W):Sp:=fun vs H Q E=>vs.length=n/\∃μ ws st,gT K mg μ st H/\RelWs K μ H ws vs/\(match F ws st with
 |.ok w bp=>∀μ' v H',μ <+: μ'->eV K H H'->gT K mg μ' bp H'->bj K μ' H' w v->Q v H'
 |.ex c bp=>∀C μ' H',mg c=some C->μ <+: μ'->eV K H H'->gT K mg μ' bp H'->E C none H'
 |.bad=>False)
theorem li.noted{X:Cx}{ae:List (Addr×Obj)}{σ:St}{c:Str}{H:Hp}{e:Value}{s:Shared}{Q:Unit->Shared->Prop}{E:Value->Shared->Prop}{M:Model}{outer:List Env}(f:li X ae σ c H e s)(jq:X.stack=X.env::outer)(qP:X.env.frame=some X.env.locals)(hA:X.A.frames=some X.stack)
  (h:∀x C t B h',e=.ref x->X.mg c=some C->H x=none->Heap.FlyingW B X.stack x C (.ref t) h'->s.heap.UpToSlots h' ->
   (∀b o,s.heap.get? b=some o->(H b≠none\/((∃o0,X.s₀.heap.get? b=some o0)/\b∉X.fs/\b∉X.ex)\/((∃y,X.env.cells.lookup y=some b)/\b∉mQ X.stack)\/∃p∈X.pn++ae,p.1=b)->B.get? b=some o)->Q () { s with heap:=h' }) :
  wpAny M X.A (leaving X.env e) Q E s:=by
 obtain⟨x,C,t,B,rfl,hC,hx,st,nx,ff,tr,oF⟩:=f.ex
 rw[jq]at ff hA
 rcases tr with tr|⟨oe,vs,he,rfl,_,hd,h1,h0⟩|⟨L,hL,tr⟩
 ·refine wpAny_leaving_nextW hA ff qP tr st nx fun h' hL=>?_
  obtain⟨k1,k2,k3,k4⟩:=hL
  exact h x C t B h' rfl hC hx ⟨k1,nx,by rw[jq];exact k2,k3⟩ k4 oF
 ·refine wpAny_leaving_firstW hA ff qP he st nx hd h1 h0 fun h' hL=>?_
  obtain⟨k1,k2,k3,k4⟩:=hL
  exact h x _ t B h' rfl hC hx ⟨k1,nx,by rw[jq];exact k2,k3⟩ k4 oF
 ·unfold leaving
  refine aa (iG hL tr (pV ⟨st,nx,ff,tr⟩ fun h' fl up=>?_))
  exact h x C t B h' rfl hC hx (by rw[jq];exact fl) up oF
theorem li.leaves{X:Cx}{ae:List (Addr×Obj)}{σ:St}{c:Str}{H:Hp}{e:Value}{s:Shared}{E:XK}{E':Value->Shared->Prop}{M:Model}(f:li X ae σ c H e s)(jq:X.stack=X.env::X.outer)(qP:X.env.frame=some X.env.locals)(hA:X.A.frames=some X.stack)(oQ:X.ex=[])
  (hE:∀C,X.mg c=some C->E C none H):wpAny M X.A (leaving X.env e) (fun _ s''=>mj X.prog X.w X.outer X.H₀ X.s₀ E e s'') E' s:=by
 refine f.noted jq qP hA fun x C t B h' he hC hx fl up oF=>?_
 have I:=f.inv
 have un:=I.base
 rw[oQ]at un
 have fsE:X.fs=mQ X.outer:=rfl
 obtain⟨f1,f2,f3,f4⟩:=fl
 rw[jq]at f3
 obtain⟨_,_,f3'⟩:=f3
 have frames:∀b∈mQ X.outer,∀o,s.heap.get? b=some o->∃sl,h'.get? b=some { o with slots:=sl }:=fun b hb o ho=>by
  obtain⟨_,o',ho',hd⟩:=I.funs.mem hb
  rw[ho]at ho';cases ho'
  exact up b o ho hd
 have kept:∀b o,s.heap.get? b=some o->(∃o0,X.s₀.heap.get? b=some o0)->b∉mQ X.outer->h'.get? b=some o:=fun b o ho h0 hb=>f1 b o (oF b o ho (.inr (.inl ⟨h0,hb,by rw[oQ];simp⟩)))
 have keptH:∀b o,s.heap.get? b=some o->H b≠none->h'.get? b=some o:=fun b o ho h0=>f1 b o (oF b o ho (.inl h0))
 refine⟨x,C,t,B,H,he,hE C hC,I.os,I.bare,⟨fun b o q n hb hx=>?_,fun b o q n hb hx=>?_,fun b o q n hx=>un.free b o q n hx,fun b o q hx=>?_,un.tups,un.frzs,un.tbls⟩,fun b u hb=>?_,hx,⟨f1,f2,f3',f4⟩,fun b o ho hr=>?_⟩
 ·exact kept b o (un.keep b o q n hb hx) ⟨o,q⟩ hb
 ·obtain⟨sl,q1⟩:=un.slot b o q n hb hx
  obtain⟨sl2,q2⟩:=frames b hb _ q1
  exact⟨sl2,q2⟩
 ·obtain⟨o',q1⟩:=un.there b o q hx
  by_cases hb:b∈mQ X.outer
  ·obtain⟨sl2,q2⟩:=frames b hb _ q1;exact⟨_,q2⟩
  ·exact⟨o',kept b o' q1 ⟨o,q⟩ hb⟩
 ·refine(I.hok b u hb).stay (fun c v hc q=>?_) (fun _ q=>q) fun _ _ q=>q
  refine keptH c v q ?_
  rcases hc with rfl|hc
  ·rw[hb];simp
  ·rw[hc];simp
 ·rcases hr with hr|⟨⟨o0,h0⟩,hb⟩
  ·cases hu:H b with
   |none=>exact absurd hu hr
   |some u=>
    have lt:=I.hok.lt hu
    obtain⟨ob,hob⟩:∃ob,s.heap.get? b=some ob:=by
     exact(I.hok b u hu).ex
    have:=keptH b ob hob hr
    rw[ho]at this;cases this
    exact oF b o hob (.inl hr)
  ·obtain⟨o',q1⟩:=un.there b o0 h0 (by simp)
   have:=kept b o' q1 ⟨o0,h0⟩ hb
   rw[ho]at this;cases this
   exact oF b o q1 (.inr (.inl ⟨⟨o0,h0⟩,hb,by rw[oQ];simp⟩))
structure et(P:Program)(w:World)(K:Frag)(mg:Str->Option Value)(base:Heap)(k:Nat)(x:Str)(n:Nat)(F:List W->List aq->R W):Prop where
 ex:∃(f:Addr) (fd:FuncData) (ps:List Str),mg x=some (.ref f)/\keepIn K (.ref f)=true/\ps.length=n/\rJ K fd ps []/\gk P w K mg base (mj P w) k f fd ps (nQ K mg n F)
theorem et.mono{P:Program}{w:World}{K:Frag}{mg:Str->Option Value}{base:Heap}{j k:Nat}{x:Str}{n:Nat}{F:List W->List aq->R W}(h:et P w K mg base j x n F)(hj:j<=k):et P w K mg base k x n F:=by
 obtain⟨f,fd,ps,a,b,c,d,e⟩:=h.ex
 exact⟨f,fd,ps,a,b,c,d,e.mono hj⟩
def eJ(n:Nat)(F:List W->List aq->R W)(fs:FA):FE:=fun ρ st=>(fs ρ st).bind fun ws st=>if ws.length=n then F ws st else .bad
section
variable{X:Cx}
theorem FC{k n:Nat}{f:Addr}{fd:FuncData}{ps:List Str}{F:List W->List aq->R W}{ae:List (Addr×Obj)}{σ:St}{H:Hp}{s:Shared}{Q:VK}{us:List Value}{vs:List V}{μ:List Addr}{st:List aq}{ws:List W}
  (Fn:gk X.prog X.w X.K X.mg X.base (mj X.prog X.w) k f fd ps (nQ X.K X.mg n F)) (hn:ps.length=n) (hr:im k X.A) (hb:rJ X.K fd ps []) (I:bi X ae σ H s) (S:gT X.K X.mg μ st H) (r:RelWs X.K μ H ws vs) (rv:b7 s.toks vs us) (hl:ws.length=n)
  (h:RK X (qU X) μ σ H Q (F ws st)):wpAny (model X.prog X.w) X.A (call (.ref f) us) (EP X ae σ Q) X.xe s:=by
 have hl':(us++([]:List Value)).length=ps.length:=by rw[cI,<- rv.length,<- r.len,hl,hn]
 cases e:F ws st with
 |bad=>rw[e]at h;exact h.elim
 |ok w bp=>
  rw[e]at h
  refine up (j6 (eB (Fn.run X.A X.stack s H ⟨us,[]⟩ us vs Q (fun _ _ _=>False) hr I.env0 (.inl I.pos) (by have:=hb s us I.kIn hl';rwa[cI]at this) rv ⟨by rw[<- r.len];exact hl,μ,ws,st,S,r,by rw[e];exact h⟩) fun r s' hq=>?_))
  cases r with
  |error e=>obtain⟨_,_,_,_,_,_,z,_⟩:=hq;exact z.elim
  |ok fl=>
   cases fl with
   |ret u=>exact fun kt=>I.after hq kt
   |next=>exact False.elim hq
   |brk=>exact False.elim hq
   |cont=>exact False.elim hq
 |ex c bp=>
  rw[e]at h
  refine up (j6 (eB (Fn.run X.A X.stack s H ⟨us,[]⟩ us vs (fun _ _=>False) (fun C _ H'=>X.mg c=some C/\∃μ',μ <+: μ'/\eV X.K H H'/\gT X.K X.mg μ' bp H') hr I.env0 (.inl I.pos) (by have:=hb s us I.kIn hl';rwa[cI]at this) rv
   ⟨by rw[<- r.len];exact hl,μ,ws,st,S,r,by rw[e];exact fun C μ' H' hC p x S'=>⟨hC,μ',p,x,S'⟩⟩) fun r s' hq=>?_))
  cases r with
  |ok fl=>
   cases fl with
   |ret u=>obtain⟨_,_,_,_,_,_,_,z⟩:=hq;exact z.elim
   |next=>exact False.elim hq
   |brk=>exact False.elim hq
   |cont=>exact False.elim hq
  |error ev=>
   obtain⟨x,C,t,B,H',rfl,⟨hC,μ',p,xx,S'⟩,os,bare,un,hok,hx,fl,oF⟩:=hq
   intro kt
   have I':bi X ae σ H' s':=I.call' os un hok bare (fun b hb=>absurd hb (by simp)) kt
   refine h ae μ' H' (.ref x) s' p xx S' ⟨I',x,C,t,B,rfl,hC,hx,fl.1,fl.2.1,fl.2.2.1,.inl fl.2.2.2,fun b o ho hrel=>?_⟩
   refine oF b o ho ?_
   rcases hrel with q|⟨⟨o0,h0⟩,hb,hbx⟩|⟨⟨y,hy⟩,hb⟩|⟨pp,hp,rfl⟩
   ·exact .inl q
   ·refine .inr ⟨?_,fun z=>?_⟩
    ·obtain⟨o',q1⟩:=I.base.there b o0 h0 hbx
     exact⟨o',q1⟩
    ·rcases aC.mp (I.stkSub b z)with z|z
     ·rw[z]at h0
      exact absurd (ay (av h0) I.ok.above) (b_ _)
     ·exact hb z
   ·obtain⟨v,ov,hov,_⟩:=I.cell y b hy
    exact .inr ⟨⟨_,hov⟩,hb⟩
   ·obtain⟨g1,g2,g3,g4,_⟩:=I.pin pp hp
    refine .inr ⟨⟨_,g1⟩,fun z=>?_⟩
    rcases aC.mp (I.stkSub _ z)with z|z
    ·exact g3 z
    ·exact g4 z
variable{e:Expr}{es:List Expr}{pos p:Pos}{x:Str}{fs:FA}
theorem dU{k k' n:Nat}{F:List W->List aq->R W}(Fn:et X.prog X.w X.K X.mg X.base k x n F)(hr:im k' X.A)(hk:k<=k')(ha:SA X (e::es) fs)(hg:Gl X x:=by rfl)(Aq:(x==("__debug__":Str))=false:=by decide)
  (he:starEach (e::es) X.env=(false,eval e X.env)::starEach es X.env:=by rfl) (nS:(backTo pos (starEach es X.env)).any (·.1)=false:=by rfl):SE X (.Call (.Name x p) (e::es) [] pos) (eJ n F fs):=⟨by
 intro ae s σ H Q I h
 obtain⟨f,fd,ps,hm,hkp,hn,hb,Fo⟩:=(Fn.mono hk).ex
 refine cF (nB I hg hm ?_ Aq)
 obtain⟨μ,ρ,st,l,h⟩:=h
 have h':L7 X fs σ H fun vs H1=>∃μ1 st1 ws,Rl X μ1 ρ st1 σ H1/\RelWs X.K μ1 H1 ws vs/\RK X (qU X) μ1 σ H1 Q (if ws.length=n then F ws st1 else .bad):=
  ⟨μ,ρ,st,l,RK.bind h l fun μ1 st1 x v H1 p1 x1 l1 q1 h1=>⟨μ1,st1,x,l1,q1,h1⟩⟩
 refine PySem.W.callWith_K (h₀:=X.base) I.ok.mod.kin hkp (jx (ha.h pos ae s σ H _ I h') fun us s1 kt1 ⟨vs,H1,I1,r,μ1,st1,ws,l1,r1,q⟩=>⟨I1.kIn,?_⟩) he nS
 by_cases c:ws.length=n
 ·rw[am c]at q
  exact FC Fo hn hr hb I1 l1.sto r1 r c q
 ·rw[au c]at q;exact q.elim⟩
theorem Hu{k k':Nat}{F:List W->List aq->R W}(Fn:et X.prog X.w X.K X.mg X.base k x 0 F)(hr:im k' X.A)(hk:k<=k')(hg:Gl X x:=by rfl)(Aq:(x==("__debug__":Str))=false:=by decide):SE X (.Call (.Name x p) [] [] pos) (eJ 0 F a6):=⟨by
 intro ae s σ H Q I h
 obtain⟨f,fd,ps,hm,hkp,hn,hb,Fo⟩:=(Fn.mono hk).ex
 obtain⟨μ,ρ,st,l,h⟩:=h
 refine cF (nB I hg hm ?_ Aq)
 exact PySem.W.callWith_K0 I.kIn hkp (FC (ws:=[]) (us:=[]) Fo hn hr hb I l.sto .nilI .nil rfl h)⟩
end
theorem Eo{P:Program}{w:World}{K:Frag}{mg:Str->Option Value}{base:Heap}{x cW:Str}{st:Stmt}{f:Addr}{fd:FuncData}{N ps:List Str}{k n:Nat}{g:FS}(F:nO K x cW st f fd)(S:ce N ps (bg st))(hn:ps.length=n)
  (pO:∀(gi:Value) (A:Around) (outer:List Env) (s:Shared) (H:Hp) (E:XK),fd.code=gi->im k (A.deeper (envOfC cW (bg st) s.heap.objs.size f gi)) ->
   SB (uJ (mj P w) P w K mg base N cW (bg st) f gi A outer s H E) (fM st) g):gk P w K mg base (mj P w) (k+1) f fd ps (nQ K mg n (fW N.length g)):=by
 obtain⟨oc,od,kV,n9,pm,an,gi,ct,Dh,rfl,lk,tD⟩:=F.ex
 refine JZ lk tD S (fun vs H Q E h=>by rw[hn];exact h.1) fun A outer s H vs Q E hr wW=>?_
 obtain⟨hl,μ,ws,Jq,Sr,r,h⟩:=wW
 refine⟨_,(pO gi A outer s H E rfl hr).h,μ,ws.map some++List.replicate (N.length-ws.length) none,Jq,⟨?_,Sr⟩,?_⟩
 ·unfold jy
  rw[<- r.len]
  have base:∀(ws:List W) (vs:List V) (m:Nat),RelWs K μ H ws vs->Paired (fun(o:Option W) (s:Option V)=>∀w,o=some w->∃v,s=some v/\bj K μ H w v) (ws.map some++List.replicate m none) (vs.map some++List.replicate m none):=by
   intro ws
   induction ws with
   |nil=>
    intro vs m r
    rw[r.nilE]
    induction m with
    |zero=>exact .nil
    |succ m ih=>exact .cons (fun w z=>nomatch z) ih
   |cons w ws ih=>
    intro vs m r
    obtain⟨y,ys,rfl,ry,rys⟩:=r.consE
    exact .cons (fun w' z=>⟨y,rfl,by cases z;exact ry⟩) (ih ys m rys)
  exact base ws vs _ r
 ·unfold fW at h
  cases e:g (ws.map some++List.replicate (N.length-ws.length) none) Jq with
  |rt w bp=>
   rw[e]at h
   intro μ' v H' p x S' vw
   obtain⟨μ2,p2,S2,r2⟩:=lj Sr S' p (.consI vw .nilI)
   obtain⟨_,e2,r3⟩:=r2.one
   cases e2
   exact h μ2 v H' p2 x S2 r3
  |nx ρ' bp=>
   rw[e]at h
   intro μ' σ' H' p x l'
   obtain⟨μ2,p2,S2,_⟩:=lj (ws:=[]) (vs:=[]) Sr l'.sto p .nilI
   exact h μ2 .non H' p2 x S2 .non
  |ex c ρ' bp=>
   rw[e]at h
   intro ae μ' σ' H' ev s' p x l' fl
   obtain⟨μ2,p2,S2,_⟩:=lj (ws:=[]) (vs:=[]) Sr l'.sto p .nilI
   exact fl.leaves rfl rfl fl.inv.ok.frames rfl fun C hC=>h C μ2 H' hC p2 x S2
  |bk ρ' bp=>rw[e]at h;exact h.elim
  |ct ρ' bp=>rw[e]at h;exact h.elim
  |bad=>rw[e]at h;exact h.elim
theorem fD{P:Program}{w:World}{K:Frag}{mg:Str->Option Value}{base:Heap}{x cW:Str}{st:Stmt}{f:Addr}{fd:FuncData}{N ps:List Str}{k n:Nat}{g:FS}(F:nO K x cW st f fd)(S:ce N ps (bg st))(hn:ps.length=n)
  (pO:∀(gi:Value) (A:Around) (outer:List Env) (s:Shared) (H:Hp) (E:XK),im k (A.deeper (envOfC cW (bg st) s.heap.objs.size f gi)) ->
   SB (uJ (mj P w) P w K mg base N cW (bg st) f gi A outer s H E) (fM st) g):gk P w K mg base (mj P w) (k+1) f fd ps (nQ K mg n (fW N.length g)):=Eo F S hn fun gi A outer s H E _ hr=>pO gi A outer s H E hr
theorem q5{P:Program}{w:World}{K:Frag}{mg:Str->Option Value}{base:Heap}{k n:Nat}{x:Str}{st:Stmt}{f:Addr}{fd:FuncData}{ps:List Str}{G:List W->List aq->R W}
  (F:nO K x x st f fd) (hm:mg x=some (.ref f)) (hn:ps.length=n)
  (hb:∀(kV n9 pm:Value) (an:Option Addr) (gi ct:Value) (us:List Value),us.length=ps.length->bindArgs (fnOf x x (gR st) (fM st) (bg st) .none kV n9 pm an gi ct) ⟨us,[]⟩=pure (ps.zip us))
  (ok:gk P w K mg base (mj P w) k f fd ps (nQ K mg n G)):et P w K mg base k x n G:=⟨f,fd,ps,hm,F.kp,hn,F.binds hb,ok⟩
end L2
namespace L2
open PySem PySem.Spec PyProof.Rows
section
variable{X:Cx}{a b c e o tg:Expr}{es:List Expr}{pos p p2 iy dZ:Pos}{x name:Str}{fa fb fe fo:FE}{fs:FA}{id:String}
structure Ky(X:Cx)(id:String)(F:W->List W->List aq->R W):Prop where
 h:Dr X id (fun x vs H Q=>∃μ st wx ws,gT X.K X.mg μ st H/\bj X.K μ H wx x/\RelWs X.K μ H ws vs/\Au X μ H Q (F wx ws st))
 n:∀x ws st,qV (F x ws st)
def sf(st:List aq):W->Bool
 |.loc n=>(match st[n]? with|some (.lst _)=>true|_=>false)
 |_=>false
def um:W->Bool
 |.str _=>true
 |_=>false
theorem Bp{μ:List Addr}{st:List aq}{H:Hp}{w:W}{v:V}(S:gT X.K X.mg μ st H)(r:bj X.K μ H w v)(h:sf st w=true):∃l ys,v=.ref l/\H l=some (.lst ys):=by
 cases w with
 |loc n=>
  obtain⟨a,ha,rfl⟩:=r.locE
  simp only[sf]at h
  cases e1:st[n]? with
  |none=>rw[e1]at h;cases h
  |some cc=>
   rw[e1]at h
   cases cc with
   |lst ws=>obtain⟨a1,g1,vs,k1,_⟩:=S.get e1;rw[ha]at g1;cases g1;exact⟨_,vs,rfl,k1⟩
   |_=>cases h
 |_=>cases h
def xB(F:W->List W->List aq->R W)(fo:FE)(fs:FA):FE:=fun ρ st=>(fo ρ st).bind fun x st=>if sf st x then(fs ρ st).bind fun ws st=>F x ws st else .bad
def FD(F:W->List W->List aq->R W)(fo:FE)(fs:FA):FE:=fun ρ st=>(fo ρ st).bind fun x st=>if um x then(fs ρ st).bind fun ws st=>F x ws st else .bad
theorem uV{F:W->List W->List aq->R W}(slot:Slot "list" name id)(C7:typeOf (.builtin id)=pure (.type "method_descriptor"))(hm:Ky X id F)(ho:SE X o fo)(ha:SA X (e::es) fs)
  (jT:attributeBase o name X.env (eval o X.env)=eval o X.env:=by rfl)
  (oJ:((backTo dZ (starEach (e::es) X.env)).all (fun x=>!x.1)&&(backToKw dZ (keywordEach [] X.env)).all (fun x=>x.1.isSome)
   && decide ((e::es).length+([]:List Keyword).length+(if ([]:List Keyword).isEmpty then 0 else 1)<30))=true:=by rfl)
  (lw:(iy.endLine==dZ.line)=true:=by rfl) (hs:starEach (e::es) X.env=(false,eval e X.env)::starEach es X.env:=by rfl) (lY:(backTo dZ (starEach es X.env)).any (·.1)=false:=by rfl) :
  SE X (.Call (.Attribute o name iy) (e::es) [] dZ) (xB F fo fs):=⟨(J' slot C7 hm.h ho.h ha.h jT oJ lw hs lY).imp fun σ H Q h=>by
 obtain⟨μ,ρ,st,l,h⟩:=h
 refine⟨μ,ρ,st,l,RK.bind h l fun μ1 st1 x v H1 p1 x1 l1 q1 h1=>?_⟩
 by_cases c:sf st1 x=true
 ·rw[am c]at h1
  refine⟨Bp l1.sto q1 c,μ1,ρ,st1,l1,RK.bind h1 l1 fun μ2 cP ws vs H2 p2 x2 l2 q2 h2=>?_⟩
  exact⟨μ2,cP,x,ws,l2.sto,q1.mono p2 x2,q2,r6 h2 (hm.n _ _ _)⟩
 ·rw[au c]at h1;exact h1.elim⟩
theorem Ep{F:W->List W->List aq->R W}(slot:Slot "str" name id)(C7:typeOf (.builtin id)=pure (.type "method_descriptor"))(hm:Ky X id F)(ho:SE X o fo)(ha:SA X (e::es) fs)
  (jT:attributeBase o name X.env (eval o X.env)=eval o X.env:=by rfl)
  (oJ:((backTo dZ (starEach (e::es) X.env)).all (fun x=>!x.1)&&(backToKw dZ (keywordEach [] X.env)).all (fun x=>x.1.isSome)
   && decide ((e::es).length+([]:List Keyword).length+(if ([]:List Keyword).isEmpty then 0 else 1)<30))=true:=by rfl)
  (lw:(iy.endLine==dZ.line)=true:=by rfl) (hs:starEach (e::es) X.env=(false,eval e X.env)::starEach es X.env:=by rfl) (lY:(backTo dZ (starEach es X.env)).any (·.1)=false:=by rfl) :
  SE X (.Call (.Attribute o name iy) (e::es) [] dZ) (FD F fo fs):=⟨(Ka slot C7 hm.h ho.h ha.h jT oJ lw hs lY).imp fun σ H Q h=>by
 obtain⟨μ,ρ,st,l,h⟩:=h
 refine⟨μ,ρ,st,l,RK.bind h l fun μ1 st1 x v H1 p1 x1 l1 q1 h1=>?_⟩
 cases x with
 |str z=>
  rw[am (show um (W.str z)=true from rfl)]at h1
  refine⟨⟨z,q1.strE⟩,μ1,ρ,st1,l1,RK.bind h1 l1 fun μ2 cP ws vs H2 p2 x2 l2 q2 h2=>?_⟩
  exact⟨μ2,cP,_,ws,l2.sto,q1.mono p2 x2,q2,r6 h2 (hm.n _ _ _)⟩
 |_=>exact h1.elim⟩
def eQ(x:W)(ws:List W)(st:List aq):R W:=match x,ws with
 |.loc n,[y]=>(match st[n]? with
  |some (.lst zs)=>if zs.length<jQ then .ok .non (st.set n (.lst (zs++[y])))else .bad
  |_=>.bad)
 |_,_=>.bad
theorem h_:Ky X "list.append" eQ:=⟨fun ae s σ H x vs v us Q I rv rus ⟨μ,st,wx,ws,S,rx,rs,q⟩=>by
 unfold eQ at q
 split at q
 ·rename_i n y
  obtain⟨y1,rfl,ry⟩:=rs.one
  split at q
  ·rename_i zs e1
   split at q
   ·rename_i c
    obtain⟨a1,g1,vs,k1,r⟩:=S.get e1
    obtain⟨b1,f1,rfl⟩:=rx.locE
    rw[g1]at f1;cases f1
    refine xi ae s σ H _ _ v us Q I rv rus ⟨a1,vs,y1,rfl,rfl,k1,by rw[<- r.len];exact Hi (dQ c),fun H2 e=>?_⟩
    subst e
    exact q μ _ _ (aj _) (gH.but nD k1) (S.set e1 g1 k1 (r.app (.consI ry .nilI))) .non
   ·exact q.elim
  ·exact q.elim
 ·exact q.elim,fun x ws st=>by
 unfold eQ
 repeat' split
 all_goals trivial⟩
def mo:List W->Option (List (List Nat))
 |[]=>some []
 |.str l::ws=>(mo ws).map (l :: ·)
 |_=>none
theorem sg{K:Frag}{μ:List Addr}{H:Hp}:∀{ws:List W} {ls:List (List Nat)} {vs:List V},mo ws=some ls->RelWs K μ H ws vs->vs=ls.map fun l=>V.str (tx l)
 |[],ls,vs,h,r=>by simp only[mo]at h;cases h;exact r.nilE
 |w::ws,ls,vs,h,r=>by
  obtain⟨x,xs,rfl,rx,rs⟩:=r.consE
  cases w with
  |str l=>
   simp only[mo]at h
   cases e:mo ws with
   |none=>rw[e]at h;cases h
   |some ls'=>rw[e]at h;cases h;rw[rx.strE,sg e rs];rfl
  |_=>simp only[mo]at h;cases h
theorem uo(ls:List (List Nat)):mo (ls.map W.str)=some ls:=by
 induction ls with
 |nil=>rfl
 |cons a r ih=>show(mo (r.map W.str)).map (a :: ·)=_;rw[ih];rfl
def nY(x:W)(ws:List W)(st:List aq):R W:=match x,ws with
 |.str sep,[.loc n]=>tz (lstOf st n) fun zs=>tz (mo zs) fun ls=>if (ls.map List.length).sum+ls.length*sep.length<=jQ then .ok (.str (jz sep ls)) st else .bad
 |_,_=>.bad
theorem q9:Ky X "str.join" nY:=⟨fun ae s σ H x vs v us Q I rv rus ⟨μ,st,wx,ws,S,rx,rs,q⟩=>by
 unfold nY at q
 split at q
 ·rename_i sep n
  obtain⟨y1,rfl,ry⟩:=rs.one
  cases e1:lstOf st n with
  |none=>rw[e1]at q;exact q.elim
  |some zs=>
   rw[e1,dg]at q
   cases e2:mo zs with
   |none=>rw[e2]at q;exact q.elim
   |some ls=>
    rw[e2,dg]at q
    split at q
    ·rename_i c
     obtain⟨a,vs,g,hS,r⟩:=S.lstOf e1
     obtain⟨b1,f1,rfl⟩:=ry.locE
     rw[g]at f1;cases f1
     have:=sg e2 r
     subst this
     exact D8 ae s σ H _ _ v us Q I rv rus ⟨sep,_,ls,rx.strE,rfl,hS,aA c (by decide),ph S q⟩
    ·exact q.elim
 ·exact q.elim,fun x ws st=>by
 unfold nY
 split
 ·exact qJ fun _=>qJ fun _=>by split<;>trivial
 ·trivial⟩
end
def qc(cap:List (Option Nat))(ρ:cn):cn:=cap.map fun o=>o.bind fun j=>(ρ[j]?).join
theorem Kz{X:Cx}{μ:List Addr}{H:Hp}{ρ:cn}{σ:St}(r:Paired (fun(o:Option W) (s:Option V)=>∀w,o=some w->∃v,s=some v/\bj X.K μ H w v) ρ σ):∀cap:List (Option Nat),
  Paired (fun(o:Option W) (s:Option V)=>∀w,o=some w->∃v,s=some v/\bj X.K μ H w v) (qc cap ρ) (nT cap σ)
 |[]=>.nil
 |o::cap=>by
  refine .cons (fun w e=>?_) (Kz r cap)
  cases o with
  |none=>cases e
  |some j=>
   have e':(ρ[j]?).join=some w:=e
   have e2:ρ[j]?=some (some w):=by
    cases h:ρ[j]? with
    |none=>rw[h]at e';cases e'
    |some ow=>rw[h]at e';simp at e';rw[e']
   obtain⟨v,g1,g2⟩:=rY r e2
   exact⟨v,by show(σ[j]?).join=some v;rw[g1];rfl,g2⟩
open Classical in
def mq(f:FG)(t:FT)(el:FE)(ck:Option (Nat×List W))(ρ0:cn):List W->List W->List aq->R (List W)
 |[],fk,st=>if iM st ck then .ok fk st else .bad
 |w::ws,fk,st=>if iM st ck then(match f w ρ0 with
  |none=>.bad
  |some ρ'=>(match t ρ' st with
   |.ok true st1=>(match el ρ' st1 with
    |.ok y cP=>mq f t el ck ρ0 ws (fk++[y]) cP
    |_=>.bad)
   |.ok false st1=>mq f t el ck ρ0 ws fk st1
   |_=>.bad))else .bad
def ia(cap:List (Option Nat))(fi:FI)(f:FG)(t:FT)(el:FE):FE:=fun ρ st=>(fi ρ st).bind fun k st=>if k.1.length<=jQ then(mq f t el k.2 (qc cap ρ) k.1 [] st).bind fun ys st=>kr ys st else .bad
def L_{α β:Type}(X:Cx)(rel:List Addr->Hp->α->β->Prop)(f:cn->List aq->R α)(σ:St)(H:Hp)(Q:β->Hp->Prop):Prop:=
 ∃μ ρ st a bp,Rl X μ ρ st σ H/\f ρ st=.ok a bp/\∀μ' b H',μ <+: μ'->eV X.K H H'->gT X.K X.mg μ' bp H'->rel μ' H' a b->Q b H'
def Bq:FT:=fun _ st=>.ok true st
structure KA(X:Cx)(es:List Expr)(f:FT):Prop where
 h:AT X es (tT X f)
theorem AT.imp{X:Cx}{e:List Expr}{t t':TT}(h:AT X e t)(i:∀σ H Q,t' σ H Q->t σ H Q):AT X e t':=fun ae s σ H Q I q=>h ae s σ H Q I (i _ _ _ q)
theorem Er{X:Cx}:KA X [] Bq:=⟨D4.imp fun σ H Q h=>by
 obtain⟨μ,ρ,st,l,h⟩:=h
 exact h μ true H (aj _) eV.refl l.sto rfl⟩
theorem nG{X:Cx}{c:Expr}{t:FT}(hc:ST X c t):KA X [c] t:=⟨D5 hc.h⟩
theorem Br{X:Cx}{cap:List (Option Nat)}{fi:FI}{f:FG}{t:FT}{el:FE}{σ:St}{H:Hp}{Q:VK}(h:tE X (ia cap fi f t el) σ H Q) :
  rM cap (fun σ H R=>tG X (Kx X) fi σ H R) (L8 X f) (L_ X Hj t) (L_ X (qU X) el) σ H Q:=by
 obtain⟨μ,ρ,st,l,h⟩:=h
 refine⟨μ,ρ,st,l,RK.bind h l fun μ1 st1 k J H1 p1 x1 l1 wk h1=>?_⟩
 by_cases hz:k.1.length<=jQ
 ·rw[am hz]at h1
  refine⟨fun i m ys H'=>i<=k.1.length/\m=k.1.length-i/\ys.length<=i/\∃μ' fk bp,μ1 <+: μ'/\eV X.K H1 H'/\Rl X μ' ρ bp σ H'/\RelWs X.K μ' H' fk ys/\RK X (qU X) μ' σ H' Q ((mq f t el k.2 (qc cap ρ) (k.1.drop i) fk bp).bind fun ys st=>kr ys st),
   ⟨_,br _,rfl,ah _,μ1,[],st1,aj _,eV.refl,l1,.nilI,h1⟩,?_⟩
  rintro i m ys H' ⟨hi,rfl,hy,μ',fk,bp,pm,xm,lm,ra,hm⟩
  by_cases hlt:i<k.1.length
  ·rw[cb hlt]at hm
   unfold mq at hm
   by_cases ck:iM bp k.2
   ·rw[am ck]at hm
    obtain⟨go,yld⟩:=(wk i μ' bp H' pm xm lm.sto ck).1 _ (af hlt)
    refine .inr ⟨go,fun x H2 hy2=>?_⟩
    obtain⟨y1,y2,y3⟩:=yld x H2 hy2
    cases hf:f k.1[i] (qc cap ρ)with
    |none=>rw[hf]at hm;exact hm.elim
    |some ρ2=>
     rw[hf]at hm
     simp only at hm
     have lb:Rl X μ' (qc cap ρ) bp (nT cap σ) H2:=⟨Kz (lm.to (aj _) y1 y2).env cap,y2⟩
     refine⟨μ',qc cap ρ,bp,k.1[i],ρ2,lb,y3,hf,fun σ2 l2=>?_⟩
     cases ht:t ρ2 bp with
     |bad=>rw[ht]at hm;exact hm.elim
     |ex c s=>rw[ht]at hm;exact hm.elim
     |ok kk cP=>
      rw[ht]at hm
      refine⟨μ',ρ2,bp,kk,cP,l2,ht,fun μ3 b3 H3 p3 x3 S3 q3=>?_⟩
      cases q3
      cases kk with
      |false=>
       exact⟨_,by omega,hlt,rfl,by omega,μ3,fk,cP,pm.trans p3,xm.trans (y1.trans x3),lm.to p3 (y1.trans x3) S3,ra.mono p3 (y1.trans x3),RK.mono hm p3 (y1.trans x3)⟩
      |true=>
       rw[am rfl]
       simp only at hm
       cases he:el ρ2 cP with
       |bad=>rw[he]at hm;exact hm.elim
       |ex c s=>rw[he]at hm;exact hm.elim
       |ok w lc=>
        rw[he]at hm
        refine⟨μ3,ρ2,cP,w,lc,l2.to p3 x3 S3,he,fun μ4 b4 H4 p4 x4 S4 q4=>?_⟩
        have pp:=p3.trans p4
        have xx:=y1.trans (x3.trans x4)
        exact⟨dJ hy (ay hlt (lO hz)),_,by omega,hlt,rfl,by simp;omega,μ4,fk++[w],lc,pm.trans pp,xm.trans xx,lm.to pp xx S4,(ra.mono pp xx).app (.consI q4 .nilI),RK.mono hm pp xx⟩
   ·rw[au ck]at hm;exact hm.elim
  ·have hi':i=k.1.length:=by omega
   subst hi'
   rw[md (ah _)]at hm
   unfold mq at hm
   by_cases ck:iM bp k.2
   ·rw[am ck]at hm
    obtain⟨z1,z2⟩:=pb lm.sto ra hm
    exact .inl ⟨(wk _ μ' bp H' pm xm lm.sto ck).2 (ah _),z1,fun p hp=>z2 p _ hp rfl⟩
   ·rw[au ck]at hm;exact hm.elim
 ·rw[au hz]at h1;exact h1.elim
section
variable{X:Cx}{oH tg dq:Expr}{lJ:List Expr}{scope:Scope}{pos:Pos}{nm:List Str}{cap:List (Option Nat)}{fi:FI}{f:FG}{t:FT}{el:FE}{m:Nat}
theorem Nu{X X':Cx}{e:Expr}{f:FE}(hK:X'.K=X.K)(hm:X'.mg=X.mg)(h:SE X' e f):QE X' e (L_ X (qU X) f):=⟨h.h.imp fun σ H Q ⟨μ,ρ,st,a,bp,l,e,q⟩=>⟨μ,ρ,st,⟨by rw[hK];exact l.env,by rw[hK,hm];exact l.sto⟩,by rw[e];exact fun μ' b H' p x S r=>q μ' b H' p (by rw[<- hK];exact x) (by rw[<- hK,<- hm];exact S) (by show bj X.K μ' H' a b;rw[<- hK];exact r)⟩⟩
theorem Nv{X X':Cx}{e:List Expr}{f:FT}(hK:X'.K=X.K)(hm:X'.mg=X.mg)(h:KA X' e f):MP X' e (L_ X Hj f):=⟨h.h.imp fun σ H Q ⟨μ,ρ,st,a,bp,l,e,q⟩=>⟨μ,ρ,st,⟨by rw[hK];exact l.env,by rw[hK,hm];exact l.sto⟩,by rw[e];exact fun μ' b H' p x S r=>q μ' b H' p (by rw[<- hK];exact x) (by rw[<- hK,<- hm];exact S) r⟩⟩
theorem Nw{X X':Cx}{e:Expr}{f:FG}(hK:X'.K=X.K)(hm:X'.mg=X.mg)(h:SG X' e f):QG X' e (L8 X f):=⟨h.h.imp fun v σ H Q ⟨μ,ρ,st,w,ρ',l,r,e,q⟩=>⟨μ,ρ,st,w,ρ',⟨by rw[hK];exact l.env,by rw[hK,hm];exact l.sto⟩,by rw[hK];exact r,e,fun σ' l'=>q σ' ⟨by rw[<- hK];exact l'.env,by rw[<- hK,<- hm];exact l'.sto⟩⟩⟩
theorem sh(hB:zE X.env.scope.names scope.names nm cap X.N=true)(oG:X.env.cells=cellsFrom m X.env.scope.names [])(hi:SI X tg dq fi)(hg:∀cl C s0 H0 fp,SG (c_ X nm scope cl C s0 H0 fp) tg f)(ht:∀cl C s0 H0 fp,KA (c_ X nm scope cl C s0 H0 fp) lJ t)
  (he:∀cl C s0 H0 fp,SE (c_ X nm scope cl C s0 H0 fp) oH el) (iQ:X.calm=true:=by rfl) (iS:scope.kind=.function:=by rfl) (hs:∀x,foldedSetIterable dq X.env x=pure x:=by intro _;rfl) :
  SE X (.ListComp oH [⟨tg,dq,lJ,0⟩] scope pos) (ia cap fi f t el):=
 ⟨(Hf iQ oG iS hB ⟨hi.h⟩ (fun cl C s0 H0 fp=>Nw (X:=X) rfl rfl (hg cl C s0 H0 fp)) (fun cl C s0 H0 fp=>Nv (X:=X) rfl rfl (ht cl C s0 H0 fp)) (fun cl C s0 H0 fp=>Nu (X:=X) rfl rfl (he cl C s0 H0 fp)) hs).h.imp fun _ _ _ h=>Br h⟩
theorem si{x0:Str}{p0 p1:Pos}{i:Nat}(LZ:SG X (.Name x0 p0) (m6 i))(hB:zE X.env.scope.names scope.names nm cap X.N=true)(oG:X.env.cells=cellsFrom m X.env.scope.names [])(hi:SI X tg dq fi)(hg:∀cl C s0 H0 fp,SG (c_ X nm scope cl C s0 H0 fp) tg f)(ht:∀cl C s0 H0 fp,KA (c_ X nm scope cl C s0 H0 fp) lJ t)
  (he:∀cl C s0 H0 fp,SE (c_ X nm scope cl C s0 H0 fp) oH el) (iQ:X.calm=true:=by rfl) (iS:scope.kind=.function:=by rfl) (hs:∀x,foldedSetIterable dq X.env x=pure x:=by intro _;rfl)
  (LW:swapsWith (.ListComp oH [⟨tg,dq,lJ,0⟩] scope pos) (some (.Name x0 p0)) p1.line X.env=pure true:=by first|rfl|kernel_rfl) :
  SS X (.Assign [.Name x0 p0] (.ListComp oH [⟨tg,dq,lJ,0⟩] scope pos) p1) (Bk (ia cap fi f t el) (m6 i)):=
 ⟨(xo ⟨LZ.h⟩ iQ oG iS hB ⟨hi.h⟩ (fun cl C s0 H0 fp=>Nw (X:=X) rfl rfl (hg cl C s0 H0 fp)) (fun cl C s0 H0 fp=>Nv (X:=X) rfl rfl (ht cl C s0 H0 fp)) (fun cl C s0 H0 fp=>Nu (X:=X) rfl rfl (he cl C s0 H0 fp)) hs LW).h.imp fun D σ H h=>by
  obtain⟨μ,ρ,st,l,h⟩:=h
  have h':tE X (ia cap fi f t el) σ H fun x H1=>L8 X (m6 i) x σ H1 D.nx:=⟨μ,ρ,st,l,RK.stmt h l fun μ1 st1 x v H1 p1 x1 l1 q1 h1=>⟨μ1,ρ,st1,x,ρ.set i (some x),l1,q1,rfl,fun σ' l'=>h1 μ1 σ' H1 (aj _) eV.refl l'⟩⟩
  exact Br h'⟩
end
section
variable{X:Cx}{a b c e o tg:Expr}{es:List Expr}{pos p p2 iy dZ:Pos}{x name:Str}{fa fb fc fe fo:FE}{fs:FA}
theorem zN{μ:List Addr}{H:Hp}{ws:List W}{qZ:List V}(hr:∀μ H,RelWs X.K μ H ws qZ):xz X (MJ qZ) (ws,none) μ H:=fun i μ' bp H' pp xx S _=>by
 have hl:ws.length=qZ.length:=(hr μ H).len
 refine⟨fun w hw=>?_,fun h=>by show qZ.length<=i;rw[<- hl];exact h⟩
 obtain⟨v,g1,g2⟩:=(hr μ' H').get hw
 refine⟨(al.mp g1).1,fun y H'' hy=>?_⟩
 obtain⟨rfl,hy⟩:=hy
 rw[g1]at hy;cases hy
 exact⟨eV.refl,S,g2⟩
def jn(l:List Nat):List W:=l.map fun c=>.str [c]
theorem uq(l:List Nat)(μ:List Addr)(H:Hp):RelWs X.K μ H (jn l) (io l):=by
 induction l with
 |nil=>exact .nilI
 |cons a r ih=>exact .consI .str ih
def FF(fe:FE):FI:=fun ρ st=>(fe ρ st).bind fun x st=>match x with
 |.str l=>.ok (jn l,none) st
 |_=>.bad
theorem Hv(he:SE X e fe):SI X tg e (FF fe):=⟨(Hb he.h).imp fun σ H R h=>by
 obtain⟨μ,ρ,st,l,h⟩:=h
 refine⟨μ,ρ,st,l,RK.bind h l fun μ1 st1 x v H1 p1 x1 l1 q1 h1=>?_⟩
 cases x with
 |str z=>exact⟨z,q1.strE,h1 μ1 _ H1 (aj _) eV.refl l1.sto (zN (uq z))⟩
 |_=>exact h1.elim⟩
def iN(fe:FE):FI:=fun ρ st=>(fe ρ st).bind fun x st=>match x with
 |.tup ws=>.ok (ws,none) st
 |.loc n=>(match lstOf st n with
  |some ws=>.ok (ws,some (n,ws)) st
  |none=>.bad)
 |.str l=>.ok (jn l,none) st
 |_=>.bad
theorem uW(he:SE X e fe):SI X tg e (iN fe):=⟨fun ae s σ H Rr I h=>by
 obtain⟨μ,ρ,st,l,h⟩:=h
 cases e1:fe ρ st with
 |bad=>simp only[iN,e1,R.bind_bad]at h;exact h.elim
 |ex c st1=>
  refine(Bo (tg:=tg) he).h ae s σ H Rr I ⟨μ,ρ,st,l,?_⟩
  simp only[iN,Bn,e1,R.bind_ex]at h ⊢;exact h
 |ok w st1=>
  cases w with
  |tup ws=>
   refine(Bo (tg:=tg) he).h ae s σ H Rr I ⟨μ,ρ,st,l,?_⟩
   simp only[iN,Bn,e1,R.bind_ok]at h ⊢;exact h
  |loc n=>
   refine(Ht (tg:=tg) he).h ae s σ H Rr I ⟨μ,ρ,st,l,?_⟩
   simp only[iN,Fz,e1,R.bind_ok]at h ⊢;exact h
  |str z=>
   refine(Hv (tg:=tg) he).h ae s σ H Rr I ⟨μ,ρ,st,l,?_⟩
   simp only[iN,FF,e1,R.bind_ok]at h ⊢;exact h
  |_=>simp only[iN,e1,R.bind_ok]at h;exact h.elim⟩
def qK(ws:List W):List W:=(List.range ws.length).map fun(i:Nat)=>W.tup [.int i,ws.getD i .non]
theorem ur{ws:List W}{i:Nat}{w:W}(h:(qK ws)[i]?=some w):∃y,ws[i]?=some y/\w=.tup [.int i,y]:=by
 unfold qK at h
 rw[aL]at h
 by_cases hi:i<ws.length
 ·rw[gJ hi]at h
  refine⟨ws[i],af hi,?_⟩
  have:=(be h).symm
  rw[this]
  show W.tup [W.int i,ws.getD i W.non]=_
  rw[aI,af hi];rfl
 ·rw[bd (by simpa using hi)]at h;cases h
theorem ut(ws:List W):(qK ws).length=ws.length:=by simp[qK]
def qd(fs:FA):FI:=fun ρ st=>(fs ρ st).bind fun ws st=>match ws with
 |[.tup zs]=>.ok (qK zs,none) st
 |_=>.bad
theorem yP{C8:List Expr}{kk:Nat}{tp:Pos}(hm:X.mg "enumerate"=none)(ha:SA X [a] fs)(hg:Gl X "enumerate":=by rfl)(hs:starEach [a] X.env=[(false,eval a X.env)]:=by rfl) :
  SI X (.Tuple C8 kk tp) (.Call (.Name "enumerate" p) [a] [] pos) (qd fs):=⟨(A2 hm ⟨ha.h⟩ hg hs).h.imp fun σ H R h=>by
 obtain⟨μ,ρ,st,l,h⟩:=h
 refine⟨μ,ρ,st,l,RK.bind h l fun μ1 st1 x v H1 p1 x1 l1 q1 h1=>?_⟩
 split at h1
 ·rename_i zs
  obtain⟨y,rfl,ry⟩:=q1.one
  obtain⟨p,vs,rfl,hS,r⟩:=ry.tupE
  refine⟨p,rfl,⟨vs,hS⟩,h1 μ1 _ H1 (aj _) eV.refl l1.sto fun i μ' bp H' pp xx S _=>⟨fun w hw=>?_,fun hl=>⟨vs,xx _ _ hS,by rw[ut]at hl;rw[<- r.len];exact hl⟩⟩⟩
  obtain⟨y,hy,rfl⟩:=ur hw
  have r':=r.mono pp xx
  obtain⟨v,g1,g2⟩:=r'.get hy
  refine⟨⟨vs,v,xx _ _ hS,g1⟩,fun z H'' hz=>?_⟩
  obtain⟨q,hq,rfl,hH⟩:=hz
  have e:=hH vs v (xx _ _ hS) g1
  subst e
  have ex:=gH.same (K:=X.K) (cC hq (.tup [.int i,v]))
  exact⟨ex,S.same (cC hq _),.tupI gH.new (.consI .int (.consI (g2.mono (aj _) ex) .nilI))⟩
 ·exact h1.elim⟩
def xD(fa:FE):FE:=fun ρ st=>(fa ρ st).bind fun x st=>match x with
 |.int i=>.ok (.int (-i)) st
 |_=>.bad
theorem FH(ha:SE X a fa):SE X (.UnaryOp .USub a pos) (xD fa):=⟨(JR G1 ha.h).imp fun σ H Q h=>by
 obtain⟨μ,ρ,st,l,h⟩:=h
 refine⟨μ,ρ,st,l,RK.bind h l fun μ1 st1 x v H1 p1 x1 l1 q1 h1=>?_⟩
 cases x with
 |int k=>exact⟨k,q1.intE,h1 μ1 _ H1 (aj _) eV.refl l1.sto .int⟩
 |_=>exact h1.elim⟩
def Bs(x y:W)(st:List aq):R W:=match x,y with
 |.int i,.int j=>.ok (.bl (decide (i<=j))) st
 |.str [c],.str [d]=>.ok (.bl (decide (c<=d))) st
 |_,_=>.bad
theorem KB:rZ X (compareOp .LtE) Bs:=⟨fun ae s σ H x y v u Q I rv ru ⟨μ,st,wx,wy,S,rx,ry,q⟩=>by
 unfold Bs at q
 split at q
 ·exact JU ae s σ H x y v u Q I rv ru ⟨_,_,rx.intE,ry.intE,lQ S q⟩
 ·exact zD ae s σ H x y v u Q I rv ru ⟨_,_,rx.strE,ry.strE,lQ S q⟩
 ·exact q.elim,fun x y st=>by unfold Bs;split<;>trivial⟩
end
def uX(c:Nat):List Nat->List Nat
 |[]=>[c]
 |d::r=>if c<d then c::d::r else if c=d then d::r else d::uX c r
def ix(l:List Nat):List Nat:=l.foldr uX []
theorem sj{c x:Nat}:∀{l:List Nat},x∈uX c l↔x=c\/x∈l
 |[]=>by simp[uX]
 |d::r=>by
  unfold uX
  split
  ·simp
  ·split
   ·rename_i h;subst h;simp
   ·simp only[aC,sj]
    constructor
    ·rintro(h|h|h)<;>simp[h]
    ·rintro(h|h|h)<;>simp[h]
theorem yQ{c:Nat}:∀{l:List Nat},l.Pairwise (· < ·)->(uX c l).Pairwise (· < ·)
 |[],_=>by simp[uX]
 |d::r,h=>by
  obtain⟨h1,h2⟩:=a_.mp h
  unfold uX
  split
  ·rename_i hc
   refine a_.mpr ⟨fun x hx=>?_,h⟩
   rcases aC.mp hx with rfl|hx
   ·exact hc
   ·exact pQ hc (h1 x hx)
  ·split
   ·exact h
   ·rename_i hc hd
    refine a_.mpr ⟨fun x hx=>?_,yQ h2⟩
    rcases sj.mp hx with rfl|hx
    ·omega
    ·exact h1 x hx
theorem jL{x:Nat}{l:List Nat}:x∈ix l↔x∈l:=by
 induction l with
 |nil=>simp[ix]
 |cons a r ih=>show x∈uX a (ix r)↔_;rw[sj,ih];simp
theorem lq(l:List Nat):(ix l).Pairwise (· < ·):=by
 induction l with
 |nil=>exact List.Pairwise.nil
 |cons a r ih=>exact yQ ih
theorem sk:∀{l m:List Nat},l.Pairwise (· < ·)->m.Pairwise (· < ·)->(∀x,x∈l↔x∈m)->l=m
 |[],[],_,_,_=>rfl
 |[],b::m,_,_,h=>by have:=(h b).mpr (by simp);simp at this
 |a::l,[],_,_,h=>by have:=(h a).mp (by simp);simp at this
 |a::l,b::m,h1,h2,h=>by
  obtain⟨p1,p2⟩:=a_.mp h1
  obtain⟨q1,q2⟩:=a_.mp h2
  have e:a=b:=by
   rcases aC.mp ((h a).mp (by simp))with z|z
   ·exact z
   ·rcases aC.mp ((h b).mpr (by simp))with y|y
    ·exact y.symm
    ·have:=p1 b y;have:=q1 a z;omega
  subst e
  rw[sk p2 q2 fun x=>?_]
  constructor
  ·intro hx
   rcases aC.mp ((h x).mp (aW _ hx))with z|z
   ·subst z;exact absurd (p1 x hx) (b_ _)
   ·exact z
  ·intro hx
   rcases aC.mp ((h x).mpr (aW _ hx))with z|z
   ·subst z;exact absurd (q1 x hx) (b_ _)
   ·exact z
def xE(c:List Nat):List (List Nat)->List (List Nat)
 |[]=>[c]
 |d::r=>if c<d then c::d::r else d::xE c r
def jh(l:List (List Nat)):List (List Nat):=l.foldr xE []
theorem qf(c:List Nat):∀l:List (List Nat),(xE c l).Perm (c::l)
 |[]=>dY _
 |d::r=>by
  unfold xE
  split
  ·exact dY _
  ·exact((qf c r).cons d).trans (List.Perm.swap c d r)
theorem gp(l:List (List Nat)):(jh l).Perm l:=by
 induction l with
 |nil=>exact dY _
 |cons a r ih=>exact(qf a _).trans (ih.cons a)
def Es:List (List Nat)->Prop:=List.Pairwise fun a b=>¬ b<a
theorem yR(c:List Nat):∀{l:List (List Nat)},Es l->Es (xE c l)
 |[],_=>by simp[xE,Es]
 |d::r,h=>by
  obtain⟨h1,h2⟩:=a_.mp h
  unfold xE
  split
  ·rename_i hc
   refine a_.mpr ⟨fun x hx=>?_,h⟩
   rcases aC.mp hx with rfl|hx
   ·exact fun z=>List.lt_irrefl _ (List.lt_trans z hc)
   ·exact fun z=>h1 x hx (List.lt_trans z hc)
  ·rename_i hc
   refine a_.mpr ⟨fun x hx=>?_,yR c h2⟩
   rcases aC.mp ((qf c r).mem_iff.mp hx)with rfl|hx
   ·exact hc
   ·exact h1 x hx
theorem sm(l:List (List Nat)):Es (jh l):=by
 induction l with
 |nil=>exact List.Pairwise.nil
 |cons a r ih=>exact yR a ih
theorem q_:∀{l m:List (List Nat)},Es l->Es m->l.Perm m->l=m
 |[],m,_,_,h=>(List.Perm.nil_eq h)
 |a::l,[],_,_,h=>(by have:=h.length_eq;simp at this)
 |a::l,b::m,h1,h2,h=>by
  obtain⟨p1,p2⟩:=a_.mp h1
  obtain⟨q1,q2⟩:=a_.mp h2
  have e:a=b:=by
   rcases aC.mp (h.mem_iff.mp (by simp:a∈a::l))with z|z
   ·exact z
   ·rcases aC.mp (h.mem_iff.mpr (by simp:b∈b::m))with y|y
    ·exact y.symm
    ·exact List.le_antisymm (show a<=b from p1 b y) (show b<=a from q1 a z)
  subst e
  rw[q_ p2 q2 (List.perm_cons a |>.mp h)]
theorem su:∀{zs:List (List Nat)},sortedS (zs.map tx)=true->Es zs:=by
 have key:∀(zs:List (List Nat)) (p:List Nat),risingS (tx p) (zs.map tx)=true->Es (p::zs):=by
  intro zs
  induction zs with
  |nil=>intro p _;simp[Es]
  |cons a r ih=>
   intro p h
   have h':(!ltCps a p&&risingS (tx a) (r.map tx))=true:=h
   rw[cq,e7,ltCps_eq,lE]at h'
   have u:=ih a h'.2
   refine a_.mpr ⟨fun x hx=>?_,u⟩
   rcases aC.mp hx with rfl|hx
   ·exact h'.1
   ·have:=(a_.mp u).1 x hx
    exact List.not_lt.mpr (List.le_trans (List.not_lt.mp h'.1) (List.not_lt.mp this))
 intro zs h
 cases zs with
 |nil=>exact List.Pairwise.nil
 |cons a r=>exact key r a h
section
variable{X:Cx}{a b c e o tg:Expr}{es:List Expr}{pos p p2 iy dZ:Pos}{x name:Str}{fa fb fc fe fo:FE}{fs:FA}
def nH(ws:List W)(st:List aq):R W:=match ws with
 |[.loc n]=>tz (lstOf st n) fun zs=>tz (mo zs) fun ls=>if ls.length<64 then .ok (.loc st.length) (st++[.lst ((jh ls).map W.str)])else .bad
 |_=>.bad
theorem vY{K:Frag}{μ:List Addr}{H:Hp}(ls:List (List Nat)):RelWs K μ H (ls.map W.str) (ls.map fun l=>V.str (tx l)):=by
 induction ls with
 |nil=>exact .nilI
 |cons a r ih=>exact .consI .str ih
theorem vZ:uk X (.builtin "sorted") nH:=⟨fun ae s σ H vs us Q I rv ⟨μ,st,ws,S,r,q⟩=>by
 unfold nH at q
 split at q
 ·rename_i n
  obtain⟨y,rfl,ry⟩:=r.one
  cases e1:lstOf st n with
  |none=>rw[e1]at q;exact q.elim
  |some zs=>
   rw[e1,dg]at q
   cases e2:mo zs with
   |none=>rw[e2]at q;exact q.elim
   |some ls=>
    rw[e2,dg]at q
    split at q
    ·rename_i c
     obtain⟨a,vs,g,hS,rz⟩:=S.lstOf e1
     obtain⟨b1,f1,rfl⟩:=ry.locE
     rw[g]at f1;cases f1
     have:=sg e2 rz
     subst this
     refine tJ.h ae s σ H _ us Q I rv ⟨_,ls,rfl,hS,c,fun zs hp hs l H2 hl eH=>?_⟩
     subst eH
     have ez:zs=jh ls:=q_ (su hs) (sm ls) (hp.trans (gp ls).symm)
     subst ez
     exact q (μ++[l]) _ _ (bQ _ _) (gH.same (cC hl _)) (S.newLst hl (vY _)) (lP S)
    ·exact q.elim
 ·exact q.elim,fun ws st=>by
 unfold nH
 split
 ·exact qJ fun _=>qJ fun _=>by split<;>trivial
 ·trivial⟩
def jM:List W->Option (List Nat)
 |[]=>some []
 |.str [c]::ws=>(jM ws).map (c :: ·)
 |_=>none
theorem py{K:Frag}{μ:List Addr}{H:Hp}:∀{ws:List W} {l:List Nat} {vs:List V},jM ws=some l->RelWs K μ H ws vs->vs=io l
 |[],l,vs,h,r=>by simp only[jM]at h;cases h;exact r.nilE
 |w::ws,l,vs,h,r=>by
  obtain⟨x,xs,rfl,rx,rs⟩:=r.consE
  unfold jM at h
  split at h
  ·rename_i e;cases e
  ·rename_i c Jv e
   cases e
   cases e2:jM ws with
   |none=>rw[e2]at h;cases h
   |some l'=>rw[e2]at h;cases h;rw[rx.strE,py e2 rs];rfl
  ·cases h
def sv:W->Option (List Nat)
 |.str l=>some l
 |.tup ws=>jM ws
 |_=>none
def pz(fe:FE):FE:=fun ρ st=>(fe ρ st).bind fun x st=>tz (sv x) fun l=>if l.length<4000/\(ix l).length<64 then .ok (.loc st.length) (st++[.lst (jn (ix l))])else .bad
theorem kP{m l:List Nat}(hm:m.Nodup)(h:∀c∈m,c∈l):m.length<=l.length:=by
 induction m generalizing l with
 |nil=>exact br _
 |cons a r ih=>
  obtain⟨h1,h2⟩:=fX.mp hm
  have ha:a∈l:=h a (by simp)
  have:=ih h2 (l:=l.erase a) fun c hc=>by
   have:c≠a:=fun z=>h1 (z▸hc)
   exact(List.mem_erase_of_ne this).mpr (h c (aW _ hc))
  rw[List.length_erase_of_mem ha]at this
  have:0<l.length:=List.length_pos_of_mem ha
  simp;omega
theorem zO{p1 p2 yg qy:Pos}(h1:X.mg "sorted"=none)(h3:X.mg "set"=none)(he:SE X e fe)(hc:X.calm=true:=by rfl)
  (Jm:Gl X "sorted":=by rfl) (Fb:Gl X "set":=by rfl) (Fg:starEach [e] X.env=(false,eval e X.env)::starEach [] X.env:=by rfl):SE X (.Call (.Name "sorted" p1) [.Call (.Name "set" p2) [e] [] qy] [] yg) (pz fe):=⟨(zH h1 h3 ⟨he.h⟩ hc Jm Fb Fg).h.imp fun σ H Q h=>by
 obtain⟨μ,ρ,st,l,h⟩:=h
 refine⟨μ,ρ,st,l,RK.bind h l fun μ1 st1 x v H1 p1 x1 l1 q1 h1=>?_⟩
 cases e1:sv x with
 |none=>rw[e1]at h1;exact h1.elim
 |some ll=>
  rw[e1,dg]at h1
  split at h1
  ·rename_i c
   refine⟨ll,?_,c.1,fun m hm hsub=>?_,fun m LI hup hmem a H2 ha eH=>?_⟩
   ·cases x with
    |str z=>cases e1;exact .inl q1.strE
    |tup ws=>obtain⟨p,vs,rfl,hS,r⟩:=q1.tupE;have:=py e1 r;subst this;exact .inr ⟨p,rfl,hS⟩
    |_=>cases e1
   ·exact dJ (kP hm fun c hc=>jL.mpr (hsub c hc)) c.2
   ·subst eH
    have em:m=ix ll:=by
     refine sk ((List.Pairwise.and hup LI).imp fun z=>Nat.lt_of_le_of_ne z.1 z.2) (lq ll) fun x=>?_
     rw[hmem,jL]
    subst em
    exact h1 (μ1++[a]) _ _ (bQ _ _) (gH.same (cC ha _)) (l1.sto.newLst ha (uq (X:=X) _ _ _)) (lP l1.sto)
  ·exact h1.elim⟩
end
def W.ty:W->Option String
 |.non=>some "NoneType" | .bl _=>some "bool" | .int _=>some "int" | .str _=>some "str" | .tup _=>some "tuple" | .loc _=>none
def Et(t T:String):Bool:=(t==T)||(t == "bool" && T == "int")
theorem KC{K:Frag}{T:String}(h:A0 T){w:W}{t:String}(hw:w.ty=some t):kitOne K (.type t) (.type T)=some (Et t T):=by
 cases w<;>simp only[W.ty]at hw<;>cases hw<;>(rcases h with rfl|rfl|rfl|rfl<;>rfl)
def sw(T:String)(fa:FE):FE:=fun ρ st=>(fa ρ st).bind fun x st=>match x.ty with
 |some t=>.ok (.bl (Et t T)) st
 |none=>.bad
section
variable{X:Cx}{a b c e o tg:Expr}{es:List Expr}{pos p p2 iy dZ:Pos}{x name:Str}{fa fb fc fe fo:FE}{fs:FA}
theorem qL{T:String}{xT:Str}(hm:X.mg "isinstance"=none)(hT:X.mg xT=none)(hv:bootBuiltins xT=some (.type T))(ha:SE X a fa)(hk:A0 T:=by first|exact .inl rfl|exact .inr (.inl rfl)|exact .inr (.inr (.inl rfl))|exact .inr (.inr (.inr rfl)))
  (hg:Gl X "isinstance":=by rfl) (LP:Gl X xT:=by rfl) (hn:xT ≠ "__name__":=by decide) (hd:(xT==("__debug__":Str))=false:=by decide)
  (he:starEach [a,.Name xT p2] X.env=(false,eval a X.env)::starEach [.Name xT p2] X.env:=by rfl) (Dv:starEach [.Name xT p2] X.env=(false,eval (.Name xT p2) X.env)::starEach [] X.env:=by rfl) (nS:(backTo pos (starEach [.Name xT p2] X.env)).any (·.1)=false:=by rfl) :
  SE X (.Call (.Name "isinstance" p) [a,.Name xT p2] [] pos) (sw T fa):=by
 have C:jg X (.builtin "isinstance") (fun xs H Q=>∃x μ st w t,xs=[x,.ty T]/\gT X.K X.mg μ st H/\bj X.K μ H w x/\w.ty=some t/\Q (.bl (Et t T)) H):=by
  intro ae s σ H xs us Q I r h
  obtain⟨x,μ,st,w,t,rfl,S,rx,ht,q⟩:=h
  obtain⟨u,u2,rfl,r1,r2⟩:=b7.two r
  obtain rfl:u2=.type T:=r2
  have e:=KC (K:=X.K) hk ht
  cases w with
  |tup ws=>
   cases ht
   obtain⟨p,vs,rfl,hS,_⟩:=rx.tupE
   cases(show u=Value.ref p from r1)
   obtain⟨bv,_,hp,_⟩:=I.tuple hS
   obtain⟨o,h1,h2,_⟩:=hp
   exact up (kia_one PySem.W.kitx_tuple I.kIn ⟨o,h1,h2⟩ e (fun z=>nomatch z) fun tk hk=>⟨.bl _,H,I.tok tk,rfl,q⟩)
  |non=>cases ht;cases rx.nonE;exact up (nC I r1 .non e fun tk hk=>⟨.bl _,H,I.tok tk,rfl,q⟩)
  |bl b=>cases ht;cases rx.blE;exact up (nC I r1 (.bl _) e fun tk hk=>⟨.bl _,H,I.tok tk,rfl,q⟩)
  |int b=>cases ht;cases rx.intE;exact up (nC I r1 (.int _) e fun tk hk=>⟨.bl _,H,I.tok tk,rfl,q⟩)
  |str b=>cases ht;cases rx.strE;exact up (nC I r1 (.str _) e fun tk hk=>⟨.bl _,H,I.tok tk,rfl,q⟩)
  |loc b=>cases ht
 refine⟨(oS C hg hm jv (kj ha.h (kj (yp LP hT hv (v:=.ty T) rfl hn hd) rH Dv) he) (by decide) (by decide) he nS).imp fun σ H Q h=>?_⟩
 obtain⟨μ,ρ,st,l,h⟩:=h
 refine⟨μ,ρ,st,l,RK.bind h l fun μ1 st1 x v H1 p1 x1 l1 q1 h1=>?_⟩
 cases ht:x.ty with
 |none=>rw[ht]at h1;exact h1.elim
 |some t=>
  rw[ht]at h1
  exact⟨v,μ1,st1,x,t,rfl,l1.sto,q1,ht,h1 μ1 _ H1 (aj _) eV.refl l1.sto .bl⟩
theorem Bt{P:Program}{w:World}{K:Frag}{mg:Str->Option Value}{base:Heap}{k n:Nat}{x:Str}{st:Stmt}{f:Addr}{fd:FuncData}{ps:List Str}
  (F:nO K x x st f fd) (hm:mg x=some (.ref f)) (hn:ps.length=n)
  (hb:∀(kV n9 pm:Value) (an:Option Addr) (gi ct:Value) (us:List Value),us.length=ps.length->bindArgs (fnOf x x (gR st) (fM st) (bg st) .none kV n9 pm an gi ct) ⟨us,[]⟩=pure (ps.zip us)) :
  et P w K mg base k x n (fun _ _=>.bad):=q5 F hm hn hb ⟨fun vs H Q E h=>by rw[hn];exact h.1,fun _ _ _ _ _ _ _ _ _ _ _ _ _ _ h=>by obtain⟨_,_,_,_,_,_,z⟩:=h;exact z.elim⟩
end
def FJ(F:List W->List aq->R W):Prop:=∀ns:List Int,ns.length<=63->∃bp,F [.loc 0] [.ro (ns.map W.int)]=.ok (.bl true) bp
theorem walkW{l:PySem.W.OpenLaw}{k:Nat}{q:Program}{uF:List Str}{XP:(Str->Option Value)->Heap->Prop}{YP:World->Heap->Prop}{d:DefRec}{K:Params->Frag}{x:Str}{G:List W->List aq->R W}(hn:l.most=some 63)(LH:d.params.defaults=[])(hr:im k callerA)
  (hY:∀(w:World) (h:Heap),YP w h->(K w.params).In h)
  (F:∀(w:World) (mg:Str->Option Value) (fa:Addr) (h:Heap),(K w.params).In h->h.Ns mainGlobals mg->mg d.name=some (.ref fa) ->
   ∃fd:FuncData,fd.scope.names.lookup x=some .local/\(∀(s:Shared) (u:Value),BindsTo s fd ⟨[u],[]⟩ [(x,u)])/\∀base:Heap,(K w.params).In base->base.Ns mainGlobals mg->gk l.prog w (K w.params) mg base (mj l.prog w) k fa fd [x] (nQ (K w.params) mg 1 G))
  (ok:FJ G):PySem.W.WalkO q uF XP YP l.row.toRowW d [] (fun f vs=>PySem.call f vs):=by
 refine L2.walk_of (n:=63) (k:=k) (x:=x) (CX:=fun w=>mj l.prog w)
  (sp:=fun w=>fun vs H Q E=>∃(a:Addr) (ns:List Int),vs=[.ref a]/\pW (K w.params) H a (ns.map V.int)/\D1 H/\ns.length<=63/\∀H',Q (.bl true) H') hn (by decide) LH hr hY (fun w mg fa h h1 h2 h3=>?_)
  (fun w H a ns hl hO hS=>⟨a,ns,rfl,hS,hO,hl,fun _=>rfl⟩) fun w H s e s' z=>?_
 ·obtain⟨fd,LF,hb,ho⟩:=F w mg fa h h1 h2 h3
  refine⟨fd,LF,hb,fun base kb nb=>(ho base kb nb).imp fun vs H Q E hh=>?_⟩
  obtain⟨a,ns,rfl,hS,hO,hl,q⟩:=hh
  obtain⟨bp,e⟩:=ok ns hl
  have wN:L6 (K w.params) H a (ns.map V.int):=by
   rcases hS with(z|⟨o,z⟩)|z
   ·rcases hO a with y|⟨o,xs,y⟩
    ·rw[z]at y;cases y
    ·rw[z]at y;cases y
   ·exact .inl ⟨o,z⟩
   ·exact .inr z
  have hr:RelWs (K w.params) [a] H (ns.map W.int) (ns.map V.int):=by
   clear hS wN e hl
   induction ns with
   |nil=>exact .nilI
   |cons n r ih=>exact .consI .int ih
  refine⟨rfl,[a],[.loc 0],[.ro (ns.map W.int)],⟨fun i j b ci cj c1 c2 r1 r2 m1 m2=>?_,rfl,fun i c b c1 c2=>?_⟩,.consI (.locI rfl) .nilI,?_⟩
  ·cases i with
   |zero=>cases c1;cases r1
   |succ i=>simp at c1
  ·cases i with
   |zero=>cases c1;cases c2;exact⟨_,wN,hr⟩
   |succ i=>simp at c1
  ·rw[e]
   intro μ' v H' _ _ _ rv
   rw[rv.blE];exact q H'
 ·obtain⟨_,_,_,_,_,_,z,_⟩:=z
  exact z
abbrev qg:List Value:=[.type "ValueError",.type "Exception",.type "BaseException",.type "object"]
abbrev sy:String:="ValueError.__new__"
def zP(K:Frag)(C:Addr):List Value:=match K.lookup C with
 |some ⟨_,_,.cls cd,_⟩=>cd.mro
 |_=>[]
theorem nI{K:Frag}{h:Heap}{C:Addr}{NK:List Value}{nh:String}(X:K.In h)(q:excIn K C NK nh=true) :
  ∃bm N nm qn bs hdct sn sub ab col dd k0 k1 k2 k3 k5 mN,h.get? C=some (excClassObj nm qn C N bs bm hdct sn sub ab col dd k0 k1 k2 k3 k5 nh)/\h.Ns N mN/\mN "__init__"=none/\OwnTail h NK bm/\zP K C=.ref C::bm:=by
 have q0:=q
 unfold excIn at q
 split at q
 ·rename_i dd cd sl ho
  split at q
  ·rename_i C' bm k0 k1 k2 k3 n k5 hm hs
   simp only[cq,dv,e7]at q
   obtain⟨⟨⟨⟨⟨rfl,rfl⟩,hdel⟩,ht⟩,hok⟩,hni⟩:=q
   have hmro:zP K C'=cd.mro:=by unfold zP;rw[ho]
   obtain⟨nm,bs,mro,ns,qn,hd,sn,sub,ab,col,del⟩:=cd
   dsimp only at hm hdel hok hni hmro
   subst hm hdel
   have hsl:sl=#[k0,k1,k2,k3,some (.builtin n),k5]:=by
    obtain⟨l⟩:=sl
    simp only at hs
    rw[hs]
   subst hsl
   exact⟨bm,ns,nm,qn,bs,hd,sn,sub,ab,col,dd,k0,k1,k2,k3,k5,_,X _ _ ho,.of_isNs (PySem.W.isNs_of_in X hok),PySem.W.nsMap_none_of_in X hok hni,PySem.W.tail_of_in X ht,hmro⟩
  ·cases q
 ·cases q
structure Hw(K:Frag)(mg:Str->Option Value)(x:Str):Prop where
 ex:∃C,mg x=some (.ref C)/\excIn K C qg sy=true
def xF(c:Str):FS:=fun ρ st=>.ex c ρ st
theorem Bu{X:Cx}{x:Str}{np dZ pos p':Pos}{z:Str}{j:Nat}(hC:Hw X.K X.mg x)(iQ:X.calm=true:=by rfl)(hg:Gl X x:=by rfl)(hd:(x==("__debug__":Str))=false:=by decide)
  (he:starEach [.Constant (.str z) j p'] X.env=(false,eval (.Constant (.str z) j p') X.env)::starEach [] X.env:=by rfl):SS X (.Raise (some (.Call (.Name x np) [.Constant (.str z) j p'] [] dZ)) none pos) (xF x):=⟨by
 intro ae s σ H D I h
 obtain⟨μ,ρ,st,l,h⟩:=h
 obtain⟨C,hm,q⟩:=hC.ex
 have hh:X.A.handled=none:=I.ok.hd iQ
 obtain⟨bm,N,nm,qn,bs,hdct,sn,sub,ab,col,dd,k0,k1,k2,k3,k5,mN,g1,g2,g3,g4,g5⟩:=nI I.kIn q
 refine wpAny_Raise_call_subT (C:=C) (nm:=nm) (q:=qn) (N:=N) (bs:=bs) (bm:=bm) (hdct:=hdct) (sn:=sn) (sub:=sub) (ab:=ab) (col:=col) (dd:=dd) (k0:=k0) (k1:=k1) (k2:=k2) (k3:=k3) (k5:=k5)
  F.excBase_ValueError (mN:=mN) (g4.hasType F.excBase_ValueError.hasBase) hh (by rw[he];rfl) g3 (nB I hg hm ⟨rfl,?_⟩ hd)
 rw[he]
 refine jj ?_
 show wpAny _ _ (spliced ((false,eval (.Constant (.str z) j p') X.env)::[])) _ _ s
 refine cX (wpAny_Constant_str (d5 ?_))
 refine⟨rfl,(by show 1<=sizeLine;decide),g1,g2,g4,fun h' e hx=>?_⟩
 have I2:bi X ae σ H { s with heap:=h',toks:=s.toks+1 }:=I.kept hx.keeps
 have en:H e=none:=by
  cases hu:H e with
  |none=>rfl
  |some u=>
   obtain⟨ob,hob⟩:=(I.hok e u hu).ex
   have:=hx.new
   rw[show({ s with toks:=s.toks+1 }:Shared).heap=s.heap from rfl]at this
   rw[hob]at this;cases this
 obtain⟨t,ht1,ht2,ht3⟩:=hx.there
 have hin:∀env∈X.stack,∀b,env.frame=some b->b∈mQ X.stack:=fun env he b hb=>jV.mpr ⟨env,he,hb⟩
 refine h ae μ σ H (.ref e) _ (aj _) eV.refl l ⟨I2,e,.ref C,t,hideAll s.heap (mQ X.stack),rfl,hm,en,fun b o hb=>hx.keeps b o (of_hideAll _ hb),?_,?_,.inr (.inl ⟨_,_,ht1,rfl,rfl,rfl,rfl,rfl⟩),fun b o hb hr=>?_⟩
 ·cases hq:(hideAll s.heap (mQ X.stack)).get? e with
  |none=>rfl
  |some o=>have z:=of_hideAll _ hq;have y:=hx.new;rw[show({ s with toks:=s.toks+1 }:Shared).heap=s.heap from rfl,z]at y;cases y
 ·exact(PySem.W.funFrames_hide I.stack hin).of_keeps fun b o hb _=>⟨o,hx.keeps b o hb,rfl⟩
 ·have old:∀o0,s.heap.get? b=some o0->s.heap.get? b=some o:=fun o0 h0=>by
   have h1:h'.get? b=some o0:=hx.keeps b o0 h0
   have h2:h'.get? b=some o:=hb
   rw[h1]at h2;rw[<- h2];exact h0
  have fin:∀o0,s.heap.get? b=some o0->b∉mQ X.stack->(hideAll s.heap (mQ X.stack)).get? b=some o:=fun o0 h0 hn=>PySem.W.hideAll_get _ (old o0 h0) hn
  rcases hr with hr|⟨⟨o0,h0⟩,hf,hbx⟩|⟨⟨y,hy⟩,hf⟩|⟨pp,hp,rfl⟩
  ·cases hu:H b with
   |none=>exact absurd hu hr
   |some u=>
    obtain⟨ob,hob⟩:=(I.hok b u hu).ex
    exact fin ob hob fun z=>by have:=I.stkFree b z;rw[hu]at this;cases this
  ·obtain⟨o1,h1⟩:=I.base.there b o0 h0 hbx
   refine fin o1 h1 fun z=>?_
   rcases aC.mp (I.stkSub b z)with z|z
   ·rw[z]at h0;exact absurd (ay (av h0) I.ok.above) (b_ _)
   ·exact hf z
  ·obtain⟨v,ov,hov,_⟩:=I.cell y b hy
   exact fin ov hov hf
  ·obtain⟨p1,p2,p3,p4,_⟩:=I.pin pp hp
   refine fin _ p1 fun z=>?_
   rcases aC.mp (I.stkSub _ z)with z|z
   ·exact p3 z
   ·exact p4 z⟩
theorem bi.unbound{X:Cx}{ae:List (Addr×Obj)}{σ:St}{H:Hp}{s:Shared}{h':Heap}{t' i:Nat}{x:Str}{v:Option Value}{m:Str->Option Value}(I:bi X ae σ H s)(hN:X.N.Nodup)(hi:X.N[i]?=some x)(hn:s.heap.Ns X.env.locals m)
  (LR:h'.Ns X.env.locals (fun y=>if y=x then v else m y)) (hs:Heap.SameBut X.env.locals s.heap h') (Jw:s.toks<=t':=by first|exact ah _|exact a8 _|assumption|omega):bi X ae (σ.set i none) H { s with heap:=h',toks:=t' }:=by
 obtain⟨m0,hn0,hl⟩:=id I.loc
 have em:m0=m:=by
  obtain⟨o,es,ep,a1,a2,a3,a4⟩:=hn0
  obtain⟨o',es',ep',b1,b2,b3,b4⟩:=hn
  rw[a1]at b1;cases b1
  rw[a2]at b2;cases b2
  funext y;rw[<- a4,<- b4]
 subst em
 obtain⟨oL,_,_,hoL,_⟩:=id hn0
 have cne:=I.cne
 refine⟨I.ok,I.os,I.bare,⟨fun b o e n hb hx=>?_,fun b o e n hb hx=>?_,I.base.free,fun b o e hx=>?_,I.base.tups,I.base.frzs,I.base.tbls⟩,⟨_,LR,fun j y w e1 e2 e3=>?_⟩,fun y c e=>?_,I.free,I.freeC,fun p hp=>?_,fun b ob e=>?_,by simpa using I.len,ay I.pos Jw,aA I.tk Jw⟩
 ·exact(hs.2 b (aK (ay (av e) I.ok.above))).trans (I.base.keep b o e n hb hx)
 ·obtain⟨sl,e1⟩:=I.base.slot b o e n hb hx
  exact⟨sl,(hs.2 b (aK (ay (av e) I.ok.above))).trans e1⟩
 ·obtain⟨o',e1⟩:=I.base.there b o e hx
  exact⟨o',(hs.2 b (aK (ay (av e) I.ok.above))).trans e1⟩
 ·by_cases hj:j=i
  ·subst hj
   by_cases hlt:j<σ.length
   ·rw[bM hlt]at e2;cases e2
   ·rw[bd (by simpa using hlt)]at e2;cases e2
  ·rw[c7 (Ne.symm hj)]at e2
   obtain⟨u',r',q⟩:=hl j y w e1 e2 e3
   refine⟨u',r'.up Jw,?_⟩
   rcases q with⟨k,e⟩|⟨k,c,e,z⟩
   ·refine .inl ⟨k,?_⟩
    have:y≠x:=fun e=>hj (rE hN e1 (e▸hi))
    simp[this,e]
   ·exact .inr ⟨k,c,e,z.sameBut hs (cne y c e)⟩
 ·obtain⟨w',z⟩:=I.cell y c e
  exact⟨w',z.sameBut hs (cne y c e)⟩
 ·obtain⟨e,n,ne,nf,d⟩:=I.pin p hp
  exact⟨(hs.2 p.1 ne).trans e,n,ne,nf,d⟩
 ·refine((I.hok b ob e).up Jw).stay (fun c w' hc q=>(hs.2 c ?_).trans q) (fun _ q=>q) fun _ _ q=>q
  rintro rfl
  rcases hc with rfl|hc
  ·rw[I.free]at e;cases e
  ·rw[I.free]at hc;cases hc
theorem li.lands{X:Cx}{ae:List (Addr×Obj)}{σ:St}{c:Str}{H:Hp}{e:Value}{s:Shared}{Q:Unit->Shared->Prop}{E:Value->Shared->Prop}{M:Model}{outer:List Env}(f:li X ae σ c H e s)(jq:X.stack=X.env::outer)(qP:X.env.frame=some X.env.locals)(hA:X.A.frames=some X.stack)
  (h:∀x C t B h',e=.ref x->X.mg c=some C->H x=none->Heap.FlyingW B X.stack x C (.ref t) h'->s.heap.UpToSlots h' ->
   (∀b o,s.heap.get? b=some o->(H b≠none\/((∃o0,X.s₀.heap.get? b=some o0)/\b∉X.fs/\b∉X.ex)\/((∃y,X.env.cells.lookup y=some b)/\b∉mQ X.stack)\/∃p∈X.pn++ae,p.1=b)->B.get? b=some o)->Q () { s with heap:=h' }) :
  wpAny M X.A (noteFrame e X.env) (fun _ s₂=>wpAny M X.A (setFlight e none) Q E s₂) E s:=by
 obtain⟨x,C,t,B,rfl,hC,hx,st,nx,ff,tr,oF⟩:=f.ex
 rw[jq]at ff hA
 rcases tr with tr|⟨oe,vs,he,rfl,_,hd,h1,h0⟩|⟨L,hL,tr⟩
 ·refine wpAny_looks_onW hA qP ⟨st,nx,ff,tr⟩ fun h1 hh u1=>pV hh fun h2 fl u2=>?_
  exact h x C t B h2 rfl hC hx (by rw[jq];exact fl) (u1.trans u2) oF
 ·unfold noteFrame
  simp only[qP]
  refine aa (dX he hd h1 ?_)
  rw[au (by decide)]
  refine wpAny_newEntryW hA ff qP he st nx hd (dy.mp h1).1 h0 fun h' hL=>?_
  obtain⟨k1,k2,k3,k4⟩:=hL
  exact h x _ t B h' rfl hC hx ⟨k1,nx,by rw[jq];exact k2,k3⟩ k4 oF
 ·refine iG hL tr (pV ⟨st,nx,ff,tr⟩ fun h' fl up=>?_)
  exact h x C t B h' rfl hC hx (by rw[jq];exact fl) up oF
theorem bi.landed{X:Cx}{ae:List (Addr×Obj)}{σ:St}{H:Hp}{s:Shared}{h' B:Heap}{x:Addr}{C:Value}{t:Addr}(I:bi X ae σ H s)(fl:Heap.FlyingW B X.stack x C (.ref t) h')(up:s.heap.UpToSlots h')(jq:X.stack=X.env::X.outer)
  (oF:∀b o,s.heap.get? b=some o->(H b≠none\/((∃o0,X.s₀.heap.get? b=some o0)/\b∉X.fs/\b∉X.ex)\/((∃y,X.env.cells.lookup y=some b)/\b∉mQ X.stack)\/∃p∈X.pn++ae,p.1=b)->B.get? b=some o) :
  bi X ae σ H { s with heap:=h' }:=by
 obtain⟨f1,f2,f3,f4⟩:=fl
 obtain⟨m,hn,hl⟩:=id I.loc
 have cellK:∀y c,X.env.cells.lookup y=some c->∀v,s.heap.IsCell c v->h'.IsCell c v:=fun y c e v ⟨o,ho,hd⟩=>by
  by_cases hc:c∈mQ X.stack
  ·obtain⟨sl,q⟩:=up c o ho fun vs z=>by rw[hd]at z;cases z
   exact⟨_,q,hd⟩
  ·exact⟨o,f1 c o (oF c o ho (.inr (.inr (.inl ⟨⟨y,e⟩,hc⟩)))),hd⟩
 have frames:∀b∈X.fs,∀o,s.heap.get? b=some o->∃sl,h'.get? b=some { o with slots:=sl }:=fun b hb o ho=>by
  obtain⟨_,o',ho',hd⟩:=I.funs.mem hb
  rw[ho]at ho';cases ho'
  exact up b o ho hd
 have kept:∀b o,s.heap.get? b=some o->(∃o0,X.s₀.heap.get? b=some o0)->b∉X.fs->b∉X.ex->h'.get? b=some o:=fun b o ho h0 hb hx=>f1 b o (oF b o ho (.inr (.inl ⟨h0,hb,hx⟩)))
 refine⟨I.ok,I.os,I.bare,⟨fun b o q n hb hx=>kept b o (I.base.keep b o q n hb hx) ⟨o,q⟩ hb hx,fun b o q n hb hx=>?_,I.base.free,fun b o q hx=>?_,I.base.tups,I.base.frzs,I.base.tbls⟩,⟨m,up.ns hn,fun i y v e1 e2 e3=>?_⟩,fun y c e=>?_,I.free,I.freeC,fun p hp=>?_,fun b u hb=>?_,I.len,I.pos,I.tk⟩
 ·obtain⟨sl,q1⟩:=I.base.slot b o q n hb hx
  obtain⟨sl2,q2⟩:=frames b hb _ q1
  exact⟨sl2,q2⟩
 ·obtain⟨o',q1⟩:=I.base.there b o q hx
  by_cases hb:b∈X.fs
  ·obtain⟨sl2,q2⟩:=frames b hb _ q1;exact⟨_,q2⟩
  ·exact⟨o',kept b o' q1 ⟨o,q⟩ hb hx⟩
 ·obtain⟨u,r,lk⟩:=hl i y v e1 e2 e3
  refine⟨u,r,?_⟩
  rcases lk with lk|⟨k,c,e,z⟩
  ·exact .inl lk
  ·exact .inr ⟨k,c,e,cellK y c e _ z⟩
 ·obtain⟨v,z⟩:=I.cell y c e
  exact⟨v,cellK y c e v z⟩
 ·obtain⟨e,n,ne,nf,d⟩:=I.pin p hp
  exact⟨f1 _ _ (oF _ _ e (.inr (.inr (.inr ⟨p,hp,rfl⟩)))),n,ne,nf,d⟩
 ·refine(I.hok b u hb).stay (fun c v hc q=>f1 c v (oF c v q (.inl ?_))) (fun _ q=>q) fun _ _ q=>q
  rcases hc with rfl|hc
  ·rw[hb];simp
  ·rw[hc];simp
abbrev Cx.trying(X:Cx)(pn:List (Addr×Obj))(E:Value->Shared->Prop):Cx:={ X with pn:=pn,xe:=E }
abbrev Cx.within(X:Cx)(v:Value):Cx:={ X with A:=X.A.mark (some v),calm:=false,xe:=fun _ _=>False }
theorem Cx.Ok.trying{X:Cx}(k:X.Ok)(pn:List (Addr×Obj))(E:Value->Shared->Prop):(X.trying pn E).Ok:=⟨k.mod,k.kind,k.glob,k.blt,k.above,k.inj,k.has,k.cab,k.hd,k.frames,k.stk,k.exf,k.bs,k.bsz,k.noex,k.exfs,k.funs,k.frf⟩
theorem Cx.Ok.within{X:Cx}(k:X.Ok)(v:Value):(X.within v).Ok:=⟨k.mod,k.kind,k.glob,k.blt,k.above,k.inj,k.has,k.cab,(fun z=>by cases z),k.frames,k.stk,k.exf,k.bs,k.bsz,k.noex,k.exfs,k.funs,k.frf⟩
section
variable{X:Cx}{ae:List (Addr×Obj)}{σ:St}{H:Hp}{s:Shared}
theorem bi.trying(I:bi X ae σ H s)(E:Value->Shared->Prop):bi (X.trying (X.pn++ae) E) [] σ H s:=⟨I.ok.trying _ _,I.os,I.bare,I.base,I.loc,I.cell,I.free,I.freeC,fun p hp=>I.pin p (by simpa using hp),I.hok,I.len,I.pos,I.tk⟩
theorem bi.tried{E:Value->Shared->Prop}{pins':List (Addr×Obj)}(ok:X.Ok)(I:bi (X.trying (X.pn++ae) E) pins' σ H s):bi X ae σ H s:=⟨ok,I.os,I.bare,I.base,I.loc,I.cell,I.free,I.freeC,fun p hp=>I.pin p (cZ _ hp),I.hok,I.len,I.pos,I.tk⟩
theorem bi.within(I:bi X ae σ H s)(v:Value):bi (X.within v) ae σ H s:=⟨I.ok.within v,I.os,I.bare,I.base,I.loc,I.cell,I.free,I.freeC,I.pin,I.hok,I.len,I.pos,I.tk⟩
theorem bi.out{v:Value}(ok:X.Ok)(I:bi (X.within v) ae σ H s):bi X ae σ H s:=⟨ok,I.os,I.bare,I.base,I.loc,I.cell,I.free,I.freeC,I.pin,I.hok,I.len,I.pos,I.tk⟩
theorem bi.adopt{x:Addr}{ob:HO}(I:bi X ae σ H s)(hx:H x=none)(h0:X.s₀.heap.get? x=none)(hL:x≠X.env.locals)(hc:∀y c,X.env.cells.lookup y=some c->c≠x)(hp:∀p∈X.pn++ae,p.1≠x)(ok:dS X.prog X.w s.toks (gb H x ob) s.heap x ob):bi X ae σ (gb H x ob) s:=by
 have hs:nP H (gb H x ob):=cC hx ob
 refine⟨I.ok,I.os,I.bare,⟨I.base.keep,I.base.slot,fun b o q n hb=>?_,I.base.there,fun b xs q=>hs _ _ (I.base.tups b xs q),fun b o u q=>hs _ _ (I.base.frzs b o u q),fun b ps q=>?_⟩,I.loc,I.cell,?_,fun y c e=>?_,fun p h=>?_,fun b u hb=>?_,I.len,I.pos,I.tk⟩
 ·rw[cx (fun z=>by rw[z,h0]at q;cases q)];exact I.base.free b o q n hb
 ·obtain⟨m,e⟩:=I.base.tbls b ps q;exact⟨m,hs _ _ e⟩
 ·rw[cx (Ne.symm hL)];exact I.free
 ·rw[cx (hc y c e)];exact I.freeC y c e
 ·obtain⟨a,b,c,d,e⟩:=I.pin p h;exact⟨a,by rw[cx (hp p h)];exact b,c,d,e⟩
 ·by_cases e:b=x
  ·subst e;rw[gm]at hb;cases hb;exact ok
  ·rw[cx e]at hb
   exact(I.hok b u hb).stay (fun _ _ _ q=>q) (fun c q=>hs _ _ q) fun c xs q=>hs _ _ q
end
theorem sA{M:Model}{A:Around}{E:Value->Shared->Prop}{h:Heap}{g:Array GenState}{d:Drawn}{t:Nat}{os:OsState}{e:Addr}{oe:Obj}{Q:Bool->Shared->Prop}{nm qn NI NH:Str}{C N D N':Addr}{bs bm NC Mj:List Value}{hdct Gp:Bool}{sn NE:List Str}{sub LX:List Value}{ab NF:Bool}{col LC:Option Bool}{dd Gm:Option Addr}{k0 k1 k2 k3 k5 j0 j1 j2 j3 j5:Option Value}{nh Jb:String}
  (hC:h.get? C=some (excClassObj nm qn C N bs bm hdct sn sub ab col dd k0 k1 k2 k3 k5 nh)) (hD:h.get? D=some (excClassObj NI NH D N' NC Mj Gp NE LX NF LC Gm j0 j1 j2 j3 j5 Jb)) (he:h.get? e=some oe) (ym:oe.cls=.ref C) (jT:Mj.contains (.type "BaseException")=true)
  {b:Bool} (hb:(Value.ref C::bm).contains (.ref D)=b) (hq:Q b ⟨h,g,d,t,os⟩):wpAny M A (excMatches (.ref e) (.ref D)) Q E ⟨h,g,d,t,os⟩:=by
 have hcB:(Value.ref D::Mj).contains (.type "BaseException")=true:=by rw[j_,jT,Bool.or_true]
 have f:=tc_notTuple
 unfold excMatches
 repeat(first|(with_reducible refine d6 he ?_;rw[ym])|with_reducible refine d6 hD ?_|(with_reducible refine gK hD ?_;rw[hcB])|(with_reducible refine gK hC ?_;rw[hb])|wp_step)
 cases b<;>(wp_walk;exact hq)
open AutoSeq1 (wpAny_loadPart')
section
variable{X:Cx}
end
section
variable{X:Cx}{a b c e o tg:Expr}{es:List Expr}{pos p p2:Pos}{fa fb fe fo:FE}{fs:FA}
theorem Bv{α:Type}(xs:List α)(k:Nat)(y:α):((xs.toArray.extract 0 k).push y++xs.toArray.extract k).toList=xs.take k++y::xs.drop k:=by
 simp
 exact cf (by simp)
def Eu:V->List V->Hp->VK->Prop:=fun x vs H Q=>∃(l:Addr) (xs:List V) (k:Nat) (y:V),x=.ref l/\vs=[.int k,y]/\H l=some (.lst xs)/\k<=xs.length/\xs.length+1<=sizeLine/\k<1000000/\Q .non (gb H l (.lst (xs.take k++y::xs.drop k)))
theorem zQ:Np X "list.insert" Eu:=by
 intro ae s σ H x vs v us Q I rx rv h
 obtain⟨l,xs,k,y,rfl,rfl,hH,hk,hz,N7,q⟩:=h
 cases rx
 obtain⟨u,u2,rfl,r1,r2⟩:=b7.two rv
 obtain⟨t,rfl⟩:=r1
 obtain⟨z,bv,n,r,hl,e⟩:=I.lstM hH
 have hfit:¬ (!Builtin.List.listFitsIndex (k:Int))=true:=by
  unfold Builtin.List.listFitsIndex
  simp;omega
 have hsz:bv.toArray.size<=sizeLine:=by rw[aR];omega
 obtain⟨q0,hq0⟩:∃q0:Int,q0=k:=⟨_,rfl⟩
 rw[<- hq0]at hfit ⊢
 have M:=AutoSeq1.list_insert_list_int_val_1 l bv.toArray n q0 t u2 hfit hsz
 refine oN F.slot_list_insert ⟨_,e,rfl⟩ F.entry_list_insert (F.args_list_insert_3 _ _ _) M ⟨e,?_⟩
 refine⟨.non,_,I.lset (its':=bv.take k++u2::bv.drop k) hH e ?_ ((r.take k).append (.cons r2 (r.drop k))) ?_,rfl,q⟩
 ·have h0:¬ (q0<0):=by omega
  have hm:min q0.toNat bv.toArray.size=k:=by rw[aR];omega
  simp only[au h0,hm]
  apply Array.toList_inj.mp
  rw[Bv]
 ·rw[aJ,aQ,cr,bO]
  omega
def nJ(x:W)(ws:List W)(st:List aq):R W:=match x,ws with
 |.loc n,[.int k,y]=>(match st[n]? with
  |some (.lst zs)=>if 0<=k/\k.toNat<=zs.length/\zs.length<jQ/\k<1000000 then .ok .non (st.set n (.lst (zs.take k.toNat++y::zs.drop k.toNat)))else .bad
  |_=>.bad)
 |_,_=>.bad
theorem zR:Ky X "list.insert" nJ:=⟨fun ae s σ H x vs v us Q I rv rus ⟨μ,st,wx,ws,S,rx,rs,q⟩=>by
 unfold nJ at q
 split at q
 ·rename_i n k y
  obtain⟨y1,y2,rfl,ry1,ry2⟩:=rs.two
  split at q
  ·rename_i zs e1
   split at q
   ·rename_i cc
    obtain⟨c1,c2,c3,c4⟩:=cc
    obtain⟨k,rfl⟩:=lF c1
    rw[bP]at c2 q
    obtain⟨a1,g1,vs1,k1,r1⟩:=S.get e1
    obtain⟨b1,f1,rfl⟩:=rx.locE
    rw[g1]at f1;cases f1
    have hl:=r1.len
    have hL:vs1.length+1<=sizeLine:=by rw[<- hl];exact lO c3
    refine zQ ae s σ H _ _ v us Q I rv rus ⟨a1,vs1,k,y2,rfl,by rw[ry1.intE],k1,by omega,hL,by omega,?_⟩
    exact q μ _ _ (aj _) (gH.but nD k1) (S.set e1 g1 k1 ((r1.take k).app (.consI ry2 (r1.drop k)))) .non
   ·exact q.elim
  ·exact q.elim
 ·exact q.elim,fun x ws st=>by
 unfold nJ
 repeat' split
 all_goals trivial⟩
end
def Hy(i:Nat):RS->RS
 |.nx ρ st=>.nx (ρ.set i none) st
 |.bk ρ st=>.bk (ρ.set i none) st
 |.ct ρ st=>.ct (ρ.set i none) st
 |.rt w st=>.rt w st
 |_=>.bad
def xG(g:FS)(cs:List Str)(i:Nat)(gh:FS):FS:=fun ρ st=>match g ρ st with
 |.ex c ρ' bp=>if c∈cs then Hy i (gh (ρ'.set i (some (.loc bp.length))) (bp++[.exc c]))else .bad
 |r=>r
structure Bw(K:Frag)(mg:Str->Option Value)(T:Str)(cs:List Str):Prop where
 h:∀c∈cs,∃C Ta,mg c=some (.ref C)/\mg T=some (.ref Ta)/\excIn K C qg sy=true/\excIn K Ta qg sy=true/\(zP K C).contains (.ref Ta)=true
theorem lR{K:Frag}{μ:List Addr}{H:Hp}:∀{ρ:cn} {σ:St} (i:Nat),Paired (fun(o:Option W) (s:Option V)=>∀w,o=some w->∃v,s=some v/\bj K μ H w v) ρ σ ->
  Paired (fun(o:Option W) (s:Option V)=>∀w,o=some w->∃v,s=some v/\bj K μ H w v) (ρ.set i none) (σ.set i none)
 |_,_,_,.nil=>.nil
 |_,_,0,.cons a t=>.cons (fun w e=>by cases e) t
 |_,_,i+1,.cons a t=>.cons a (lR i t)
theorem gT.pushE{K:Frag}{mg:Str->Option Value}{μ:List Addr}{st:List aq}{H:Hp}(S:gT K mg μ st H){x:Addr}{c:Str}{C:Value}(hx:H x=none)(hc:mg c=some C):gT K mg (μ++[x]) (st++[.exc c]) (gb H x (rX x C)):=
 S.push (c:=.exc c) hx ⟨C,hc,gm⟩
theorem Hz{X:Cx}{body Go:List Stmt}{b₀:Stmt}{T n:Str}{i:Nat}{g gh:FS}{cs:List Str}{pos wP np:Pos}(hC:Bw X.K X.mg T cs)(hN:X.N.Nodup)(hi:X.N[i]?=some n)(hx:Dp X.env.scope n)
  (hb:∀pn E,SB (X.trying pn E) body g) (hs:∀v,SB (X.within v) (b₀::Go) gh) (oQ:X.ex=[]:=by rfl) (jq:X.stack=X.env::X.outer:=by rfl) (qP:X.env.frame=some X.env.locals:=by rfl) (hk:X.env.kindOf n=some .local:=by rfl) (hg:Gl X T:=by rfl) (hd:(T==("__debug__":Str))=false:=by decide)
  (hf:X.fn n=true\/X.env.scope.names.lookup n=some .local:=by first|exact .inl rfl|exact .inr rfl) :
  SS X (.Try body [.ExceptHandler (some (.Name T np)) (some n) (b₀::Go) wP] [] [] pos) (xG g cs i gh):=⟨by
 intro ae s σ H D I h
 obtain⟨μ,ρ,st,l,h⟩:=h
 refine wpAny_Try_except ?_
 refine fP ((hb (X.pn++ae) _).h [] s σ H D (I.trying _) ⟨μ,ρ,st,⟨l.env,l.sto⟩,?_⟩) (fun f s1 q=>?_) (fun _ _ q=>q)
 ·unfold xG at h
  cases e:g ρ st with
  |nx ρ' bp=>rw[e]at h;exact fun μ' σ' H' p x r=>h μ' σ' H' p x ⟨r.env,r.sto⟩
  |bk ρ' bp=>rw[e]at h;exact fun μ' σ' H' p x r=>h μ' σ' H' p x ⟨r.env,r.sto⟩
  |ct ρ' bp=>rw[e]at h;exact fun μ' σ' H' p x r=>h μ' σ' H' p x ⟨r.env,r.sto⟩
  |rt w bp=>rw[e]at h;exact h
  |bad=>rw[e]at h;exact h
  |ex c ρ' bp=>
   rw[e]at h
   intro pins' μ' σ' H' ev s' pp xx r f
   dsimp only at h
   split at h
   ·rename_i hc
    obtain⟨Ca,Ta,m1,m2,q1,q2,hsub⟩:=hC.h c hc
    have I0:=f.inv
    refine f.lands jq qP I.ok.frames fun ex C t B h' he hCc hxn fl up oF=>?_
    subst he
    obtain rfl:C=.ref Ca:=by have:=hCc.symm.trans m1;exact be this
    have I1:=I0.landed fl up jq oF
    have I2:bi X ae σ' H' { s' with heap:=h' }:=bi.tried I.ok I1
    obtain⟨oe,vs,_,_,_,Dy,⟨ym,_⟩,hdat,_⟩:=fl.2.2.2
    have cov2:∀b o,h'.get? b=some o->(H' b≠none\/((∃o0,X.s₀.heap.get? b=some o0)/\b∉X.fs/\b∉X.ex)\/((∃y,X.env.cells.lookup y=some b)/\b∉mQ X.stack)\/∃p∈X.pn++ae,p.1=b)->B.get? b=some o:=by
     intro b o hbo hr
     have fin:∀o1,s'.heap.get? b=some o1->(H' b≠none\/((∃o0,X.s₀.heap.get? b=some o0)/\b∉X.fs/\b∉X.ex)\/((∃y,X.env.cells.lookup y=some b)/\b∉mQ X.stack)\/∃p∈(X.pn++ae)++pins',p.1=b)->B.get? b=some o:=fun o1 h1 hr=>by
      have h2:=oF b o1 h1 hr
      have h3:=fl.1 b o1 h2
      rw[h3]at hbo;cases hbo;exact h2
     rcases hr with hr|⟨⟨o0,h0⟩,hbf,hbx⟩|⟨⟨y,hy⟩,hbf⟩|⟨p,hp,rfl⟩
     ·cases hu:H' b with
      |none=>exact absurd hu hr
      |some u=>obtain⟨ob,hob⟩:=(I0.hok b u hu).ex;exact fin ob hob (.inl hr)
     ·obtain⟨o1,h1⟩:=I0.base.there b o0 h0 hbx
      exact fin o1 h1 (.inr (.inl ⟨⟨o0,h0⟩,hbf,hbx⟩))
     ·obtain⟨v,ov,hov,_⟩:=I0.cell y b hy
      exact fin ov hov (.inr (.inr (.inl ⟨⟨y,hy⟩,hbf⟩)))
     ·obtain⟨p1,_⟩:=I0.pin p (cZ _ hp)
      exact fin _ p1 (.inr (.inr (.inr ⟨p,cZ _ hp,rfl⟩)))
    have noB:∀o,B.get? ex=some o->False:=fun o z=>by have:=fl.2.1;rw[z]at this;cases this
    obtain⟨bm,N,nm,qn,bs,hdct,sn,sub,ab,col,dd,k0,k1,k2,k3,k5,mN,g1,g2,g3,g4,g5⟩:=nI I2.kIn q1
    obtain⟨Mj,N',NI,NH,NC,Gp,NE,LX,NF,LC,Gm,j0,j1,j2,j3,j5,mN',g1',g2',g3',g4',g5'⟩:=nI I2.kIn q2
    refine wpAny_handleBy_cons (codeAny_handlers_test ?_) (by intro z;cases z)
    refine nB (X:=X.within (.ref ex)) (I2.within _) hg m2 ?_ hd
    refine sA g1 g1' Dy ym (g4'.hasType F.excBase_ValueError.hasBase) (b:=true) (by rw[<- g5];exact hsub) ?_
    refine codeAny_handlers_suite_as ?_
    refine lands_againW fl fun h2 fl2 up2=>?_
    have I3:bi X ae σ' H' { s' with heap:=h2 }:=I2.landed fl2 up2 jq cov2
    obtain⟨oe2,vs2,_,_,_,heo2,⟨hcls2,_⟩,hdat2,_⟩:=fl2.2.2.2
    have I4:bi X ae σ' (gb H' ex (rX ex (.ref Ca))) { s' with heap:=h2 }:=by
     refine I3.adopt hxn ?_ ?_ ?_ ?_ ?_
     ·cases h0:X.s₀.heap.get? ex with
      |none=>rfl
      |some o0=>
       exfalso
       by_cases hfs:ex∈X.fs
       ·obtain⟨_,o',ho',hd'⟩:=I3.funs.mem hfs
        have ho':h2.get? ex=some o':=ho'
        rw[heo2]at ho';cases ho'
        exact hd' _ hdat2
       ·exact noB _ (cov2 ex oe Dy (.inr (.inl ⟨⟨o0,h0⟩,hfs,by rw[oQ];simp⟩)))
     ·rintro rfl
      obtain⟨m,⟨o,es,ep,a1,a2,_⟩,_⟩:=I3.loc
      have a1:h2.get? _=some o:=a1
      rw[heo2]at a1;cases a1
      rw[hdat2]at a2;cases a2
     ·rintro y c' hy rfl
      obtain⟨v,o,a1,a2⟩:=I3.cell y _ hy
      have a1:h2.get? _=some o:=a1
      rw[heo2]at a1;cases a1
      rw[hdat2]at a2;cases a2
     ·rintro p hp rfl
      exact noB _ (cov2 p.1 oe Dy (.inr (.inr (.inr ⟨p,hp,rfl⟩))))
     ·refine⟨⟨oe2,vs2,heo2,hcls2,hdat2⟩,⟨oe2,heo2⟩,?_⟩
      rintro ha hb' ⟨o,vs,z1,z2,z3⟩ keep
      exact⟨o,vs,keep o z1,z2,z3⟩
    have hxt:eV X.K H' (gb H' ex (rX ex (.ref Ca))):=gH.same (cC hxn _)
    refine rF (X:=X.within (.ref ex)) (I4.within _) hN hi hx (v:=.ref ex) rfl (fun s5 I5=>?_) hf
    have S4:gT X.K X.mg (μ'++[ex]) (bp++[.exc c]) (gb H' ex (rX ex (.ref Ca))):=gT.pushE r.sto hxn m1
    have L4:Rl (X.within (.ref ex)) (μ'++[ex]) (ρ'.set i (some (.loc bp.length))) (bp++[.exc c]) (σ'.set i (some (.ref ex))) (gb H' ex (rX ex (.ref Ca))):=
     ⟨o9 (lP r.sto) i (p6 (bQ _ _) hxt r.env),S4⟩
    have pm:μ <+: μ'++[ex]:=pp.trans (bQ _ _)
    have xm:eV X.K H (gb H' ex (rX ex (.ref Ca))):=xx.trans hxt
    have hp:(X.env.scope.kind==.class||(X.env.scope.kind==.module&&X.env.locals != X.env.globals))=false:=by rw[I.ok.kind];rfl
    refine fP ((hs (.ref ex)).h ae s5 _ _ { nx:=fun σ H=>D.nx (σ.set i none) H,rt:=D.rt,bk:=fun σ H=>D.bk (σ.set i none) H,ct:=fun σ H=>D.ct (σ.set i none) H } I5 ⟨μ'++[ex],_,_,L4,?_⟩) (fun f6 s6 q=>?_) (fun _ _ z=>z.elim)
    ·cases e2:gh (ρ'.set i (some (.loc bp.length))) (bp++[.exc c])with
     |nx ρ2 cP=>rw[e2]at h;exact fun μ3 σ3 H3 p3 x3 r3=>h μ3 (σ3.set i none) H3 (pm.trans p3) (xm.trans x3) ⟨lR i r3.env,r3.sto⟩
     |bk ρ2 cP=>rw[e2]at h;exact fun μ3 σ3 H3 p3 x3 r3=>h μ3 (σ3.set i none) H3 (pm.trans p3) (xm.trans x3) ⟨lR i r3.env,r3.sto⟩
     |ct ρ2 cP=>rw[e2]at h;exact fun μ3 σ3 H3 p3 x3 r3=>h μ3 (σ3.set i none) H3 (pm.trans p3) (xm.trans x3) ⟨lR i r3.env,r3.sto⟩
     |rt w cP=>rw[e2]at h;exact fun μ3 v H3 p3 x3 S3 r3=>h μ3 v H3 (pm.trans p3) (xm.trans x3) S3 r3
     |ex c2 ρ2 cP=>rw[e2]at h;exact h.elim
     |bad=>rw[e2]at h;exact h.elim
    ·cases f6 with
     |next=>
      obtain⟨σ6,H6,I6,q⟩:=q
      have I6':bi X ae σ6 H6 s6:=bi.out I.ok I6
      obtain⟨m,hn,hl⟩:=id I6'.loc
      exact gz hk hn hp fun h7 v hn7 hs7=>⟨_,H6,I6'.unbound hN hi hn hn7 hs7,q⟩
     |brk=>
      obtain⟨σ6,H6,I6,q⟩:=q
      have I6':bi X ae σ6 H6 s6:=bi.out I.ok I6
      obtain⟨m,hn,hl⟩:=id I6'.loc
      exact gz hk hn hp fun h7 v hn7 hs7=>⟨_,H6,I6'.unbound hN hi hn hn7 hs7,q⟩
     |cont=>
      obtain⟨σ6,H6,I6,q⟩:=q
      have I6':bi X ae σ6 H6 s6:=bi.out I.ok I6
      obtain⟨m,hn,hl⟩:=id I6'.loc
      exact gz hk hn hp fun h7 v hn7 hs7=>⟨_,H6,I6'.unbound hN hi hn hn7 hs7,q⟩
     |ret u=>
      obtain⟨v6,σ6,H6,I6,rr,q⟩:=q
      have I6':bi X ae σ6 H6 s6:=bi.out I.ok I6
      obtain⟨m,hn,hl⟩:=id I6'.loc
      exact gz hk hn hp fun h7 v hn7 hs7=>⟨v6,_,H6,I6'.unbound hN hi hn hn7 hs7,rr.up (a8 _),q⟩
   ·exact h.elim
 ·cases f with
  |next=>
   obtain⟨σ',H',I',q⟩:=q
   exact gU ⟨σ',H',bi.tried I.ok I',q⟩
  |brk=>obtain⟨σ',H',I',q⟩:=q;exact⟨σ',H',bi.tried I.ok I',q⟩
  |cont=>obtain⟨σ',H',I',q⟩:=q;exact⟨σ',H',bi.tried I.ok I',q⟩
  |ret u=>obtain⟨v,σ',H',I',rr,q⟩:=q;exact⟨v,σ',H',bi.tried I.ok I',rr,q⟩⟩
section
variable{prog:Program}{w:World}{A:Around}{E:Value->Shared->Prop}{h:Heap}{g:Array GenState}{d:Drawn}{t:Nat}{os:OsState}{a:Addr}{o:Obj}
 {nm q:Str} {C N:Addr} {bs bm:List Value} {hdct:Bool} {sn:List Str} {sub:List Value} {ab:Bool} {col:Option Bool} {dd:Option Addr} {k0 k1 k2 k3 k5:Option Value} {nh:String} {K:Frag}
theorem HA{R:Result->Shared->Prop}(hC:h.get? C=some (excClassObj nm q C N bs bm hdct sn sub ab col dd k0 k1 k2 k3 k5 nh))(T:OwnTail h qg bm)(hx:h.get? a=some o)(hc:o.cls=.ref C)(hq:R (.ok (.ret (.ref C))) ⟨h,g,d,t,os⟩) :
  codeAny (model prog w) A (.call (.builtin "getset_descriptor.__get__") ⟨[.builtin "object.__class__",.ref a,.ref C],[]⟩) R ⟨h,g,d,t,os⟩:=by
 have hT5:(⟨h,g,d,t,os⟩:Shared).TypeIs (.builtin "object.__class__") "getset_descriptor":=iT
 have hcB:(Value.ref C::bm).contains (.type (".".intercalate ("object.__class__".cutAt '.').dropLast))=true:=by
  rw[F.owner_object_class,j_,T.hasType (X:="object") (b:=true) (by decide)]
  rfl
 refine gu F.slot_gs_get.plain F.entry_gs_get (F.slot_gs_get.check _ _ _ _ _ _ _ _ hT5 (F.args_gs_get _ _ _) ?_)
 repeat(any_goals (first|assumption|(with_reducible refine d6 hx ?_;rw[hc])|(with_reducible refine gK hC ?_;rw[hcB])|wp_step))
 refine⟨j7 _ (by decide +kernel),bI F.entry_object_class ?_⟩
 repeat(any_goals (first|assumption|(with_reducible refine d6 hx ?_;rw[hc])|wp_step))
theorem uY{Q:Option Value->Shared->Prop}{x:Str}{r:Option Value}(X:K.In h)(f:findIn K (.ref C) x=some r)(hq:Q r ⟨h,g,d,t,os⟩):wpAny (model prog w) A (typeLookup (.ref C) x) Q E ⟨h,g,d,t,os⟩:=
 PySem.W.looks_findIn X f A Q E _ (fun _ _ z=>z) hq
theorem Bx{tk:Tok}{Q:Fin->Shared->Prop}(X:K.In h)(f2:findIn K (.ref C) "__class__"=some (some (.builtin "object.__class__")))(hC:h.get? C=some (excClassObj nm q C N bs bm hdct sn sub ab col dd k0 k1 k2 k3 k5 nh))(T:OwnTail h qg bm)(hx:h.get? a=some o)(hc:o.cls=.ref C)
  (hq:Q (.done (.ret (.ref C))) ⟨h,g,d,t,os⟩):wpAny (model prog w) A (Builtin.«object.__getattribute__» ⟨[.ref a,.str "__class__" tk],[]⟩) Q E ⟨h,g,d,t,os⟩:=by
 have hT5:(⟨h,g,d,t,os⟩:Shared).TypeIs (.builtin "object.__class__") "getset_descriptor":=iT
 have f5:=iT
 have f6:=F.slot_gs_get.lookup
 have f7:=F.slot_gs_set.lookup
 repeat(any_goals (first|assumption|(with_reducible refine d6 hx ?_;rw[hc])|with_reducible refine uY X f2 ?_|wp_step))
 refine HA hC T hx hc ?_
 repeat(any_goals (first|assumption|wp_step))
theorem By{M:Model}{v:Value}{Q:Unit->Shared->Prop}(hC:h.get? C=some (excClassObj nm q C N bs bm hdct sn sub ab col dd k0 k1 k2 k3 k5 nh))(T:OwnTail h qg bm)(hx:h.get? a=some o)(hc:o.cls=.ref C)(hq:Q () ⟨h,g,d,t,os⟩) :
  wpAny M A (checkBuiltinCall "BaseException.__getattribute__" ⟨[.ref a,v],[]⟩) Q E ⟨h,g,d,t,os⟩:=by
 have hcB:(Value.ref C::bm).contains (.type "BaseException")=true:=by
  rw[j_,T.hasType (X:="BaseException") (b:=true) (by decide)]
  rfl
 have ha:=F.args_bexc_ga (.ref a) v
 have kd:builtinKind "BaseException.__getattribute__"=some .slot:=by decide +kernel
 have sp:splitId "BaseException.__getattribute__"=some ("BaseException","__getattribute__"):=by decide +kernel
 simp only[checkBuiltinCall,kd,sp]
 refine aa ?_
 unfold isInstance
 repeat(first|(with_reducible refine d6 hx ?_;rw[hc])|(with_reducible refine gK hC ?_;rw[hcB])|wp_step)
 exact hq
theorem Ev{tk:Tok}{R:Result->Shared->Prop}(X:K.In h)(f2:findIn K (.ref C) "__class__"=some (some (.builtin "object.__class__")))(hC:h.get? C=some (excClassObj nm q C N bs bm hdct sn sub ab col dd k0 k1 k2 k3 k5 nh))(T:OwnTail h qg bm)(hx:h.get? a=some o)(hc:o.cls=.ref C)
  (hq:R (.ok (.ret (.ref C))) ⟨h,g,d,t,os⟩):codeAny (model prog w) A (.call (.builtin "BaseException.__getattribute__") ⟨[.ref a,.str "__class__" tk],[]⟩) R ⟨h,g,d,t,os⟩:=
 gu F.attrBase_ValueError.ga.plain F.entry_bexc_ga (By hC T hx hc (Bx X f2 hC T hx hc hq))
theorem KD{tk:Tok}{Q:Value->Shared->Prop}(X:K.In h)(f1:findIn K (.ref C) "__getattribute__"=some (some (.builtin "BaseException.__getattribute__")))(f3:findIn K (.ref C) "__getattr__"=some none)(f2:findIn K (.ref C) "__class__"=some (some (.builtin "object.__class__")))
  (hC:h.get? C=some (excClassObj nm q C N bs bm hdct sn sub ab col dd k0 k1 k2 k3 k5 nh)) (T:OwnTail h qg bm) (hx:h.get? a=some o) (hc:o.cls=.ref C) (hq:Q (.ref C) ⟨h,g,d,t,os⟩) :
  wpAny (model prog w) A (getAttrBy (.ref a) (.str "__class__" tk) false) Q E ⟨h,g,d,t,os⟩:=by
 have f4:=F.attrBase_ValueError.ga.bind (.ref a)
 have hx2:(Value.builtin "BaseException.__getattribute__" == Value.builtin "object.__getattribute__")=false:=by decide +kernel
 have hx1:(onTheHeap (Value.ref C)&&Value.builtin "BaseException.__getattribute__" == Value.builtin "object.__getattribute__")=false:=by rw[hx2];rfl
 repeat(any_goals (first|assumption|(with_reducible refine d6 hx ?_;rw[hc])|with_reducible refine uY X f1 ?_|with_reducible refine uY X f3 ?_|wp_step))
 refine Ev X f2 hC T hx hc ?_
 repeat(any_goals (first|assumption|wp_step))
theorem Ew{Q:Option Value->Shared->Prop}(X:K.In h)(f1:findIn K (.ref C) "__getattribute__"=some (some (.builtin "BaseException.__getattribute__")))(f3:findIn K (.ref C) "__getattr__"=some none)(f2:findIn K (.ref C) "__class__"=some (some (.builtin "object.__class__")))
  (hC:h.get? C=some (excClassObj nm q C N bs bm hdct sn sub ab col dd k0 k1 k2 k3 k5 nh)) (T:OwnTail h qg bm) (hx:h.get? a=some o) (hc:o.cls=.ref C) (hq:Q (some (.ref C)) ⟨h,g,d,t+1,os⟩) :
  wpAny (model prog w) A (getAttr? (.ref a) "__class__") Q E ⟨h,g,d,t,os⟩:=by
 unfold getAttr? getAttrBy?
 repeat(any_goals (first|assumption|with_reducible apply KD X f1 f3 f2 hC T hx hc|wp_step))
end
end L2
namespace L2
variable{nk:Nat}
open PySem PySem.Spec PyProof.Rows
structure FK(K:Frag)(C:Addr):Prop where
 ga:findIn K (.ref C) "__getattribute__"=some (some (.builtin "BaseException.__getattribute__"))
 gt:findIn K (.ref C) "__getattr__"=some none
 cl:findIn K (.ref C) "__class__"=some (some (.builtin "object.__class__"))
theorem Bz{K:Frag}{x C:Addr}(q:excIn K C qg sy=true)(n:FK K C):PySem.W.KitX K (.ref x) (.ref C) (fun h=>∃o,h.get? x=some o/\o.cls=.ref C) where
 ty:=fun M h X ⟨o,h1,h2⟩ A Q E s k z=>by
  unfold typeOf
  refine aa (wpAny_loadPart (k _ _ h1) ?_)
  rw[h2]
  exact ai z
 it:=fun M h X _ A Q E s k z=>by
  obtain⟨bm,N,nm,qn,bs,hdct,sn,sub,ab,col,dd,k0,k1,k2,k3,k5,mN,g1,_⟩:=nI X q
  unfold isType loadHead
  exact aa (wpAny_loadPart (k _ _ g1) (ai z))
 ne:=fun h tp dd bv m sl X htp=>by
  obtain⟨bm,N,nm,qn,bs,hdct,sn,sub,ab,col,Gm,k0,k1,k2,k3,k5,mN,g1,_⟩:=nI X q
  refine Bool.eq_false_iff.mpr fun z=>?_
  have e:C=tp:=Value.ref.inj (dv.mp z)
  subst e
  rw[g1]at htp
  have z2:(Value.type "type")=.type "tuple":=eL Obj.cls (be htp)
  exact absurd z2 (by decide)
 ca:=fun{prog w A E Q s} X p z=>by
  obtain⟨o,h1,h2⟩:=p
  obtain⟨bm,N,nm,qn,bs,hdct,sn,sub,ab,col,dd,k0,k1,k2,k3,k5,mN,g1,g2,g3,g4,g5⟩:=nI X q
  obtain⟨h,g,d,t,os⟩:=s
  exact Ew X n.ga n.gt n.cl g1 g4 h1 h2 z
structure qh(K:Frag)(mg:Str->Option Value)(T:Value)(f:Str->Option Bool):Prop where
 h:∀c b,f c=some b->∃C,mg c=some (.ref C)/\excIn K C qg sy=true/\FK K C/\kitOne K (.ref C) T=some b
theorem uu{X:Cx}{T:V}{Tv:Value}(hT:∀(nk:Nat) (u:Value),cN nk T u->u=Tv){f:Str->Option Bool}(hI:qh X.K X.mg Tv f) :
  jg X (.builtin "isinstance") (fun xs H Q=>∃x μ st n c b,xs=[x,T]/\gT X.K X.mg μ st H/\bj X.K μ H (.loc n) x/\st[n]?=some (.exc c)/\f c=some b/\Q (.bl b) H):=by
 intro ae s σ H xs us Q I r h
 obtain⟨x,μ,st,n,c,b,rfl,S,rx,hn,hf,q⟩:=h
 obtain⟨u,u2,rfl,r1,r2⟩:=b7.two r
 obtain rfl:=hT _ u2 r2
 obtain⟨C,hm,hq,hnm,hk⟩:=hI.h c b hf
 obtain⟨a,ha,C',hm',hH⟩:=S.get hn
 obtain⟨a',ha',rfl⟩:=rx.locE
 rw[ha]at ha';cases ha'
 rw[hm]at hm';cases hm'
 cases(show u=Value.ref a from r1)
 obtain⟨⟨o,vs,h1,h2,h3⟩,_⟩:=I.hok a _ hH
 exact up (kia_one (Bz hq hnm) I.kIn ⟨o,h1,h2⟩ hk (fun z=>nomatch z) fun tk hk=>⟨.bl _,H,I.tok tk,rfl,q⟩)
def m9(f:Str->Option Bool)(fa:FE):FE:=fun ρ st=>(fa ρ st).bind fun x st=>match x with
 |.loc n=>(match st[n]? with
  |some (.exc c)=>(match f c with
   |some b=>.ok (.bl b) st
   |none=>.bad)
  |_=>.bad)
 |_=>.bad
section
variable{X:Cx}{a:Expr}{pos p p2:Pos}{fa:FE}
theorem BA{T:V}{f:Str->Option Bool}{t:TE}{e:Expr}(h:PE X e t)(hi:∀σ H Q,(tE X fa) σ H (fun x H1=>∃x' μ st n c b,([x,T]:List V)=[x',T]/\gT X.K X.mg μ st H1/\bj X.K μ H1 (.loc n) x'/\st[n]?=some (.exc c)/\f c=some b/\Q (.bl b) H1)->t σ H Q):SE X e (m9 f fa):=⟨h.imp fun σ H Q z=>by
 refine hi σ H Q ?_
 obtain⟨μ,ρ,st,l,z⟩:=z
 refine⟨μ,ρ,st,l,RK.bind z l fun μ1 st1 x v H1 p1 x1 l1 q1 h1=>?_⟩
 split at h1
 ·rename_i n
  split at h1
  ·rename_i c e1
   split at h1
   ·rename_i b e2
    exact⟨v,μ1,st1,n,c,b,rfl,l1.sto,q1,e1,e2,h1 μ1 _ H1 (aj _) eV.refl l1.sto .bl⟩
   ·exact h1.elim
  ·exact h1.elim
 ·exact h1.elim⟩
theorem pA{xT:Str}{Ta:Addr}{f:Str->Option Bool}(hm:X.mg "isinstance"=none)(hT:X.mg xT=some (.ref Ta))(hI:qh X.K X.mg (.ref Ta) f)(ha:SE X a fa)(hg:Gl X "isinstance":=by rfl)(LP:Gl X xT:=by rfl)(hd:(xT==("__debug__":Str))=false:=by decide)
  (he:starEach [a,.Name xT p2] X.env=(false,eval a X.env)::starEach [.Name xT p2] X.env:=by rfl) (Dv:starEach [.Name xT p2] X.env=(false,eval (.Name xT p2) X.env)::starEach [] X.env:=by rfl) (nS:(backTo pos (starEach [.Name xT p2] X.env)).any (·.1)=false:=by rfl) :
  SE X (.Call (.Name "isinstance" p) [a,.Name xT p2] [] pos) (m9 f fa):=
 BA (T:=.ref Ta) (oS (uu (T:=.ref Ta) (Tv:=.ref Ta) (fun _ _ r=>r) hI) hg hm jv (kj ha.h (kj (DC LP hT (v:=.ref Ta) rfl hd) rH Dv) he) (by decide) (by decide) he nS) fun _ _ _ z=>z
theorem KF{xT:Str}{T:String}{f:Str->Option Bool}(hm:X.mg "isinstance"=none)(hT:X.mg xT=none)(hv:bootBuiltins xT=some (.type T))(hI:qh X.K X.mg (.type T) f)(ha:SE X a fa)(hg:Gl X "isinstance":=by rfl)(LP:Gl X xT:=by rfl)(hn:xT ≠ "__name__":=by decide)(hd:(xT==("__debug__":Str))=false:=by decide)
  (he:starEach [a,.Name xT p2] X.env=(false,eval a X.env)::starEach [.Name xT p2] X.env:=by rfl) (Dv:starEach [.Name xT p2] X.env=(false,eval (.Name xT p2) X.env)::starEach [] X.env:=by rfl) (nS:(backTo pos (starEach [.Name xT p2] X.env)).any (·.1)=false:=by rfl) :
  SE X (.Call (.Name "isinstance" p) [a,.Name xT p2] [] pos) (m9 f fa):=
 BA (T:=.ty T) (oS (uu (T:=.ty T) (Tv:=.type T) (fun _ _ r=>r) hI) hg hm jv (kj ha.h (kj (yp LP hT hv (v:=.ty T) rfl hn hd) rH Dv) he) (by decide) (by decide) he nS) fun _ _ _ z=>z
end
end L2
namespace L2
variable{nk:Nat}
open PySem PySem.Spec PyProof.Rows
section
variable{X:Cx}{a:Expr}{pos p p2:Pos}{fa:FE}{es:List Expr}{k:Nat}
end
end L2
namespace L2
open PySem PySem.Spec PyProof.Rows
section
variable{X:Cx}
end
section
variable{X:Cx}
theorem sB{α:Type}(l:List α):∀(k:Nat) (fk:List α),List.foldl (fun x1 x2=>x1++x2) fk.toArray (List.replicate k l.toArray)=(fk++(List.replicate k l).flatten).toArray
 |0,fk=>by simp
 |k+1,fk=>by
  have e:fk.toArray++l.toArray=(fk++l).toArray:=by simp
  rw[List.replicate_succ,List.foldl_cons,e,sB l k (fk++l),List.replicate_succ,kL,aY]
theorem HB(l:List Nat)(n:Int):Txt.mul (tx l) n=tx (List.replicate n.toNat l).flatten:=by
 unfold Txt.mul
 by_cases h:n<1
 ·rw[am h,show n.toNat=0 by omega];rfl
 ·rw[au h]
  split
  ·rename_i hc
   rw[Bool.or_eq_true,dv,dv,gZ]at hc
   rcases hc with rfl|hc
   ·simp
   ·have:l=[]:=lG.mp hc
    subst this
    simp
  ·have:=sB l n.toNat []
   rw[fZ]at this
   show Str.mk _=Str.mk _
   congr 1
theorem Ey:mR X (binaryOp .Mult) (fun x y H Q=>∃(l:List Nat) (k:Int),x=.str (tx l)/\y=.int k/\-(2^62)<=k/\k<2^62/\l.length*k.toNat<=1000000/\l.length*k.toNat≠1/\Q (.str (tx (List.replicate k.toNat l).flatten)) H):=by
 intro ae s σ H x y v u Q I rx ry h
 obtain⟨l,k,rfl,rfl,h1,h2,h3,h31,q⟩:=h
 obtain⟨t,rfl⟩:=rx
 obtain⟨t',rfl⟩:=ry
 refine up (SB.mul ⟨?_,?_,?_⟩ fun t2 tk hk=>⟨.str _,H,I.tok _,⟨⟨t2,fun e=>absurd e ?_⟩,?_⟩,q⟩)
 ·simp;omega
 ·intro hk hx
  rw[gZ]
  intro hg
  have hk1:1<=k:=by omega
  have:k*((2^63-1)/k)<=2^63-1:=Int.mul_ediv_self_le (by omega)
  have h4:(2^63-1)<k*(l.length:Int):=by
   have:=Int.lt_mul_of_ediv_lt (a:=2^63-1) (b:=(l.length:Int)) (c:=k) (by omega) hg
   rw[Int.mul_comm];exact this
  have h5:k*(l.length:Int)=((l.length*k.toNat:Nat):Int):=by
   rw[Int.natCast_mul,Int.toNat_of_nonneg (by omega),Int.mul_comm]
  rw[h5]at h4
  omega
 ·intro hk hx
  rw[gZ]
  unfold Builtin.Str.tooLong
  rw[aP]
  have:(1000000:Nat)<=sizeLine:=by decide
  omega
 ·rw[gZ];simpa[Nat.mul_comm]using h31
 ·rw[HB]
def ku:W->W->List aq->R W
 |.int i,.int j,st=>if Eh i j then .ok (.int (i*j)) st else .bad
 |.str l,.int k,st=>if -(2^62)<=k/\k<2^62/\l.length*k.toNat<=jQ/\l.length*k.toNat≠1 then .ok (.str (List.replicate k.toNat l).flatten) st else .bad
 |_,_,_=>.bad
theorem lS:rZ X (binaryOp .Mult) ku:=⟨fun ae s σ H x y v u Q I rv ru ⟨μ,st,wx,wy,S,rx,ry,q⟩=>by
 cases wx with
 |int i=>
  cases wy with
  |int j=>
   have q':Au X μ H Q (Kn (.int i) (.int j) st):=q
   exact Kp.h ae s σ H x y v u Q I rv ru ⟨μ,st,.int i,.int j,S,rx,ry,q'⟩
  |_=>exact q.elim
 |str l=>
  cases wy with
  |int k=>
   simp only[ku]at q
   split at q
   ·rename_i cc
    exact Ey ae s σ H x y v u Q I rv ru ⟨l,k,rx.strE,ry.intE,cc.1,cc.2.1,cc.2.2.1,cc.2.2.2,ph S q⟩
   ·exact q.elim
  |_=>exact q.elim
 |_=>cases wy<;>exact q.elim,fun x y st=>by
 unfold ku
 repeat' split
 all_goals trivial⟩
end
structure nZ(k:Nat)(A:Around):Prop where
 dp:A.depth+2*k+5<recursionLimit
 un:A.units+16*k+200<cLine
theorem im.h{k:Nat}{A:Around}(r:im k A)(v:Option Value):nZ k (A.mark v):=⟨r.dp,r.un⟩
theorem nZ.mono{j k:Nat}{A:Around}(r:nZ k A)(h:j<=k):nZ j A:=⟨by have:=r.dp;omega,by have:=r.un;omega⟩
structure n4(P:Program)(w:World)(K:Frag)(mg:Str->Option Value)(base:Heap)(CX:vB)(k:Nat)(f:Addr)(fd:FuncData)(ps:List Str)(sp:Sp):Prop where
 len:∀vs H Q E,sp vs H Q E->vs.length=ps.length
 run:∀(A:Around) (outer:List Env) (s:Shared) (H:Hp) (args:Args) (us:List Value) (vs:List V) (Q:VK) (E:XK),nZ k A->zx P w K mg base A outer s H->0<s.toks->BindsTo s fd args (ps.zip us)->b7 s.toks vs us->sp vs H Q E ->
  codeAny (model P w) A (.call (.ref f) args) (CR CX outer P w H s Q E) s
theorem n4.mono{P:Program}{w:World}{K:Frag}{mg:Str->Option Value}{base:Heap}{CX:vB}{j k:Nat}{f:Addr}{fd:FuncData}{ps:List Str}{sp:Sp}(F:n4 P w K mg base CX j f fd ps sp)(h:j<=k) :
  n4 P w K mg base CX k f fd ps sp:=⟨F.len,fun A outer s H args us vs Q E hr=>F.run A outer s H args us vs Q E (hr.mono h)⟩
abbrev M3(CX:vB)(P:Program)(w:World)(K:Frag)(mg:Str->Option Value)(base:Heap)(N:List Str)(cW:Str)(scope:Scope)(f:Addr)(cd:Value)(A:Around)(outer:List Env)(s:Shared)(H:Hp)(E:XK):Cx:=
 { uJ CX P w K mg base N cW scope f cd A outer s H E with calm:=false }
theorem xH{CX:vB}{P:Program}{w:World}{K:Frag}{mg:Str->Option Value}{base:Heap}{N ps:List Str}{cW:Str}{scope:Scope}{f:Addr}{cd:Value}{A:Around}{outer:List Env}{s s1:Shared}{H:Hp}{E:XK}{us:List Value}{vs:List V}
  (S:ce N ps scope) (e0:zx P w K mg base A outer s H) (hl:vs.length=ps.length) (r:b7 s.toks vs us) (iR:s.toks<=s1.toks) (L0:0<s1.toks)
  (x:InCallC s s.heap.objs.size (bindL (envOfC cW scope s.heap.objs.size f cd).kindOf (ps.zip us) fun _=>none) (cellsFrom (s.heap.objs.size+1) scope.names []) (bindC (envOfC cW scope s.heap.objs.size f cd).kindOf (ps.zip us) fun _=>none) s1) :
  bi (M3 CX P w K mg base N cW scope f cd A outer s H E) [] (jy N vs) H s1:=by
 have I:bi (uJ CX P w K mg base N cW scope f cd { A with handled:=none } outer s H E) [] (jy N vs) H s1:=
  t7 S rfl ⟨e0.frames,e0.mod,e0.bs,e0.bsz,e0.funs,e0.frf,e0.hok,e0.bare⟩ hl r iR L0 x
 have k:=I.ok
 exact⟨⟨k.mod,k.kind,k.glob,k.blt,k.above,k.inj,k.has,k.cab,(fun z=>by cases z),k.frames,k.stk,k.exf,k.bs,k.bsz,k.noex,k.exfs,k.funs,k.frf⟩,I.os,I.bare,I.base,I.loc,I.cell,I.free,I.freeC,I.pin,I.hok,I.len,I.pos,I.tk⟩
theorem NT{CX:vB}{P:Program}{w:World}{K:Frag}{mg:Str->Option Value}{base:Heap}{k:Nat}{f:Addr}{name cW:Str}{params:Arguments}{body:List Stmt}{scope:Scope}{dV kV n9 pm gi ct oc:Value}{an od:Option Addr}
  {Dh:Array (Option Value)} {N ps:List Str} {sp:Sp} (lk:K.lookup f=some ⟨oc,od,.func (fnOf name cW params body scope dV kV n9 pm an gi ct),Dh⟩) (tD:codeIn K gi cW=true) (S:ce N ps scope)
  (len:∀vs H Q E,sp vs H Q E->vs.length=ps.length)
  (pO:∀(A:Around) (outer:List Env) (s:Shared) (H:Hp) (vs:List V) (Q:VK) (E:XK),nZ k (A.deeper (envOfC cW scope s.heap.objs.size f gi))->sp vs H Q E ->
   ∃t,yo (M3 CX P w K mg base N cW scope f gi A outer s H E) body t/\t { nx:=fun _ H'=>Q .non H',rt:=Q } (jy N vs) H) :
  n4 P w K mg base CX (k+1) f (fnOf name cW params body scope dV kV n9 pm an gi ct) ps sp:=
 ⟨len,fun A outer s H args us vs Q E hr e0 hp hb r wW=>by
 have KX:K.In s.heap:=e0.mod.kin.keeps fun b o e=>(e0.bs b o e).1
 have hdep:A.depth<recursionLimit:=by have:=hr.dp;omega
 have hr':nZ k (A.deeper (envOfC cW scope s.heap.objs.size f gi)):=⟨by have:=hr.dp;show A.depth+1+2*k+5<_;omega,by have:=hr.un;show A.units+3+16*k+200<_;omega⟩
 refine mF hdep (KX _ _ lk) rfl S.co S.gen rfl (PySem.W.codeRec_of KX tD) (hb _ _ _ _ (up (jX S.kind (fun y hy=>?_) fun env he s1 x iR=>?_)))
 ·rcases S.par y.1 (jr (show(y.1,y.2)∈_ from hy)).1 with q|q
  ·exact .inl q
  ·exact .inr ⟨q,PySem.W.cellsFrom_some _ _ _ (.inl q)⟩
 subst he
 obtain⟨t,ht,hq⟩:=pO A outer s H vs Q E hr' wW
 refine⟨(e0.mod.nolimit.keeps fun b o e=>(e0.bs b o e).1).keeps x.toInCall.keep,codeAny_func (fP (ht [] s1 _ H _ (xH S e0 (len _ _ _ _ wW) r iR (ay hp iR) x) hq) (fun fl s' hs=>?_) fun e s' hs=>hs)⟩
 match fl,hs with
 |.ret u,hs=>
  obtain⟨v,σ',H',J,rv,q⟩:=hs
  exact⟨v,H',J.os,J.bare,J.base,J.hok,rv,q⟩
 |.next,hs=>
  obtain⟨σ',H',J,q⟩:=hs
  exact⟨.non,H',J.os,J.bare,J.base,J.hok,rfl,q⟩
 |.brk,hs=>obtain⟨_,_,_,q⟩:=hs;exact q.elim
 |.cont,hs=>obtain⟨_,_,_,q⟩:=hs;exact q.elim⟩
structure v0(P:Program)(w:World)(K:Frag)(mg:Str->Option Value)(base:Heap)(k:Nat)(x:Str)(n:Nat)(F:List W->List aq->R W):Prop where
 ex:∃(f:Addr) (fd:FuncData) (ps:List Str),mg x=some (.ref f)/\keepIn K (.ref f)=true/\ps.length=n/\rJ K fd ps []/\n4 P w K mg base (mj P w) k f fd ps (nQ K mg n F)
theorem v0.mono{P:Program}{w:World}{K:Frag}{mg:Str->Option Value}{base:Heap}{j k:Nat}{x:Str}{n:Nat}{F:List W->List aq->R W}(h:v0 P w K mg base j x n F)(hj:j<=k):v0 P w K mg base k x n F:=by
 obtain⟨f,fd,ps,a,b,c,d,e⟩:=h.ex
 exact⟨f,fd,ps,a,b,c,d,e.mono hj⟩
section
variable{X:Cx}
theorem KG{k n:Nat}{f:Addr}{fd:FuncData}{ps:List Str}{F:List W->List aq->R W}{ae:List (Addr×Obj)}{σ:St}{H:Hp}{s:Shared}{Q:VK}{us:List Value}{vs:List V}{μ:List Addr}{st:List aq}{ws:List W}
  (Fn:n4 X.prog X.w X.K X.mg X.base (mj X.prog X.w) k f fd ps (nQ X.K X.mg n F)) (hn:ps.length=n) (hr:nZ k X.A) (hb:rJ X.K fd ps []) (I:bi X ae σ H s) (S:gT X.K X.mg μ st H) (r:RelWs X.K μ H ws vs) (rv:b7 s.toks vs us) (hl:ws.length=n)
  (h:RK X (qU X) μ σ H Q (F ws st)):wpAny (model X.prog X.w) X.A (call (.ref f) us) (EP X ae σ Q) X.xe s:=by
 have hl':(us++([]:List Value)).length=ps.length:=by rw[cI,<- rv.length,<- r.len,hl,hn]
 cases e:F ws st with
 |bad=>rw[e]at h;exact h.elim
 |ok w bp=>
  rw[e]at h
  refine up (j6 (eB (Fn.run X.A X.stack s H ⟨us,[]⟩ us vs Q (fun _ _ _=>False) hr I.env0 I.pos (by have:=hb s us I.kIn hl';rwa[cI]at this) rv ⟨by rw[<- r.len];exact hl,μ,ws,st,S,r,by rw[e];exact h⟩) fun r s' hq=>?_))
  cases r with
  |error e=>obtain⟨_,_,_,_,_,_,z,_⟩:=hq;exact z.elim
  |ok fl=>
   cases fl with
   |ret u=>exact fun kt=>I.after hq kt
   |next=>exact False.elim hq
   |brk=>exact False.elim hq
   |cont=>exact False.elim hq
 |ex c bp=>
  rw[e]at h
  refine up (j6 (eB (Fn.run X.A X.stack s H ⟨us,[]⟩ us vs (fun _ _=>False) (fun C _ H'=>X.mg c=some C/\∃μ',μ <+: μ'/\eV X.K H H'/\gT X.K X.mg μ' bp H') hr I.env0 I.pos (by have:=hb s us I.kIn hl';rwa[cI]at this) rv
   ⟨by rw[<- r.len];exact hl,μ,ws,st,S,r,by rw[e];exact fun C μ' H' hC p x S'=>⟨hC,μ',p,x,S'⟩⟩) fun r s' hq=>?_))
  cases r with
  |ok fl=>
   cases fl with
   |ret u=>obtain⟨_,_,_,_,_,_,_,z⟩:=hq;exact z.elim
   |next=>exact False.elim hq
   |brk=>exact False.elim hq
   |cont=>exact False.elim hq
  |error ev=>
   obtain⟨x,C,t,B,H',rfl,⟨hC,μ',p,xx,S'⟩,os,bare,un,hok,hx,fl,oF⟩:=hq
   intro kt
   have I':bi X ae σ H' s':=I.call' os un hok bare (fun b hb=>absurd hb (by simp)) kt
   refine h ae μ' H' (.ref x) s' p xx S' ⟨I',x,C,t,B,rfl,hC,hx,fl.1,fl.2.1,fl.2.2.1,.inl fl.2.2.2,fun b o ho hrel=>?_⟩
   refine oF b o ho ?_
   rcases hrel with q|⟨⟨o0,h0⟩,hb,hbx⟩|⟨⟨y,hy⟩,hb⟩|⟨pp,hp,rfl⟩
   ·exact .inl q
   ·refine .inr ⟨?_,fun z=>?_⟩
    ·obtain⟨o',q1⟩:=I.base.there b o0 h0 hbx
     exact⟨o',q1⟩
    ·rcases aC.mp (I.stkSub b z)with z|z
     ·rw[z]at h0
      exact absurd (ay (av h0) I.ok.above) (b_ _)
     ·exact hb z
   ·obtain⟨v,ov,hov,_⟩:=I.cell y b hy
    exact .inr ⟨⟨_,hov⟩,hb⟩
   ·obtain⟨g1,g2,g3,g4,_⟩:=I.pin pp hp
    refine .inr ⟨⟨_,g1⟩,fun z=>?_⟩
    rcases aC.mp (I.stkSub _ z)with z|z
    ·exact g3 z
    ·exact g4 z
variable{e:Expr}{es:List Expr}{pos p:Pos}{x:Str}{fs:FA}
theorem HD{k k' n:Nat}{F:List W->List aq->R W}(Fn:v0 X.prog X.w X.K X.mg X.base k x n F)(hr:nZ k' X.A)(hk:k<=k')(ha:SA X (e::es) fs)(hg:Gl X x:=by rfl)(Aq:(x==("__debug__":Str))=false:=by decide)
  (he:starEach (e::es) X.env=(false,eval e X.env)::starEach es X.env:=by rfl) (nS:(backTo pos (starEach es X.env)).any (·.1)=false:=by rfl):SE X (.Call (.Name x p) (e::es) [] pos) (eJ n F fs):=⟨by
 intro ae s σ H Q I h
 obtain⟨f,fd,ps,hm,hkp,hn,hb,Fo⟩:=(Fn.mono hk).ex
 refine cF (nB I hg hm ?_ Aq)
 obtain⟨μ,ρ,st,l,h⟩:=h
 have h':L7 X fs σ H fun vs H1=>∃μ1 st1 ws,Rl X μ1 ρ st1 σ H1/\RelWs X.K μ1 H1 ws vs/\RK X (qU X) μ1 σ H1 Q (if ws.length=n then F ws st1 else .bad):=
  ⟨μ,ρ,st,l,RK.bind h l fun μ1 st1 x v H1 p1 x1 l1 q1 h1=>⟨μ1,st1,x,l1,q1,h1⟩⟩
 refine PySem.W.callWith_K (h₀:=X.base) I.ok.mod.kin hkp (jx (ha.h pos ae s σ H _ I h') fun us s1 kt1 ⟨vs,H1,I1,r,μ1,st1,ws,l1,r1,q⟩=>⟨I1.kIn,?_⟩) he nS
 by_cases c:ws.length=n
 ·rw[am c]at q
  exact KG Fo hn hr hb I1 l1.sto r1 r c q
 ·rw[au c]at q;exact q.elim⟩
end
theorem HE{P:Program}{w:World}{K:Frag}{mg:Str->Option Value}{base:Heap}{x cW:Str}{st:Stmt}{f:Addr}{fd:FuncData}{N ps:List Str}{k n:Nat}{g:FS}(F:nO K x cW st f fd)(S:ce N ps (bg st))(hn:ps.length=n)
  (pO:∀(gi:Value) (A:Around) (outer:List Env) (s:Shared) (H:Hp) (E:XK),nZ k (A.deeper (envOfC cW (bg st) s.heap.objs.size f gi)) ->
   SB (M3 (mj P w) P w K mg base N cW (bg st) f gi A outer s H E) (fM st) g):n4 P w K mg base (mj P w) (k+1) f fd ps (nQ K mg n (fW N.length g)):=by
 obtain⟨oc,od,kV,n9,pm,an,gi,ct,Dh,rfl,lk,tD⟩:=F.ex
 refine NT lk tD S (fun vs H Q E h=>by rw[hn];exact h.1) fun A outer s H vs Q E hr wW=>?_
 obtain⟨hl,μ,ws,Jq,Sr,r,h⟩:=wW
 refine⟨_,(pO gi A outer s H E hr).h,μ,ws.map some++List.replicate (N.length-ws.length) none,Jq,⟨?_,Sr⟩,?_⟩
 ·unfold jy
  rw[<- r.len]
  have base:∀(ws:List W) (vs:List V) (m:Nat),RelWs K μ H ws vs->Paired (fun(o:Option W) (s:Option V)=>∀w,o=some w->∃v,s=some v/\bj K μ H w v) (ws.map some++List.replicate m none) (vs.map some++List.replicate m none):=by
   intro ws
   induction ws with
   |nil=>
    intro vs m r
    rw[r.nilE]
    induction m with
    |zero=>exact .nil
    |succ m ih=>exact .cons (fun w z=>nomatch z) ih
   |cons w ws ih=>
    intro vs m r
    obtain⟨y,ys,rfl,ry,rys⟩:=r.consE
    exact .cons (fun w' z=>⟨y,rfl,by cases z;exact ry⟩) (ih ys m rys)
  exact base ws vs _ r
 ·unfold fW at h
  cases e:g (ws.map some++List.replicate (N.length-ws.length) none) Jq with
  |rt w bp=>
   rw[e]at h
   intro μ' v H' p x S' vw
   obtain⟨μ2,p2,S2,r2⟩:=lj Sr S' p (.consI vw .nilI)
   obtain⟨_,e2,r3⟩:=r2.one
   cases e2
   exact h μ2 v H' p2 x S2 r3
  |nx ρ' bp=>
   rw[e]at h
   intro μ' σ' H' p x l'
   obtain⟨μ2,p2,S2,_⟩:=lj (ws:=[]) (vs:=[]) Sr l'.sto p .nilI
   exact h μ2 .non H' p2 x S2 .non
  |ex c ρ' bp=>
   rw[e]at h
   intro ae μ' σ' H' ev s' p x l' fl
   obtain⟨μ2,p2,S2,_⟩:=lj (ws:=[]) (vs:=[]) Sr l'.sto p .nilI
   exact fl.leaves rfl rfl fl.inv.ok.frames rfl fun C hC=>h C μ2 H' hC p2 x S2
  |bk ρ' bp=>rw[e]at h;exact h.elim
  |ct ρ' bp=>rw[e]at h;exact h.elim
  |bad=>rw[e]at h;exact h.elim
theorem Ez{P:Program}{w:World}{K:Frag}{mg:Str->Option Value}{base:Heap}{k n:Nat}{x:Str}{st:Stmt}{f:Addr}{fd:FuncData}{ps:List Str}{G:List W->List aq->R W}
  (F:nO K x x st f fd) (hm:mg x=some (.ref f)) (hn:ps.length=n)
  (hb:∀(kV n9 pm:Value) (an:Option Addr) (gi ct:Value) (us:List Value),us.length=ps.length->bindArgs (fnOf x x (gR st) (fM st) (bg st) .none kV n9 pm an gi ct) ⟨us,[]⟩=pure (ps.zip us))
  (ok:n4 P w K mg base (mj P w) k f fd ps (nQ K mg n G)):v0 P w K mg base k x n G:=⟨f,fd,ps,hm,F.kp,hn,F.binds hb,ok⟩
section
variable{prog:Program}{w:World}{A:Around}{E:Value->Shared->Prop}{s:Shared}
theorem sD:∀(l:List Nat) (vs:List Value),vs.length=l.length->(∀(j:Nat) (v:Value),vs[j]?=some v->∃c u,l[j]?=some c/\v=.str (tx [c]) u)->StrsAre vs (l.map fun c=>tx [c])
 |[],[],_,_=>.nil
 |c::l,v::vs,hl,h=>by
  obtain⟨d,u,e,rfl⟩:=h 0 v rfl
  cases e
  exact .cons _ _ (sD l vs (Nat.succ.inj hl) fun j v hj=>h (j+1) v hj)
 |[],_::_,hl,_=>nomatch hl
 |_::_,[],hl,_=>nomatch hl
abbrev HF(fk:Array Value)(c:Nat):Obj:={ cls:=.type "list",data:=.seq fk c }
theorem BB{R:Result->Shared->Prop}{I:Addr}{fp wr:List Addr}{n n0:Nat}{P:Nat->Value->Prop}{St:Nat->Heap->Prop}(W:Walks prog w A.in1 I fp wr n P St)(Fa:n<=sizeLine)(D:Addr)(hD:D∉fp)(res:Value)
  (wR:∀i (s:Shared) (Q:Option Value->Shared->Prop) (E:Value->Shared->Prop),n0<=s.toks->i<n->St i s.heap ->
   (∀v h' tk,s.toks<=tk->gN tk [v]->P i v->St (i+1) h'->(∀b o,b∉wr->s.heap.get? b=some o->h'.get? b=some o)->Q (some v) { s with heap:=h',toks:=tk })->wpAny (model prog w) A.in1 (pyNext (.ref I)) Q E s) :
  ∀(m i:Nat) (z:Shared) (zl:Array Value) (c:Nat),i+m=n->n0<=z.toks->St i z.heap->z.heap.get? D=some (HF zl c)->ItemsOf P zl i->gN z.toks zl.toList ->
   (∀g tk got' c',z.toks<=tk->(∀b o,b≠D->b∉wr->z.heap.get? b=some o->g.get? b=some o)->g.get? D=some (HF got' c')->ItemsOf P got' n->gN tk got'.toList->R (.ok (.ret res)) { z with heap:=g,toks:=tk }) ->
   codeAny (model prog w) A (.builtin "list.extend.loop" ⟨[.ref D,.ref I,res],[]⟩) R z:=by
 have nw:D∉wr:=fun h=>hD (W.sub _ h)
 intro m
 induction m with
 |zero=>
  intro i z zl c e hn0 st hd ac ta q
  obtain rfl:i=n:=e
  refine bI PySem.F.entry_extend_loop ?_
  rw[bt PySem.F.plain_extend_loop _]
  show wpAny _ A.in1 (pyNext (.ref I) >>= _) _ _ z
  exact aa (up (W.done z _ _ st fun g tk kp iR=>ai (q g tk zl c iR (fun b o _ hb h=>kp b o hb h) (kp D _ nw hd) ac (ta.up iR))))
 |succ m ih=>
  intro i z zl c e hn0 st hd ac ta q
  refine bI PySem.F.entry_extend_loop ?_
  rw[bt PySem.F.plain_extend_loop _]
  show wpAny _ A.in1 (pyNext (.ref I) >>= _) _ _ z
  refine aa (wR i z _ _ hn0 (by omega) st fun v g tk iR tv hP bp kp=>?_)
  have hd':=kp D _ nw hd
  show wpAny _ A.in1 (updateSeq D (·.push v) >>= _) _ _ _
  refine aa (gW hd' rfl (ai ⟨cL PySem.F.plain_extend_loop _,ih (i+1) _ (zl.push v) _ (by omega) (aA hn0 iR) (W.frame _ _ _ bp fun b hb o h=>?_) (bF _ hd' rfl) (ac.push hP) (fun x t hx=>?_) fun g2 tk2 got2 c2 hle2 kp2 hd2 ac2 ta2=>?_⟩)
   (by rw[ac.1];omega) (by show(zl.push v).size<=sizeLine+1;rw[Array.size_push,ac.1];omega))
  ·exact(bf _ _ (fun h:D=b=>hD (by rw[h];exact hb))).trans h
  ·rw[cB,aZ]at hx
   rcases hx with hx|hx
   ·exact ta.up iR x t hx
   ·exact tv x t hx
  ·exact q g2 tk2 got2 c2 (aA iR hle2) (fun b o hb hw h=>kp2 b o hb hw ((bf _ _ (Ne.symm hb)).trans (kp b o hw h))) hd2 ac2 ta2
theorem uZ{l:List Nat}{t:Tok}{Q:List Value->Shared->Prop}(wP:0<s.toks)(hh:A.handled=none)(Fa:l.length<=sizeLine)
  (q:∀g tk (zl:Array Value),s.toks<=tk->(∀b o,s.heap.get? b=some o->g.get? b=some o)->ItemsOf (SignAt (tx l)) zl (tx l).cps.size->gN tk zl.toList->Q zl.toList { s with heap:=g,toks:=tk }):wpAny (model prog w) A (collect (.str (tx l) t)) Q E s:=by
 have hn:(tx l).cps.size=l.length:=by simp[tx]
 unfold collect
 refine aa (iD (bI jk ?_))
 rw[bt PySem.F.plain_proto_collect _]
 show wpAny _ A.in1 (newList [] >>= fun d=>again (.builtin "list.__iadd__" ⟨[d,.str (tx l) t],[]⟩)) _ _ s
 refine aa (bx (ai ⟨cL PySem.F.plain_list_iadd _,bI lD ?_⟩))
 rw[bt PySem.F.plain_list_iadd _]
 show wpAny _ A.in1 (Builtin.List.listExtendWith (.ref s.heap.objs.size) (.str (tx l) t) (.ref s.heap.objs.size)) _ _ _
 unfold Builtin.List.listExtendWith
 refine aa (fR (T:="str") (v:=.str (tx l) t) rfl ?_)
 have e1:Builtin.List.listSameRef (.ref s.heap.objs.size) (.str (tx l) t)=false:=rfl
 have e2:(Value.type "str" == Value.type "list")=false:=by decide
 have e3:(Value.type "str" == Value.type "tuple")=false:=by decide
 simp only[e1,e2,e3,jd,bY,cA]
 generalize hL:s.heap.objs.size=L
 have gL:(s.heap.push { cls:=.type "list",data:=.seq ([]:List Value).toArray }).get? L=some (HF #[] 0):=by rw[<- hL];exact ar _ rfl
 have z1:(s.heap.push { cls:=.type "list",data:=.seq ([]:List Value).toArray }).objs.size=L+1:=by rw[bh,hL]
 have kp1:∀b o,s.heap.get? b=some o->(s.heap.push { cls:=.type "list",data:=.seq ([]:List Value).toArray }).get? b=some o:=fun b o e=>ag _ e
 generalize s.heap.push { cls:=.type "list",data:=.seq ([]:List Value).toArray }=g1 at gL z1 kp1 ⊢
 have fin:∀(ob:Obj) (ty:String),(∀A:Around,A.handled=none->Walks prog w A (L+1) [L+1] [L+1] (tx l).cps.size (SignAt (tx l)) (fun i h=>h.IsStrIter (L+1) ty (tx l) t i))->(g1.push ob).IsStrIter (L+1) ty (tx l) t 0 ->
   (∀{A:Around} {s:Shared} {i c:Nat} {Q:Option Value->Shared->Prop} {E:Value->Shared->Prop},s.heap.IsStrIter (L+1) ty (tx l) t i->(tx l).cps[i]?=some c ->
    (∀h',h'.IsStrIter (L+1) ty (tx l) t (i+1)->Heap.SameBut (L+1) s.heap h'->Q (some (.str ⟨#[c]⟩ s.toks)) { s with heap:=h',toks:=s.toks+1 })->wpAny (model prog w) A (pyNext (.ref (L+1))) Q E s) ->
   codeAny (model prog w) A (.builtin "list.extend.loop" ⟨[.ref L,.ref (L+1),.ref L],[]⟩) (wants (fun r s'=>wpAny (model prog w) A (match r with|.ref a=>(do match (<- load a).data with|.seq xs _=>pure xs.toList|_=>unsupported "internal:collect")|_=>unsupported "internal:collect") Q E s') E) { s with heap:=g1.push ob }:=fun ob ty W h0 next=>by
  refine BB (n0:=s.toks) (W A.in1 (by simpa using hh)) (by rw[hn];exact Fa) L (by simp) (.ref L) (fun i s' Q E hn0 hi st q=>?_) (tx l).cps.size 0 _ #[] 0 (by omega) (ah _) h0 (ag _ gL) (ItemsOf.nil _) (fun x u hx=>by simp at hx) fun g tk zl c iR kp hd ac ta=>?_
  ·obtain⟨c,hx⟩:∃c,(tx l).cps[i]?=some c:=⟨_,aS hi⟩
   refine next st hx fun h' bp hs=>q _ h' (s'.toks+1) (a8 _) (fun x u hx' _=>?_) ⟨c,_,hx,rfl⟩ bp fun b o hb e=>hs.extBut b o (fun z=>hb (by simp[z])) e
   rw[aG]at hx'
   cases hx'
   exact⟨ay wP hn0,bB _⟩
  ·refine aa (oM hd (ai (q g tk zl iR (fun b o e=>kp b o ?_ ?_ (ag _ (kp1 b o e))) ac ta)))
   ·rw[<- hL];exact aK (av e)
   ·intro hm
    rw[aG]at hm
    have:=av e
    rw[hL,hm]at this
    have this:L+1<L:=this
    omega
 have dP:∀(s':Shared) (Q':Bool->Shared->Prop) (E':Value->Shared->Prop),Q' false s'->wpAny (model prog w) A.in1 (Builtin.List.listLengthHint (.str (tx l) t)) Q' E' s':=fun s' Q' E' y=>by
  unfold Builtin.List.listLengthHint
  refine aa (wpAny_specialOf (T:="str") (v:=.str (tx l) t) rfl PySem.F.str_len ?_)
  wp_delta
  refine aa (gE (T:="str") (v:=.str (tx l) t) (b:=true) rfl (by rw[cH];kernel_rfl) ?_)
  show wpAny _ A.in1 (typeOf (Value.str (tx l) t) >>= _) _ _ _
  exact aa (fR (T:="str") (v:=.str (tx l) t) rfl (ai y))
 have key:∀(ob:Obj),codeAny (model prog w) A (.builtin "list.extend.loop" ⟨[.ref L,.ref (L+1),.ref L],[]⟩) (wants (fun r s'=>wpAny (model prog w) A (match r with|.ref a=>(do match (<- load a).data with|.seq xs _=>pure xs.toList|_=>unsupported "internal:collect")|_=>unsupported "internal:collect") Q E s') E) { s with heap:=g1.push ob }->_:=fun ob h=>h
 cases ha:(tx l).cps.all (· < 128)
 ·refine aa (kH ha (aa (bE (dP _ _ _ ?_))))
  show wpAny _ _ _ _ _ _
  rw[show Shared.heap { s with heap:=g1 }=g1 from rfl,z1]
  rw[au (by decide)]
  exact ai ⟨cL PySem.F.plain_extend_loop _,fin _ "str_iterator" (fun A hA=>Walks.strWide hA _ (tx l) t) ⟨_,by rw[<- z1];exact ar _ rfl,rfl,rfl⟩ fun a b c=>iz a b c⟩
 ·refine aa (jZ ha (aa (bE (dP _ _ _ ?_))))
  rw[show Shared.heap { s with heap:=g1 }=g1 from rfl,z1]
  rw[au (by decide)]
  exact ai ⟨cL PySem.F.plain_extend_loop _,fin _ "str_ascii_iterator" (fun A hA=>Walks.strAscii hA _ (tx l) t) ⟨_,by rw[<- z1];exact ar _ rfl,rfl,rfl⟩ fun a b c=>ii a b c⟩
theorem v3{l:List Nat}{t:Tok}{Q:Value->Shared->Prop}(wP:0<s.toks)(Fa:l.length<64)(hh:A.handled=none)
  (q:∀(s1:Shared) (g1:Heap) (out:Array Value) (ss:List Str) (e:Nat),(∀b o,s.heap.get? b=some o->s1.heap.get? b=some o)->s1.gens=s.gens->s1.drawn=s.drawn->s1.os=s.os->(∀b o,s1.heap.get? b=some o->g1.get? b=some o)->g1.get? s1.heap.objs.size=some (seqObj "list" out e) ->
   s.toks<=s1.toks->gN s1.toks out.toList->StrsAre out.toList ss->ss.Perm (l.map fun c=>tx [c])->sortedS ss=true->Q (.ref s1.heap.objs.size) { s1 with heap:=g1 }):wpAny (model prog w) A (call (.builtin "sorted") [.str (tx l) t]) Q E s:=by
 have hn:(tx l).cps.size=l.length:=by simp[tx]
 apply gG kind_sorted pS pT (pU _)
 show wpAny _ _ (checkCount "sorted" 1 1 _ >>= _) _ _ _
 refine aa (ai (aa (uZ wP (by simpa using hh) (by rw[gr];omega) (fun g tk fk iR kp ha ta=>?_))))
 generalize hs1:({ s with heap:=g,toks:=tk }:Shared)=s1
 have eg:s1.gens=s.gens:=by rw[<- hs1]
 have ed:s1.drawn=s.drawn:=by rw[<- hs1]
 have eo:s1.os=s.os:=by rw[<- hs1]
 have kp:∀b o,s.heap.get? b=some o->s1.heap.get? b=some o:=by rw[<- hs1];exact kp
 have iR:s.toks<=s1.toks:=by rw[<- hs1];exact iR
 have ta:gN s1.toks fk.toList:=by rw[<- hs1];exact ta
 have jq:StrsAre fk.toList (l.map fun c=>tx [c]):=by
  refine sD l _ (by rw[aO,ha.1,hn]) fun j v hj=>?_
  obtain⟨c,u,hc,e⟩:=ha.2 j v (by simpa using hj)
  exact⟨c,u,by simpa[tx]using hc,e⟩
 have hvl:fk.toList.length<64:=by rw[aO,ha.1,hn];exact Fa
 refine aa (k7 ?_ (by rw[gr];omega))
 have oL:(s1.heap.push (seqObj "list" fk.toList.toArray 0)).get? s1.heap.objs.size=some (seqObj "list" fk.toList.toArray 0):=ar _ rfl
 refine aa (bE (bD nv ⟨_,oL,rfl⟩ mx (list_sort_treeK ol oL jq.keysOf (fun a b r e=>pR (by rw[<- e];exact jq)) hvl fun st a1 a2=>⟨_,rfl,?_⟩) (ny _)))
 obtain⟨ss,h1,h2,h3⟩:=nn jq a1 a2
 obtain⟨e,he⟩:=om (out:=(arrOf st).map (·.2)) oL
 refine ai ⟨_,rfl,q s1 _ _ ss e kp eg ed eo (fun b o hb=>?_) he iR (ta.sub (rT a1)) h1 h2 h3⟩
 rw[nz (aK (av hb)) (by rw[bh];exact bz (av hb))]
 exact ag _ hb
end
section
variable{X:Cx}
def oz(ws:List W)(st:List aq):R W:=match ws with
 |[.str l]=>if l.length<64 then .ok (.loc st.length) (st++[.lst ((jh (l.map fun c=>[c])).map W.str)])else .bad
 |[.loc n]=>nH [.loc n] st
 |_=>.bad
theorem yS(hc:X.calm=true:=by rfl):uk X (.builtin "sorted") oz:=⟨fun ae s σ H vs us Q I rv ⟨μ,st,ws,S,r,q⟩=>by
 unfold oz at q
 split at q
 ·rename_i l
  split at q
  ·rename_i c
   obtain⟨y,rfl,ry⟩:=r.one
   have:=ry.strE;subst this
   obtain⟨u,rfl,ru⟩:=oR rv
   obtain⟨t,rfl⟩:=ru
   refine v3 I.pos c (I.ok.hd hc) fun s1 g1 out ss e kp eg ed eo k1 gL iR ta jq hp hsr=>?_
   have es:s1={ s with heap:=s1.heap,toks:=s1.toks }:=by cases s1;cases s;cases eg;cases ed;cases eo;rfl
   generalize s1.heap=g0,s1.toks=tk at es kp k1 gL iR ta ⊢
   subst es
   have I2:bi X ae σ H { s with heap:=g0,toks:=tk }:=I.kept2 (d':=s.drawn) fun b o e=>kp b o e
   have qP:H g0.objs.size=none:=I2.hok.fresh (ah _)
   have hmap:(ss.map fun z=>z.cps.toList).map tx=ss:=by
    rw[bb]
    have:(tx∘fun z:Str=>z.cps.toList)=id:=funext fun z=>yA z
    rw[this,ij]
   have hperm:(ss.map fun z=>z.cps.toList).Perm (l.map fun c=>[c]):=by
    have e:=hp.map fun z:Str=>z.cps.toList
    rw[bb]at e
    exact e
   have ez:(ss.map fun z=>z.cps.toList)=jh (l.map fun c=>[c]):=q_ (su (by rw[hmap];exact hsr)) (sm _) (hperm.trans (gp _).symm)
   have hvals:b7 tk ((jh (l.map fun c=>[c])).map fun l=>V.str (tx l)) out.toList:=by
    have e:=lM jq ta
    rw[<- hmap,ez,bb]at e
    exact e
   refine⟨.ref g0.objs.size,_,I2.laid (o:=.lst ((jh (l.map fun c=>[c])).map fun l=>V.str (tx l))) (t':=tk) k1 (ah _) ⟨?_,out.toList,e,hvals,gL⟩,rfl,?_⟩
   ·rw[az,(gp _).length_eq,az]
    exact aA (dQ c) (by decide)
   ·exact q (μ++[g0.objs.size]) _ _ (bQ _ _) (gH.same (cC qP _)) (S.newLst qP (vY _)) (lP S)
  ·exact q.elim
 ·exact vZ.h ae s σ H _ us Q I rv ⟨μ,st,_,S,r,q⟩
 ·exact q.elim,fun ws st=>by
 unfold oz
 split
 ·split<;>trivial
 ·exact(vZ (X:=X)).n _ _
 ·trivial⟩
end
section
variable{X:Cx}{a b c tg:Expr}{fs:FA}{p pos:Pos}
end
section
variable{X:Cx}{oH tg dq:Expr}{lJ:List Expr}{scope:Scope}{pos:Pos}{nm:List Str}{cap:List (Option Nat)}{fi:FI}{f:FG}{t:FT}{el:FE}
end
section
variable{prog:Program}{w:World}{A:Around}{E:Value->Shared->Prop}{s:Shared}
variable{z P O i j a b:Addr}{n m:Nat}{xs ys:Array Value}{x y u v:Value}
end
open AutoSeq1 (wpAny_loadPart')
section
variable{prog:Program}{w:World}{A:Around}{E:Value->Shared->Prop}{s:Shared}
end
section
variable{X:Cx}{a b:Expr}{fs:FA}{p pos:Pos}
end
open Builtin.Str (tooLong)
section
variable{prog:Program}{w:World}{A:Around}{E:Value->Shared->Prop}{s:Shared}
end
section
variable{X:Cx}
end
section
variable{X:Cx}
def pB:List W->Option (List Int)
 |[]=>some []
 |.int z::ws=>(pB ws).map (z :: ·)
 |_=>none
theorem v5{K:Frag}{μ:List Addr}{H:Hp}:∀{ws:List W} {l:List Int} {vs:List V},pB ws=some l->RelWs K μ H ws vs->vs=l.map V.int
 |[],l,vs,h,r=>by simp only[pB]at h;cases h;exact r.nilE
 |w::ws,l,vs,h,r=>by
  obtain⟨x,xs,rfl,rx,rs⟩:=r.consE
  unfold pB at h
  split at h
  ·rename_i e;cases e
  ·rename_i z Jv e
   cases e
   cases e2:pB ws with
   |none=>rw[e2]at h;cases h
   |some l'=>rw[e2]at h;cases h;rw[rx.intE,v5 e2 rs];rfl
  ·cases h
end
end L2
namespace L2
variable{nk:Nat}
open PySem PySem.Spec PyProof.Rows
section
variable{X:Cx}
theorem zS{α:Type}(l:List α):(sliceRange ((l.length:Int)-1) (-1) (-1)).filterMap (fun j=>l[j]?)=l.reverse:=by
 unfold sliceRange
 have h1:¬ ((-1:Int)>0):=by decide
 simp only[h1,cA]
 have e:(if (l.length:Int)-1 > -1 then((l.length:Int)-1 - -1 - -1-1)/(- -1)else 0).toNat=l.length:=by
  by_cases h:(l.length:Int)-1 > -1
  ·rw[am h];simp
  ·rw[au h];omega
 rw[e]
 have mp:∀k:Nat,k<=l.length->((List.range k).map fun(k:Nat)=>((l.length:Int)-1+-1*(k:Int)).toNat).filterMap (fun j=>l[j]?)=l.reverse.take k:=by
  intro k
  induction k with
  |zero=>intro _;simp
  |succ k ih=>
   intro hk
   rw[List.range_succ,bH,List.filterMap_append,ih (by omega),List.map_singleton]
   have e2:((l.length:Int)-1+-1*(k:Int)).toNat=l.length-1-k:=by omega
   rw[e2,cR]
   have hlt:l.length-1-k<l.length:=by omega
   rw[af hlt,List.filterMap_nil,List.take_succ,iU (by omega),af hlt]
   rfl
 rw[mp l.length (ah _),cf (by simp)]
theorem BC(bv:List Value):slicePick bv.toArray none none (some (-1))=bv.reverse.toArray:=by
 have h:=zS bv
 unfold slicePick
 congr 1
 rw[<- h]
 have:∀j:Nat,(bv.toArray)[j]?=bv[j]?:=fun j=>by simp
 simp only[this]
 show(sliceRange ((bv.toArray.size:Int)-1) (-1) (-1)).filterMap _=_
 simp
theorem b7.rev:∀{xs:List V} {us:List Value},b7 nk xs us->b7 nk xs.reverse us.reverse
 |_,_,.nil=>.nil
 |_,_,.cons r t=>by rw[iH,iH];exact b7.append (b7.rev t) (.cons r .nil)
def KH(K:Frag)(te:TE):TE:=fun σ H Q=>te σ H fun x H1=>∃a xs,x=.ref a/\pW K H1 a xs/\∀p,H1 p=none->Q (.ref p) (gb H1 p (.lst xs.reverse))
theorem EA{e:Expr}{te:TE}{p2 p3 pos:Pos}{j:Nat}{p4:Pos}(he:PE X e te):PE X (.Subscript e (.Slice none none (some (.UnaryOp .USub (.Constant (.int 1) j p4) p3)) p2) pos) (KH X.K te):=by
 intro ae s σ H Q I h
 refine Subscript_ (jx (he ae s σ H _ I h) fun v s1 kt1 ⟨x,H1,I1,r1,q1⟩=>?_)
 obtain⟨a,xs,e,hS,q⟩:=q1
 subst e
 cases r1
 obtain⟨bv,r,ht,hz⟩:=I1.list hS
 have eZ:=r.length
 refine wpAny_Slice ?_
 rw[oh]
 refine ai (ai ?_)
 show wpAny (model X.prog X.w) X.A (eval (.UnaryOp .USub (.Constant (.int 1) j p4) p3) X.env) _ _ s1
 refine UnaryOp_ (wpAny_Constant_int (neg_int ?_))
 dsimp only
 have hl:(s1.heap.push { cls:=.type "slice",data:=.fields #[.none,.none,.int (-1) (s1.toks+1)] }).IsList a bv.toArray:=ht.isList.push _
 refine tail_any (ops:=[.ref a,.ref s1.heap.objs.size]) hl.typeIs slot_list_getitem.lookup ?_ (by with_unfolding_all rfl)
 refine kW (vl:=.none) (vu:=.none) (vs:=.int (-1) (s1.toks+1)) hl ⟨_,ar _ rfl,rfl,rfl⟩ .none .none (.int _ _) (by simp) ?_ (by rw[aR]<;>omega)
 rw[BC]
 have I4:bi X ae σ H1 { s1 with heap:=s1.heap.push { cls:=.type "slice",data:=.fields #[.none,.none,.int (-1) (s1.toks+1)] },toks:=s1.toks+1+1 }:=I1.kept fun b o q=>ag _ q
 refine⟨.ref _,_,I4.laid (o:=.lst xs.reverse) (t':=s1.toks+1+1) (fun b ob q=>ag _ q) (ah _) ?_,rfl,q _ (I4.hok.fresh (ah _))⟩
 exact⟨by rw[fz];exact hz,_,0,b7.up (by omega) r.rev,ar _ rfl⟩
theorem RelWs.rev{K:Frag}{μ:List Addr}{H:Hp}:∀{a:List W} {vs:List V},RelWs K μ H a vs->RelWs K μ H a.reverse vs.reverse
 |[],vs,r=>by rw[r.nilE];exact .nilI
 |x::xs,vs,r=>by
  obtain⟨y,ys,rfl,r1,r2⟩:=r.consE
  rw[iH,iH]
  exact(RelWs.rev r2).app (.consI r1 .nilI)
def v7(fa:FE):FE:=fun ρ st=>(fa ρ st).bind fun x st=>match x with
 |.loc n=>(match lstOf st n with
  |some ws=>kr ws.reverse st
  |none=>.bad)
 |_=>.bad
theorem BD{a:Expr}{fa:FE}{p2 pos p3 p4:Pos}{j:Nat}(ha:SE X a fa):SE X (.Subscript a (.Slice none none (some (.UnaryOp .USub (.Constant (.int 1) j p4) p3)) p2) pos) (v7 fa):=⟨(EA ha.h).imp fun σ H Q h=>by
 obtain⟨μ,ρ,st,l,h⟩:=h
 refine⟨μ,ρ,st,l,RK.bind h l fun μ1 st1 x v H1 p1 x1 l1 q1 h1=>?_⟩
 cases x with
 |loc n=>
  dsimp only at h1
  split at h1
  ·rename_i ys e0
   obtain⟨a,vs,g,hS,r'⟩:=l1.sto.lstOf e0
   obtain⟨b1,f1,rfl⟩:=q1.locE
   rw[g]at f1;cases f1
   exact⟨_,vs,rfl,hS,fun p hp=>(pb l1.sto r'.rev h1).2 p _ hp rfl⟩
  ·exact h1.elim
 |_=>exact h1.elim⟩
end
end L2
namespace L2
variable{nk:Nat}
open PySem PySem.Spec PyProof.Rows
end L2
namespace L2
variable{nk:Nat}
open PySem PySem.Spec PyProof.Rows
abbrev KI:=List W×List (Nat×List W)
abbrev NU:=cn->List aq->R KI
section
variable{X:Cx}{oH tg dq:Expr}{lJ:List Expr}{scope:Scope}{pos:Pos}{nm:List Str}{cap:List (Option Nat)}{fi:NU}{f:FG}{t:FT}{el:FE}{m:Nat}
end
section
variable{X:Cx}{a b:Expr}{fs:FA}{p pos:Pos}
end
end L2
namespace L2
open PySem PySem.Spec PyProof.Rows
section
variable{X:Cx}
end
end L2
namespace L2
variable{nk:Nat}
open PySem PySem.Spec PyProof.Rows
abbrev Nx(X:Cx)(nm:List Str)(scope:Scope)(C:Addr)(s0:Shared)(H0:Hp)(fp:List Addr)(E:Value->Shared->Prop):Cx:={ c_ X nm scope [] C s0 H0 fp with xe:=E }
theorem li.held{X:Cx}{ae:List (Addr×Obj)}{σ:St}{c:Str}{H:Hp}{e:Value}{s:Shared}{Q:Unit->Shared->Prop}{E:Value->Shared->Prop}{M:Model}{Jd:Env}{outer:List Env}{L:Addr}(f:li X ae σ c H e s)
  (jq:X.stack=Jd::outer) (Md:Jd.frame=some L) (N6:X.env.frame=some L) (hA:X.A.frames=some X.stack)
  (h:∀x C t B h',e=.ref x->X.mg c=some C->H x=none->Heap.HeldW B X.stack x C (.ref t) L h'->s.heap.UpToSlots h' ->
   (∀b o,s.heap.get? b=some o->(H b≠none\/((∃o0,X.s₀.heap.get? b=some o0)/\b∉X.fs/\b∉X.ex)\/((∃y,X.env.cells.lookup y=some b)/\b∉mQ X.stack)\/∃p∈X.pn++ae,p.1=b)->B.get? b=some o)->Q () { s with heap:=h' }) :
  wpAny M X.A (noteFrame e Jd) Q E s:=by
 obtain⟨x,C,t,B,rfl,hC,hx,st,nx,ff,tr,oF⟩:=f.ex
 rw[jq]at ff hA
 rcases tr with tr|⟨oe,vs,he,rfl,_,hd,h1,h0⟩|⟨L',hL,tr⟩
 ·exact wpAny_looks_onW hA Md ⟨st,nx,ff,tr⟩ fun h1 hh u1=>h x C t B h1 rfl hC hx (by rw[jq];exact hh) u1 oF
 ·unfold noteFrame
  simp only[Md]
  refine aa (dX he hd h1 ?_)
  rw[au (by decide)]
  refine wpAny_entryW hA ff Md he st nx hd (dy.mp h1).1 h0 fun h' hN=>?_
  obtain⟨k1,k2,k3,k4⟩:=hN
  exact h x _ t B h' rfl hC hx ⟨k1,nx,by rw[jq];exact k2,k3⟩ k4 oF
 ·rw[N6]at hL
  cases hL
  exact iG Md tr (h x C t B s.heap rfl hC hx ⟨st,nx,by rw[jq];exact ff,tr⟩ (Heap.UpToSlots.refl _) oF)
theorem pD{h h2 B B':Heap}:∀{l:List Env},h.FunFrames B l->(∀b∈l.filterMap (·.frame),B'.get? b=none/\∃o,h2.get? b=some o/\∀vs,o.data≠.fields vs)->h2.FunFrames B' l
 |[],_,_=>trivial
 |env::eS,⟨h1,⟨L,o,hL,_⟩,h3⟩,k=>by
  have hm:L∈(env::eS).filterMap (·.frame):=by rw[cR,hL];exact bX ..
  obtain⟨k1,o2,k2,k3⟩:=k L hm
  refine⟨h1,⟨L,o2,hL,k1,k2,k3⟩,pD h3 fun b hb=>k b ?_⟩
  rw[cR,hL];exact aW _ hb
def M4(X:Cx)(σ:St)(XB:Cx):Prop:=∀pinsB σB c H' e s',li XB pinsB σB c H' e s'->(∀ae e' s'',li X ae σ c H' e' s''->X.xe e' s'')->XB.xe e s'
section
variable{X:Cx}{oH tg dq:Expr}{scope:Scope}{pos:Pos}{nm:List Str}{wi:TI}{g:TG}{te:Cx->TE}
theorem EB{ae:List (Addr×Obj)}{σ:St}{H1:Hp}{s2:Shared}{C:Addr}{fp:List Addr}{Q:Value->Shared->Prop}{R:Value->Shared->Prop}(I2:bi X ae σ H1 s2)(jq:X.stack=X.env::X.outer)(qP:X.env.frame=some X.env.locals)(hC:s2.heap.objs.size<=C)(zk:∀b∈fp,qQ X ae H1 b)
  (hR:∀x s'',(∃m,s''.heap.Ns C m/\∀h',Heap.SameBut C s''.heap h'->wpAny (model X.prog X.w) X.A (PySem.passOn "comprehension.variables-let-go" x (compEnvC scope [] C X.env)) Q X.xe { s'' with heap:=h' })->R x s'') :
  M4 X σ (Nx X nm scope C s2 H1 fp (notedBy (model X.prog X.w) X.A (compEnvC scope [] C X.env) R)):=by
 intro pinsB σB c H' e s' f hX
 have IB:=f.inv
 show wpAny (model X.prog X.w) X.A (noteFrame e X.env) (fun _ s''=>R e s'') R s'
 refine li.held (X:=Nx X nm scope C s2 H1 fp (notedBy (model X.prog X.w) X.A (compEnvC scope [] C X.env) R)) f jq qP qP I2.ok.frames fun x Cc t B h1 he hCc hx hh up oF=>?_
 subst he
 obtain⟨mm,Jf,_⟩:=id IB.loc
 have Jf:s'.heap.Ns C mm:=Jf
 refine hR _ _ ⟨mm,up.ns Jf,fun h' hs'=>?_⟩
 obtain⟨k1,k2,k3,oe,vs,T,oT,ts,ho,⟨ym,h0⟩,hd,v1,hnT,hTe,hT,hdT,h3⟩:=hh
 have hCd:∀o,h1.get? C=some o->∀vs,o.data≠.fields vs:=fun o ho vs hv=>by
  obtain⟨o',es,ep,a1,a2,_⟩:=up.ns Jf
  rw[ho]at a1;cases a1
  rw[hv]at a2;cases a2
 have xC:x≠C:=fun z=>hCd oe (z▸ho) vs hd
 have TC:T≠C:=fun z=>hCd oT (z▸hT) ts hdT
 have ho':h'.get? x=some oe:=(hs'.2 x xC).trans ho
 have hT':h'.get? T=some oT:=(hs'.2 T TC).trans hT
 have hsz3:3<ts.size:=(dy.mp h3).1
 unfold PySem.passOn
 refine aa (dX (s:={ s' with heap:=h' }) ho' hd v1 ?_)
 rw[au (show ¬ ((Value.ref T==Value.none)=true)from by simp)]
 unfold setFlight
 refine aa (aa (dX (s:={ s' with heap:=h' }) ho' hd v1 ?_))
 rw[am (show(Value.ref T != Value.none)=true from by simp)]
 refine no (s:={ s' with heap:=h' }) hT' hdT hsz3 (wpAny_throw ?_)
 have hfe:(compEnvC scope [] C X.env).frame=some X.env.locals:=qP
 rw[hfe]
 generalize hh2:h'.update T (Obj.mapFields (·.setIfInBounds 3 ((some X.env.locals).elim Value.none fun f=>rawInt f)))=h2
 have other:∀b,b≠T->h2.get? b=h'.get? b:=fun b hb=>by rw[<- hh2];exact bf _ _ (Ne.symm hb)
 have other2:∀b,b≠T->b≠C->h2.get? b=h1.get? b:=fun b hb hc=>(other b hb).trans (hs'.2 b hc)
 have ofB:∀b o,B.get? b=some o->b≠C->h2.get? b=some o:=fun b o hb hc=>(other2 b (fun z=>by rw[z,hnT]at hb;cases hb) hc).trans (k1 b o hb)
 have upC:∀b o,s'.heap.get? b=some o->(∀vs,o.data≠.fields vs)->b≠C->∃sl,h2.get? b=some { o with slots:=sl }:=fun b o hb hn hc=>by
  obtain⟨sl,q⟩:=up b o hb hn
  exact⟨sl,(other2 b (fun z=>by rw[z,hT]at q;cases q;exact hn ts hdT) hc).trans q⟩
 have oldC:∀b o,s2.heap.get? b=some o->b≠C:=fun b o hb=>aK (ay (av hb) hC)
 have un:Un (mQ X.stack) fp H1 H' s2.heap s'.heap:=IB.base
 have HC:H' C=none:=IB.free
 have keptH:∀b o,s'.heap.get? b=some o->H' b≠none->B.get? b=some o/\h2.get? b=some o:=fun b o hb hn=>by
  have:=oF b o hb (.inl hn)
  exact⟨this,ofB b o this fun z=>hn (z▸HC)⟩
 have kept:∀b o,s'.heap.get? b=some o->(∃o0,s2.heap.get? b=some o0)->b∉mQ X.stack->b∉fp->B.get? b=some o/\h2.get? b=some o:=fun b o hb h0 hf hp=>by
  have:=oF b o hb (.inr (.inl ⟨h0,hf,hp⟩))
  obtain⟨o0,q⟩:=h0
  exact⟨this,ofB b o this (oldC b o0 q)⟩
 have frames:∀b∈mQ X.stack,∀o,s'.heap.get? b=some o->b≠C->∃sl,h2.get? b=some { o with slots:=sl }:=fun b hb o ho hc=>by
  obtain⟨_,o',ho',hd'⟩:=IB.funs.mem hb
  rw[ho]at ho';cases ho'
  exact upC b o ho hd' hc
 have frC:∀b∈mQ X.stack,b≠C:=fun b hb=>by
  obtain⟨_,o,q,_⟩:=I2.stack.mem hb
  exact oldC b o q
 have IX:bi X ae σ H' { s' with heap:=h2 }:=by
  refine I2.call' (ch:=fp) IB.os ⟨fun b o q n hb hx=>?_,fun b o q n hb hx=>?_,fun b o q n hx=>un.free b o q n hx,fun b o q hx=>?_,un.tups,un.frzs,un.tbls⟩ (fun b u hb=>?_) IB.bare (fun b hb=>?_) IB.tk
  ·exact(kept b o (un.keep b o q n hb hx) ⟨o,q⟩ hb hx).2
  ·obtain⟨sl,q1⟩:=un.slot b o q n hb hx
   obtain⟨sl2,q2⟩:=frames b hb _ q1 (oldC b o q)
   exact⟨sl2,q2⟩
  ·obtain⟨o',q1⟩:=un.there b o q hx
   by_cases hb:b∈mQ X.stack
   ·obtain⟨sl2,q2⟩:=frames b hb _ q1 (oldC b o q);exact⟨_,q2⟩
   ·exact⟨o',(kept b o' q1 ⟨o,q⟩ hb hx).2⟩
  ·refine(IB.hok b u hb).stay (fun c v hc q=>(keptH c v q ?_).2) (fun _ q=>q) fun _ _ q=>q
   rcases hc with rfl|hc
   ·rw[hb];simp
   ·rw[hc];simp
  ·obtain⟨_,g1,_,g3,g4,g5⟩:=zk b hb
   exact⟨g3,g1,g4,g5⟩
 have hBx:∀b o,(hideAll B [C]).get? b=some o->B.get? b=some o/\b≠C:=fun b o hb=>⟨of_hideAll _ hb,fun z=>by
  rw[z,PySem.W.hideAll_none [C] (by simp)]at hb;cases hb⟩
 have toB:∀b o,B.get? b=some o->b≠C->(hideAll B [C]).get? b=some o:=fun b o hb hc=>PySem.W.hideAll_get _ hb (by simpa using hc)
 have toN:∀b,B.get? b=none->(hideAll B [C]).get? b=none:=fun b hb=>by
  cases q:(hideAll B [C]).get? b with
  |none=>rfl
  |some o=>rw[(hBx b o q).1]at hb;cases hb
 refine hX ae _ _ ⟨IX,x,Cc,t,hideAll B [C],rfl,hCc,hx,fun b o hb=>ofB b o (hBx b o hb).1 (hBx b o hb).2,toN x k2,?_,.inr (.inr ⟨X.env.locals,qP,?_⟩),fun b o hb hr=>?_⟩
 ·refine pD k3 fun b hb=>?_
  obtain⟨z1,o,z2,z3⟩:=IB.funs.mem hb
  obtain⟨sl,q⟩:=upC b o z2 z3 (frC b hb)
  exact⟨toN b (k3.mem hb).1,_,q,z3⟩
 ·have hT2:=bF (Obj.mapFields (·.setIfInBounds 3 ((some X.env.locals).elim Value.none fun f=>rawInt f))) hT' (mG (g9 hdT _))
  rw[hh2]at hT2
  exact⟨oe,vs,T,_,_,(other x (Ne.symm hTe)).trans ho',⟨ym,h0⟩,hd,v1,toN T hnT,hTe,hT2,g9 hdT _,by simp[hsz3]⟩
 ·-- all that the def knows stood already
  have fin:∀o1,s'.heap.get? b=some o1->B.get? b=some o1/\h2.get? b=some o1->b≠C->(hideAll B [C]).get? b=some o:=fun o1 _ q hc=>by
   have e:some o1=some o:=q.2.symm.trans hb
   cases e
   exact toB b _ q.1 hc
  have inS:∀o0,s2.heap.get? b=some o0->b∉mQ X.stack->b∉fp->(hideAll B [C]).get? b=some o:=fun o0 h0 hf hp=>by
   obtain⟨o',q1⟩:=un.there b o0 h0 hp
   exact fin o' q1 (kept b o' q1 ⟨o0,h0⟩ hf hp) (oldC b o0 h0)
  rcases hr with hr|⟨⟨o0,h0⟩,hf,hbx⟩|⟨⟨y,hy⟩,hf⟩|⟨p,hp,rfl⟩
  ·cases hu:H' b with
   |none=>exact absurd hu hr
   |some u=>
    obtain⟨ob,hob⟩:=(IB.hok b u hu).ex
    exact fin ob hob (keptH b ob hob hr) fun z=>hr (z▸HC)
  ·obtain⟨o1,q1⟩:=I2.base.there b o0 h0 hbx
   refine inS o1 q1 (fun z=>?_) fun z=>?_
   ·rcases aC.mp (I2.stkSub b z)with z|z
    ·rw[z]at h0;exact absurd (ay (av h0) I2.ok.above) (b_ _)
    ·exact hf z
   ·rcases(zk b z).2.2.2.1 with q|q
    ·exact hbx q
    ·exact absurd (av h0) (fx.mpr q)
  ·obtain⟨v,ov,hov,_⟩:=I2.cell y b hy
   exact inS ov hov hf fun z=>(zk b z).2.2.2.2.1 y b hy rfl
  ·obtain⟨p1,_,p3,p4,_⟩:=I2.pin p hp
   refine inS _ p1 (fun z=>?_) fun z=>(zk _ z).2.2.2.2.2 p hp rfl
   rcases aC.mp (I2.stkSub _ z)with z|z
   ·exact p3 z
   ·exact p4 z
def noB(sn:List (Str×NameKind)):Bool:=sn.all fun x=>!(x.2==.cell)&&!(x.2==.free)&&(!(x.2==.local)||sn.lookup x.1==some .local)
end
section
variable{X:Cx}{oH tg dq:Expr}{scope:Scope}{pos:Pos}{nm:List Str}{fi:FI}{f:FG}{el:FE}
end
end L2
namespace L2
variable{nk:Nat}
open PySem PySem.Spec PyProof.Rows
theorem DK.key_inj{a b:DK}:a.key=b.key↔a=b:=by
 cases a<;>cases b<;>simp[DK.key,uO]
def keyOf:W->Option DK
 |.int z=>some (.i z)
 |.str l=>some (.s l)
 |_=>none
theorem yT{K:Frag}{μ:List Addr}{H:Hp}{w:W}{k:DK}{v:V}(h:keyOf w=some k)(r:bj K μ H w v):v=kV k.key:=by
 cases w with
 |int z=>cases h;exact r.intE
 |str l=>cases h;exact r.strE
 |_=>cases h
def lT(kvs:List (DK×W))(k:DK):Option W:=(kvs.find? fun p=>decide (p.1=k)).map fun p=>p.2
def qW(kvs:List (DK×W))(k:DK)(v:W):List (DK×W):=if (kvs.any fun p=>decide (p.1=k))=true then kvs.map fun p=>if p.1=k then(p.1,v)else p else kvs++[(k,v)]
abbrev dV(kvs:List (DK×W))(vs:List V):List (jf×V):=(kvs.map fun p=>p.1.key).zip vs
section
variable{K:Frag}{μ:List Addr}{H:Hp}
theorem BE:∀{kvs:List (DK×W)} {vs:List V} (k:DK),RelWs K μ H (kvs.map fun p=>p.2) vs->(∃w v,lT kvs k=some w/\mS (dV kvs vs) k.key=some v/\bj K μ H w v)\/(lT kvs k=none/\mS (dV kvs vs) k.key=none)
 |[],vs,k,r=>.inr ⟨rfl,rfl⟩
 |p::kvs,vs,k,r=>by
  obtain⟨x,xs,rfl,a,b⟩:=RelWs.consE r
  have ih:=BE (kvs:=kvs) k b
  by_cases h:p.1=k
  ·refine .inl ⟨p.2,x,?_,?_,a⟩
   ·unfold lT;rw[cK];simp[h]
   ·show mS ((p.1.key,x)::dV kvs xs) k.key=some x
    exact oV (by rw[h])
  ·have e1:lT (p::kvs) k=lT kvs k:=by unfold lT;rw[cK];simp[h]
   have e2:mS (dV (p::kvs) (x::xs)) k.key=mS (dV kvs xs) k.key:=oW (p:=(p.1.key,x)) fun z=>h (DK.key_inj.mp z)
   rw[e1,e2];exact ih
theorem BF:∀{kvs:List (DK×W)} {vs:List V} (k:DK),RelWs K μ H (kvs.map fun p=>p.2) vs->((dV kvs vs).any fun kv=>decide (kv.1=k.key))=(kvs.any fun p=>decide (p.1=k))
 |[],vs,k,r=>rfl
 |p::kvs,vs,k,r=>by
  obtain⟨x,xs,rfl,a,b⟩:=RelWs.consE r
  show(decide (p.1.key=k.key)||(dV kvs xs).any _)=(decide (p.1=k)||kvs.any _)
  rw[BF k b]
  congr 1
  rw[decide_eq_decide];exact DK.key_inj
theorem BG{k:DK}{w:W}{v:V}:∀{kvs:List (DK×W)} {vs:List V},RelWs K μ H (kvs.map fun p=>p.2) vs->bj K μ H w v->∃us,(dV kvs vs).map (fun kv=>if kv.1=k.key then(kv.1,v)else kv)=dV (kvs.map fun p=>if p.1=k then(p.1,w)else p) us/\RelWs K μ H ((kvs.map fun p=>if p.1=k then(p.1,w)else p).map fun p=>p.2) us
 |[],vs,r,vw=>⟨[],rfl,.nilI⟩
 |p::kvs,vs,r,vw=>by
  obtain⟨x,xs,rfl,a,b⟩:=RelWs.consE r
  obtain⟨us,e,q⟩:=BG (k:=k) b vw
  by_cases h:p.1=k
  ·refine⟨v::us,?_,?_⟩
   ·show(if p.1.key=k.key then(p.1.key,v)else(p.1.key,x))::(dV kvs xs).map _=_
    rw[am (by rw[h]),e,a7,am h];rfl
   ·rw[a7,am h];exact .consI vw q
  ·refine⟨x::us,?_,?_⟩
   ·show(if p.1.key=k.key then(p.1.key,v)else(p.1.key,x))::(dV kvs xs).map _=_
    rw[au (fun z=>h (DK.key_inj.mp z)),e,a7,au h];rfl
   ·rw[a7,au h];exact .consI a q
theorem HG{kvs:List (DK×W)}{vs:List V}{k:DK}{w:W}{v:V}(r:RelWs K μ H (kvs.map fun p=>p.2) vs)(vw:bj K μ H w v):∃us,pZ (dV kvs vs) k.key v=dV (qW kvs k w) us/\RelWs K μ H ((qW kvs k w).map fun p=>p.2) us:=by
 unfold pZ qW
 rw[BF k r]
 by_cases h:(kvs.any fun p=>decide (p.1=k))=true
 ·rw[am h,am h]
  exact BG r vw
 ·rw[au h,au h]
  refine⟨vs++[v],?_,?_⟩
  ·unfold dV
   rw[bH,List.zip_append (by rw[az,<- r.len,az])];rfl
  ·rw[bH];exact r.app (.consI vw .nilI)
theorem HH{kvs:List (DK×W)}{vs:List V}(r:RelWs K μ H (kvs.map fun p=>p.2) vs):(dV kvs vs).length=kvs.length:=by
 unfold dV;rw[List.length_zip,az,<- r.len,az,Nat.min_self]
theorem gH.butD{l:Addr}{xs:List (jf×V)}{H':Hp}(e:MO l H H')(hl:H l=some (.dK xs)):eV K H H':=by
 have yn:∀{p:Addr} {o:HO},H p=some o->(∀zs,o≠.dK zs)->p≠l:=fun{p o} q hn z=>by subst z;rw[hl]at q;cases q;exact hn _ rfl
 refine⟨fun p ys h=>?_,fun b o u h=>e _ _ (yn h (fun _ z=>by cases z)) h⟩
 rcases h with(h|⟨o,h⟩)|h
 ·exact .inl (.inl (e _ _ (yn h (fun _ z=>by cases z)) h))
 ·exact .inl (.inr ⟨o,e _ _ (yn h (fun _ z=>by cases z)) h⟩)
 ·exact .inr h
end
theorem gT.setD{K:Frag}{mg:Str->Option Value}{μ:List Addr}{st:List aq}{H:Hp}(S:gT K mg μ st H){n:Nat}{a:Addr}{kvs I_:List (DK×W)}{xs:List (jf×V)}{us:List V}(hn:st[n]?=some (.dct kvs))(hm:μ[n]?=some a)(ha:H a=some (.dK xs))(hr:RelWs K μ H (I_.map fun p=>p.2) us) :
  gT K mg μ (st.set n (.dct I_)) (gb H a (.dK (dV I_ us))):=
 S.setG hn rfl hm ha (fun _ _ z=>by cases z) (fun _ z=>by cases z) (gH.butD nD ha) rfl ⟨us,gm,hr.mono (aj _) (gH.butD nD ha)⟩
def uv(st:List aq):W->Option (Nat×List (DK×W))
 |.loc n=>(match st[n]? with
  |some (.dct kvs)=>some (n,kvs)
  |some (.rod kvs)=>some (n,kvs)
  |_=>none)
 |_=>none
def zT(st:List aq):W->Option (Nat×List (DK×W))
 |.loc n=>(match st[n]? with
  |some (.dct kvs)=>some (n,kvs)
  |_=>none)
 |_=>none
theorem BH{K:Frag}{mg:Str->Option Value}{μ:List Addr}{st:List aq}{H:Hp}(S:gT K mg μ st H){x:W}{v:V}{n:Nat}{kvs:List (DK×W)}(h:uv st x=some (n,kvs))(r:bj K μ H x v) :
  ∃a vs,(st[n]?=some (.dct kvs)\/st[n]?=some (.rod kvs))/\μ[n]?=some a/\v=.ref a/\Rd H a (.dK (dV kvs vs))/\RelWs K μ H (kvs.map fun p=>p.2) vs:=by
 cases x with
 |loc m=>
  simp only[uv]at h
  cases e:st[m]? with
  |none=>rw[e]at h;cases h
  |some c=>
   rw[e]at h
   cases c with
   |dct z=>
    cases h
    obtain⟨a,g,vs,k,rr⟩:=S.get e
    obtain⟨b,f,rfl⟩:=r.locE
    rw[g]at f;cases f
    exact⟨a,vs,.inl e,g,rfl,.inl k,rr⟩
   |rod z=>
    cases h
    obtain⟨a,g,vs,o,k,rr⟩:=S.get e
    obtain⟨b,f,rfl⟩:=r.locE
    rw[g]at f;cases f
    exact⟨a,vs,.inr e,g,rfl,.inr ⟨o,k⟩,rr⟩
   |_=>cases h
 |_=>cases h
theorem EC{K:Frag}{mg:Str->Option Value}{μ:List Addr}{st:List aq}{H:Hp}(S:gT K mg μ st H){x:W}{v:V}{n:Nat}{kvs:List (DK×W)}(h:zT st x=some (n,kvs))(r:bj K μ H x v) :
  ∃a vs,st[n]?=some (.dct kvs)/\μ[n]?=some a/\v=.ref a/\H a=some (.dK (dV kvs vs))/\RelWs K μ H (kvs.map fun p=>p.2) vs:=by
 cases x with
 |loc m=>
  simp only[zT]at h
  cases e:st[m]? with
  |none=>rw[e]at h;cases h
  |some c=>
   rw[e]at h
   cases c with
   |dct z=>
    cases h
    obtain⟨a,g,vs,k,rr⟩:=S.get e
    obtain⟨b,f,rfl⟩:=r.locE
    rw[g]at f;cases f
    exact⟨a,vs,e,g,rfl,k,rr⟩
   |_=>cases h
 |_=>cases h
theorem D2.r{H:Hp}{a:Addr}{kvs:List (jf×V)}{k:jf}(e:Rd H a (.dK kvs)):D2 H a (kV k) (mS kvs k):=.inl ⟨kvs,k,e,rfl,rfl⟩
section
variable{X:Cx}{a b c d e o i:Expr}{es:List Expr}{pos p p2 jp iy dZ:Pos}{x name:Str}{fa fb fc fe fo fi:FE}{fs:FA}{kk:Nat}
def zU(Gq:Bool)(x y:W)(st:List aq):R W:=match uv st y with
 |some (_,kvs)=>(match keyOf x with
  |some k=>.ok (.bl (if Gq then !(lT kvs k).isSome else(lT kvs k).isSome)) st
  |none=>.bad)
 |none=>xy Gq x y st
theorem zV{K:Frag}{μ:List Addr}{H:Hp}{kvs:List (DK×W)}{vs:List V}{k:DK}(r:RelWs K μ H (kvs.map fun p=>p.2) vs):(mS (dV kvs vs) k.key).isSome=(lT kvs k).isSome:=by
 rcases BE k r with⟨w,v,e1,e2,_⟩|⟨e1,e2⟩<;>rw[e1,e2]<;>rfl
theorem KJ(hr:im kk X.A)(ho:rZ X (compareOp .In) (xy false)):rZ X (compareOp .In) (zU false):=⟨fun ae s σ H x y v u Q I rv ru ⟨μ,st,wx,wy,S,rx,ry,q⟩=>by
 unfold zU at q
 cases e:uv st wy with
 |none=>rw[e]at q;exact ho.h ae s σ H x y v u Q I rv ru ⟨μ,st,wx,wy,S,rx,ry,q⟩
 |some nk=>
  obtain⟨n,kvs⟩:=nk
  rw[e]at q
  cases ek:keyOf wx with
  |none=>simp only[ek]at q;exact q.elim
  |some k=>
   simp only[ek]at q
   obtain⟨a,vs,_,_,rfl,ha,r⟩:=BH S e ry
   have:=yT ek rx
   subst this
   obtain rfl:u=Value.ref a:=ru
   refine MH (Fk hr) I (D2.r ha) rv fun s' I'=>?_
   rw[zV r]
   exact⟨.bl _,H,I',rfl,lQ S q⟩,fun x y st=>by
 unfold zU
 split
 ·split<;>trivial
 ·exact ho.n x y st⟩
def v8(x i v:W)(st:List aq):Option (List aq):=match zT st x,keyOf i with
 |some (n,kvs),some k=>if kvs.length<jQ then some (st.set n (.dct (qW kvs k v)))else none
 |_,_=>none
theorem HI(hr:im kk X.A):GK X (Fy X v8):=fun ae s σ H o i v ov iv u Q I r1 r2 r3 ⟨μ,st,wo,wi,wv,bp,S,ro,ri,rv,e,q⟩=>by
 unfold v8 at e
 cases e1:zT st wo with
 |none=>rw[e1]at e;cases e
 |some nk=>
  obtain⟨n,kvs⟩:=nk
  cases e2:keyOf wi with
  |none=>rw[e1,e2]at e;cases e
  |some k=>
   rw[e1,e2]at e
   simp only at e
   split at e
   ·rename_i hl
    cases e
    obtain⟨a,vs,hn,hm,rfl,ha,r⟩:=EC S e1 ro
    have:=yT e2 ri
    subst this
    obtain rfl:ov=Value.ref a:=r1
    obtain⟨us,g1,g2⟩:=HG (k:=k) r rv
    refine zB (Fk hr) I (D3.k ha (by rw[HH r];exact ay hl (by decide))) r2 r3 fun s' I'=>⟨_,I',?_⟩
    rw[g1]
    exact q _ (gH.butD nD ha) (S.setD hn hm ha g2)
   ·cases e
def FL:FE:=fun _ st=>.ok (.loc st.length) (st++[.dct []])
theorem HJ:SE X (.Dict [] [] pos) FL:=⟨AS.imp fun σ H Q h=>by
 obtain⟨μ,ρ,st,l,h⟩:=h
 intro p hp
 have hs:nP H (gb H p (.dK [])):=cC hp _
 exact h (μ++[p]) (.ref p) _ (bQ _ _) (gH.same hs) (l.sto.push (c:=.dct []) hp ⟨[],gm,.nilI⟩) (lP l.sto)⟩
end
end L2
namespace L2
open PySem PySem.Spec PyProof.Rows
section
variable{X:Cx}{x y:Str}{a b:Expr}{fs:FA}{pos:Pos}
end
inductive DefIn(K:Frag)(x:Str)(st:Stmt):Prop
 |mk {ad:Addr} {od an:Option Addr} {sl:Array (Option Value)} {oc kV dc pm cd ct:Value} (a:nsIn K mainGlobals x=some (some (.ref ad)))
   (l:K.lookup ad=some ⟨oc,od,.func (fnOf x x (gR st) (fM st) (bg st) .none kV dc pm an cd ct),sl⟩) (c:codeIn K cd x=true) (k:keepIn K (.ref ad)=true):DefIn K x st
theorem DefIn.fn{K:Frag}{x:Str}{st:Stmt}{h:Heap}{mg:Str->Option Value}(d:DefIn K x st)(X:K.In h)(G:h.Ns mainGlobals mg):∃f fd,nO K x x st f fd/\mg x=some (.ref f):=by
 obtain⟨a,l,c,k⟩:=d
 exact⟨_,_,AO (st:=st) l c k,mg_of X G a⟩
theorem KL{n:Nat}{l:List Value}(h:l.length=n+1):∃a t,l=a::t/\t.length=n:=by
 cases l with
 |nil=>cases h
 |cons a t=>exact⟨a,t,rfl,Nat.succ.inj h⟩
theorem M5{l:List Value}(h:l.length=1):∃a,l=[a]:=fQ.mp h
theorem M6{l:List Value}(h:l.length=2):∃a b,l=[a,b]:=by obtain⟨a,t,rfl,k⟩:=KL h;obtain⟨b,rfl⟩:=M5 k;exact⟨a,b,rfl⟩
theorem M7{l:List Value}(h:l.length=3):∃a b c,l=[a,b,c]:=by obtain⟨a,t,rfl,k⟩:=KL h;obtain⟨b,c,rfl⟩:=M6 k;exact⟨a,b,c,rfl⟩
theorem M8{l:List Value}(h:l.length=4):∃a b c d,l=[a,b,c,d]:=by obtain⟨a,t,rfl,k⟩:=KL h;obtain⟨b,c,d,rfl⟩:=M7 k;exact⟨a,b,c,d,rfl⟩
theorem M9{l:List Value}(h:l.length=5):∃a b c d e,l=[a,b,c,d,e]:=by obtain⟨a,t,rfl,k⟩:=KL h;obtain⟨b,c,d,e,rfl⟩:=M8 k;exact⟨a,b,c,d,e,rfl⟩
theorem Ny{l:List Value}(h:l.length=6):∃a b c d e f,l=[a,b,c,d,e,f]:=by obtain⟨a,t,rfl,k⟩:=KL h;obtain⟨b,c,d,e,f,rfl⟩:=M9 k;exact⟨a,b,c,d,e,f,rfl⟩
section
variable{P:Program}{w:World}{K:Frag}{mg:Str->Option Value}{base:Heap}{k n:Nat}{x:Str}{st:Stmt}{f:Addr}{fd:FuncData}{ps:List Str}{G:List W->List aq->R W}
theorem gq(F:nO K x x st f fd)(hm:mg x=some (.ref f))(ok:gk P w K mg base (mj P w) k f fd ps (nQ K mg n G))(hn:ps.length=n:=by rfl)
  (hb:∀(kV n9 pm:Value) (an:Option Addr) (gi ct:Value) (us:List Value),us.length=ps.length->bindArgs (fnOf x x (gR st) (fM st) (bg st) .none kV n9 pm an gi ct) ⟨us,[]⟩=pure (ps.zip us):=by(intro _ _ _ _ _ _ _ q;first|(obtain⟨_,rfl⟩:=M5 q;rfl)|(obtain⟨_,_,rfl⟩:=M6 q;rfl)|(obtain⟨_,_,_,rfl⟩:=M7 q;rfl)|(obtain⟨_,_,_,_,rfl⟩:=M8 q;rfl)|(obtain⟨_,_,_,_,_,rfl⟩:=M9 q;rfl)|(obtain⟨_,_,_,_,_,_,rfl⟩:=Ny q;rfl))):et P w K mg base k x n G:=q5 F hm hn hb ok
theorem HK(F:nO K x x st f fd)(hm:mg x=some (.ref f))(ok:n4 P w K mg base (mj P w) k f fd ps (nQ K mg n G))(hn:ps.length=n:=by rfl)
  (hb:∀(kV n9 pm:Value) (an:Option Addr) (gi ct:Value) (us:List Value),us.length=ps.length->bindArgs (fnOf x x (gR st) (fM st) (bg st) .none kV n9 pm an gi ct) ⟨us,[]⟩=pure (ps.zip us):=by(intro _ _ _ _ _ _ _ q;first|(obtain⟨_,rfl⟩:=M5 q;rfl)|(obtain⟨_,_,rfl⟩:=M6 q;rfl)|(obtain⟨_,_,_,rfl⟩:=M7 q;rfl)|(obtain⟨_,_,_,_,rfl⟩:=M8 q;rfl)|(obtain⟨_,_,_,_,_,rfl⟩:=M9 q;rfl)|(obtain⟨_,_,_,_,_,_,rfl⟩:=Ny q;rfl))):v0 P w K mg base k x n G:=Ez F hm hn hb ok
end
section
variable{X:Cx}{e:Expr}{pos:Pos}{x:Str}{fe:FE}{ps:List Str}{sp scope:Scope}
theorem tO{N:List Str}(a:sp.kind=.function:=by rfl)(b:sp.isCoroutine=false:=by rfl)(c:sp.isGenerator=false:=by rfl)(d:N.Nodup:=by decide +kernel)(f:N.take ps.length=ps:=by rfl)(g:∀x∈ps,sp.names.lookup x=some .local\/sp.names.lookup x=some .cell:=by decide +kernel)(h:∀y∈sp.names,y.2≠.free:=by decide +kernel):ce N ps sp:=⟨a,b,c,d,f,g,h⟩
theorem sS(i:Nat){jp:Pos}(sc:ce X.N ps sp)(he:SE X e fe)(hi:X.N[i]?=some x:=by rfl)(hx:Dp X.env.scope x:=by first|exact .inl rfl|exact .inr rfl)(hs:swapsWith e (some (.Name x jp)) pos.line X.env=pure false:=by rfl)(hf:X.fn x=true\/X.env.scope.names.lookup x=some .local:=by first|exact .inl rfl|exact .inr rfl|assumption) :
  SS X (.Assign [.Name x jp] e pos) (dH i fe):=Hr sc.nd hi hx he hs hf
theorem sG(i:Nat)(sc:ce X.N ps sp)(hi:X.N[i]?=some x:=by rfl)(hx:Dp X.env.scope x:=by first|exact .inl rfl|exact .inr rfl)(hf:X.fn x=true\/X.env.scope.names.lookup x=some .local:=by first|exact .inl rfl|exact .inr rfl|assumption):SG X (.Name x pos) (m6 i):=yM sc.nd hi hx hf
theorem sC{nm:List Str}{cl:List (Str×Addr)}{C s0 H0 fp}(i:Nat)(hN:nm.Nodup:=by decide +kernel)(hi:nm[i]?=some x:=by rfl)(hx:Dp (c_ X nm scope cl C s0 H0 fp).env.scope x:=by first|exact .inl rfl|exact .inr rfl)(hf:(c_ X nm scope cl C s0 H0 fp).fn x=true\/(c_ X nm scope cl C s0 H0 fp).env.scope.names.lookup x=some .local:=by first|exact .inl rfl|exact .inr rfl|assumption) :
  SG (c_ X nm scope cl C s0 H0 fp) (.Name x pos) (m6 i):=yM (X:=c_ X nm scope cl C s0 H0 fp) hN hi hx hf
end
section
variable{X:Cx}{oH tg dq:Expr}{lJ:List Expr}{scope:Scope}{pos:Pos}{cap:List (Option Nat)}{fi:FI}{f:FG}{t:FT}{el:FE}{m:Nat}
end
section
variable{X:Cx}
end
section
variable{X:Cx}{kk:Nat}
end
section
variable{X:Cx}
theorem BI:jg X (.type "range") (fun xs H Q=>∃j:Int,xs=[.int j]/\∀l,H l=none->Q (.ref l) (gb H l (.rng 0 j))):=by
 intro ae s σ H xs us Q I r h
 obtain⟨j,rfl,q⟩:=h
 obtain⟨u,rfl,rx⟩:=oR r
 obtain⟨t,rfl⟩:=rx
 exact call_range_1 ⟨.ref s.heap.objs.size,_,I.laid (fun b o e=>ag _ e) (ah _) (show dS X.prog X.w _ _ _ _ (.rng 0 j)from⟨_,_,_,ar _ rfl⟩),rfl,q _ (I.hok.fresh (ah _))⟩
theorem xI(hh:X.A.handled=none):jg X (.type "list") (fun xs H Q=>∃(p:Addr) (n:Nat),xs=[.ref p]/\H p=some (.rng 0 n)/\n<=1000000/\∀l,H l=none->Q (.ref l) (gb H l (.lst ((List.range n).map fun i:Nat=>V.int (i:Int))))):=by
 intro ae s σ H xs us Q I r h
 obtain⟨p,n,rfl,hp,hn,q⟩:=h
 obtain⟨u,rfl,rx⟩:=oR r
 cases rx
 obtain⟨t,u,v,ho⟩:=(show dS X.prog X.w s.toks H s.heap p (.rng 0 n)from I.hok p _ hp)
 have hsz:Builtin.Range.rangeSize 0 (n:Int) 1=(n:Int):=by
  rw[rangeSize_one]
  split<;>omega
 refine up (call_list_range hh ho (small_one (by omega) (by omega) (by omega) (by omega)) hsz (aA hn (by decide)) fun h' tk fk c hk hS hacc ht=>?_)
 obtain⟨ND,ha2⟩:=hacc
 refine⟨.ref s.heap.objs.size,_,I.laid (t':=tk) hk (ah _) (show dS X.prog X.w tk _ h' _ (.lst ((List.range n).map fun i:Nat=>V.int (i:Int)))from⟨by rw[az,dw];exact aA hn (by decide),fk.toList,c,?_,by rw[hS]⟩),rfl,q _ (I.hok.fresh (ah _))⟩
 obtain⟨l⟩:=fk
 have hl:l.length=n:=ND
 have key:∀(k:Nat) (l:List Value),(∀j v,l[j]?=some v->∃t,v=Value.int (((k+j:Nat):Int)) t)->b7 tk ((List.range' k l.length).map fun i:Nat=>V.int (i:Int)) l:=by
  intro k l
  induction l generalizing k with
  |nil=>intro;exact .nil
  |cons a r ih=>
   intro h
   refine .cons (h 0 a rfl) (ih (k+1) fun j v e=>?_)
   have:=h (j+1) v e
   rw[show k+1+j=k+(j+1) by omega]
   exact this
 have:=key 0 l fun j v e=>by
  obtain⟨t,e⟩:=ha2 j v (by simpa using e)
  exact⟨t,by rw[e];congr 1;omega⟩
 rw[hl,<- List.range_eq_range']at this
 exact this
def sE(ws:List W)(st:List aq):R W:=match ws with
 |[.int q]=>if 0<=q/\q<=1000000 then .ok (.loc st.length) (st++[.lst (dh 0 q.toNat)])else .bad
 |_=>.bad
theorem zW{K:Frag}{μ:List Addr}{H:Hp}(n:Nat):RelWs K μ H (dh 0 n) ((List.range n).map fun i:Nat=>V.int (i:Int)):=by
 unfold dh
 generalize List.range n=l
 induction l with
 |nil=>exact .nilI
 |cons a r ih=>
  refine .consI ?_ ih
  show bj K μ H (.int (0+(a:Int))) (.int (a:Int))
  rw[jJ]
  exact .int
theorem ED{a:Expr}{fs:FA}{p p2 pos qy:Pos}{kk:Nat}(hr:im kk X.A)(hl:X.mg "list"=none)(hm:X.mg "range"=none)(ha:SA X [a] fs)(hg:Gl X "list":=by rfl)(Fb:Gl X "range":=by rfl)
  (he:starEach [a] X.env=[(false,eval a X.env)]:=by rfl) (Dv:starEach [Expr.Call (.Name "range" p2) [a] [] qy] X.env=[(false,eval (.Call (.Name "range" p2) [a] [] qy) X.env)]:=by rfl) :
  SE X (.Call (.Name "list" p) [.Call (.Name "range" p2) [a] [] qy] [] pos) (cT sE fs):=⟨(pX (xI hr.hd) hg hl boot_list (kj (pX BI Fb hm boot_range ha.h (by decide) (by decide) he rfl) rH Dv) (by decide) (by decide) Dv rfl).imp fun σ H Q h=>by
 obtain⟨μ,ρ,st,l,h⟩:=h
 refine⟨μ,ρ,st,l,RK.bind h l fun μ1 st1 x v H1 p1 x1 l1 q1 h1=>?_⟩
 unfold sE at h1
 split at h1
 ·rename_i q
  obtain⟨y,rfl,ry⟩:=q1.one
  split at h1
  ·rename_i c
   refine⟨q,by rw[ry.intE],fun l0 hl0=>⟨l0,q.toNat,rfl,?_,by omega,fun l2 hl2=>?_⟩⟩
   ·unfold gb;rw[am rfl,Int.toNat_of_nonneg c.1]
   ·have S':=l1.sto.same (cC hl0 (.rng 0 q))
    exact h1 (μ1++[l2]) _ _ (bQ _ _) (gH.same fun b u z=>cC hl2 _ b u (cC hl0 _ b u z)) (S'.newLst hl2 (zW _)) (lP S')
  ·exact h1.elim
 ·exact h1.elim⟩
end
end L2
namespace TS
open PySem PyProof.Rows
def Aw(κ:KeyKind)(kd:SortKind)(prog:Program)(w:World)(s:Shared):Prop:=∀(A:Around) (E:Value->Shared->Prop) (p q:Keyed) (a b:κ.α) (z:SortSt) {Q:Option Bool->SortSt->Prop},
 κ.keyOf p.1=some a->κ.keyOf q.1=some b->kindOf z=kd->Q (some (κ.blt a b)) z->wpS (model prog w) A E s (lt' p q) Q z
theorem ltK_one{κ:KeyKind}{prog:Program}{w:World}{s:Shared}(h:κ.OneLt):Aw κ oneType' prog w s:=fun A E p q a b z Q ha hb hz hq=>by
 rw[lt'_eq]
 refine aB (je ?_)
 rw[hz]
 refine aB (lH (gO ?_))
 exact h prog w A _ s p.1 q.1 a b ha hb ⟨rfl,aD hq⟩
structure SB(κ:KeyKind)(kd:SortKind)(x0:Array Keyed)(z:SortSt):Prop where
 pm:(arrOf z).Perm x0
 kd:kindOf z=kd
 ok:failedOf z=none
abbrev nP(xs ys:Array Keyed)(i j:Nat):Prop:=∀k,k<i\/j<=k->ys[k]?=xs[k]?
structure Ch(κ:KeyKind)(kd:SortKind)(x0:Array Keyed)(i j:Nat)(z z':SortSt):Prop where
 b:SB κ kd x0 z'
 o:nP (arrOf z) (arrOf z') i j
 p:pendingOf z'=pendingOf z
def Up(κ:KeyKind)(xs:Array Keyed)(i j:Nat):Prop:=∀p q,i<=p->p<=q->q<j->κ.kle (KK κ xs p) (KK κ xs q)
def Dn(κ:KeyKind)(xs:Array Keyed)(i j:Nat):Prop:=∀p q,i<=p->p<=q->q<j->κ.kle (KK κ xs q) (KK κ xs p)
section
variable{κ:KeyKind}{kd:SortKind}{x0:Array Keyed}{prog:Program}{w:World}{A:Around}{E:Value->Shared->Prop}{s:Shared}{z z1 z2:SortSt}{i j lo:Nat}
theorem Ch.refl(h:SB κ kd x0 z):Ch κ kd x0 i j z z:=⟨h,fun _ _=>rfl,rfl⟩
theorem Ch.trans(h:Ch κ kd x0 i j z z1)(h2:Ch κ kd x0 i j z1 z2):Ch κ kd x0 i j z z2:=⟨h2.b,fun k c=>(h2.o k c).trans (h.o k c),h2.p.trans h.p⟩
theorem SB.sz(h:SB κ kd x0 z):(arrOf z).size=x0.size:=h.pm.size_eq
theorem SB.at(h:SB κ kd x0 z)(h0:KeysOf κ x0)(hi:i<x0.size):∃p,(arrOf z)[i]?=some p/\κ.keyOf p.1=some (KK κ (arrOf z) i):=by
 have hi':i<(arrOf z).size:=by rw[h.sz];exact hi
 have e:(arrOf z)[i]?=some (arrOf z)[i]:=bS _ i hi'
 obtain⟨a,ha⟩:=h0 _ ((eM.mp h.pm).mem_iff.mp (show(arrOf z)[i]∈(arrOf z).toList by simp))
 refine⟨_,e,?_⟩
 unfold KK;rw[e];simp[ha]
theorem SB.arr(h:SB κ kd x0 z){ys:Array Keyed}(e:ys.Perm (arrOf z)):SB κ kd x0 (setArr z ys):=⟨e.trans h.pm,h.kd,h.ok⟩
theorem v9{Q:Option Bool->SortSt->Prop}(hL:Aw κ kd prog w s)(h0:KeysOf κ x0)(hz:SB κ kd x0 z)(hi:i<x0.size)(hj:j<x0.size)(h:Q (some (κ.blt (KK κ (arrOf z) i) (KK κ (arrOf z) j))) z):wpS (model prog w) A E s (ltAt' i j) Q z:=by
 obtain⟨p,e1,k1⟩:=hz.at h0 hi
 obtain⟨q,e2,k2⟩:=hz.at h0 hj
 rw[ltAt'_eq]
 refine aB (je ?_)
 refine aB ?_
 rw[elem'_eq,e1]
 refine aD (aB ?_)
 rw[elem'_eq,e2]
 exact aD (hL A E p q _ _ z k1 k2 hz.kd h)
theorem yU{xs ys:Array Keyed}{k:Nat}(h:ys[k]?=xs[k]?):KK κ ys k=KK κ xs k:=KK_congr h
theorem Up.same{xs ys:Array Keyed}{a b:Nat}(h:Up κ xs a b)(e:∀k,a<=k->k<b->ys[k]?=xs[k]?):Up κ ys a b:=fun p q hp hpq hq=>by
 rw[yU (e p hp (by omega)),yU (e q (by omega) hq)];exact h p q hp hpq hq
theorem Up.snoc{xs:Array Keyed}(h:Up κ xs i j)(hk:i<j->κ.kle (KK κ xs (j-1)) (KK κ xs j)):Up κ xs i (j+1):=fun p q hp hpq hq=>by
 rcases k9.mp hq with c|c
 ·exact h p q hp hpq c
 ·subst c
  rcases fS p q with d|d
  ·exact cv (h p (q-1) hp (by omega) (by omega)) (hk (by omega))
  ·rw[show p=q by omega];exact d7 _
theorem Dn.snoc{xs:Array Keyed}(h:Dn κ xs i j)(hk:i<j->κ.kle (KK κ xs j) (KK κ xs (j-1))):Dn κ xs i (j+1):=fun p q hp hpq hq=>by
 rcases k9.mp hq with c|c
 ·exact h p q hp hpq c
 ·subst c
  rcases fS p q with d|d
  ·exact cv (hk (by omega)) (h p (q-1) hp (by omega) (by omega))
  ·rw[show p=q by omega];exact d7 _
theorem sk{xs:Array Keyed}:Up κ xs i (i+1):=fun p q hp hpq hq=>by rw[show p=q by omega];exact d7 _
theorem HL{xs:Array Keyed}:Dn κ xs i (i+1):=fun p q hp hpq hq=>by rw[show p=q by omega];exact d7 _
theorem BJ{n r:Nat}{f:Nat->Option (Option Nat)×Nat->StateT SortSt Sem (ForInStep (Option (Option Nat)×Nat))}{Q:Option (Option Nat)×Nat->SortSt->Prop}(hL:Aw κ kd prog w s)(h0:KeysOf κ x0)(hz:SB κ kd x0 z)(hr:lo+r<=x0.size)(hn:1<=n)(Ni:n<=r)
  (hf:∀x y,f x (none,y)=(ltAt' (lo+y) (lo+y-1) >>= fun c=>match c with|some b=>if b=true then pure (.done (none,y))else pure (.yield (none,y+1))|none=>pure (.done (some none,y))))
  (hu:Up κ (arrOf z) lo (lo+n)) (h:∀m,n<=m->m<=r->Up κ (arrOf z) lo (lo+m)->(m=r\/κ.klt (KK κ (arrOf z) (lo+m)) (KK κ (arrOf z) (lo+m-1)))->Q (none,m) z):wpS (model prog w) A E s (forIn [n:r] (none,n) f) Q z:=by
 refine cm (I:=fun k c y=>y=z/\c=(none,k)/\Up κ (arrOf z) lo (lo+k)) ?_ ?_ ⟨rfl,rfl,hu⟩
 ·rintro k c y a1 a2 ⟨rfl,rfl,hk⟩
  rw[hf]
  refine aB (v9 hL h0 hz (by omega) (by omega) ?_)
  cases e:κ.blt (KK κ (arrOf y) (lo+k)) (KK κ (arrOf y) (lo+k-1))with
  |true=>exact aD (h k a1 (by omega) hk (.inr e))
  |false=>exact aD ⟨rfl,rfl,hk.snoc fun _=>e⟩
 ·rintro c y ⟨rfl,rfl,hk⟩
  rw[show max n r=r by omega]at hk ⊢
  exact h r Ni (ah _) hk (.inl rfl)
theorem u0{Q:Unit->SortSt->Prop}(h:Q () (setArr z (mirror (arrOf z) i j ((j-i)/2)))):wpS (model prog w) A E s (reverseSlice' i j) Q z:=by
 rw[reverseSlice'_eq];exact g_ h
theorem u4(hz:SB κ kd x0 z){i' j':Nat}(hj:j<=x0.size)(a:i'<=i)(b:j<=j'):Ch κ kd x0 i' j' z (setArr z (mirror (arrOf z) i j ((j-i)/2))):=by
 refine⟨hz.arr (mirror_perm _ _ _ _),fun k c=>?_,rfl⟩
 show(mirror (arrOf z) i j ((j-i)/2))[k]?=_
 rw[getElem?_mirror_all (by rw[hz.sz];exact hj),au (by omega)]
end
section
variable{κ:KeyKind}{kd:SortKind}{x0:Array Keyed}{prog:Program}{w:World}{A:Around}{E:Value->Shared->Prop}{s:Shared}{z z1 z2:SortSt}{i j lo:Nat}
theorem Dn.cong{xs ys:Array Keyed}(h:Dn κ xs i j)(e:∀k,KK κ ys k=KK κ xs k):Dn κ ys i j:=fun p q a b c=>by rw[e,e];exact h p q a b c
abbrev Fl(κ:KeyKind)(xs:Array Keyed)(i j:Nat):Prop:=∀p,i<=p->p<j->KK κ xs p=KK κ xs (j-1)
abbrev Ma:=Option (Option Nat)×Nat×Nat
theorem EE{n r:Nat}{f:Nat->Ma->StateT SortSt Sem (ForInStep Ma)}{Q:Ma->SortSt->Prop}(hL:Aw κ kd prog w s)(h0:KeysOf κ x0)(hz:SB κ kd x0 z)(hr:lo+r<=x0.size)(hn:1<=n)(Ni:n<=r)
  (hf:∀x y e,f x (none,y,e)=(ltAt' (lo+y) (lo+y-1) >>= fun c=>match c with
   |some b=>if b=true then(if e>0 then(reverseSlice' (lo+y-(e+1)) (lo+y) >>= fun _=>pure (.yield (none,y+1,0)))else pure (.yield (none,y+1,0)))
    else(ltAt' (lo+y-1) (lo+y) >>= fun c=>match c with|some b=>if b=true then pure (.done (none,y,e))else pure (.yield (none,y+1,e+1))|none=>pure (.done (some none,y,e)))
   |none=>pure (.done (some none,y,e))))
  (hd:Dn κ (arrOf z) lo (lo+n))
  (h:∀m e y,Ch κ kd x0 lo (lo+r) z y->n<=m->m<=r->Dn κ (arrOf y) lo (lo+m)->e+1<=m->Fl κ (arrOf y) (lo+m-(e+1)) (lo+m)->Q (none,m,e) y):wpS (model prog w) A E s (forIn [n:r] (none,n,0) f) Q z:=by
 refine cm (I:=fun k c y=>∃e,c=(none,k,e)/\Ch κ kd x0 lo (lo+r) z y/\Dn κ (arrOf y) lo (lo+k)/\e+1<=k/\Fl κ (arrOf y) (lo+k-(e+1)) (lo+k)) ?_ ?_ ⟨0,rfl,.refl hz,hd,by omega,fun p a b=>by rw[show p=lo+n-1 by omega]⟩
 ·rintro k c y a1 a2 ⟨e,rfl,hc,hk,he,hfl⟩
  rw[hf]
  have hb:=hc.b
  refine aB (v9 hL h0 hb (by omega) (by omega) ?_)
  cases c1:κ.blt (KK κ (arrOf y) (lo+k)) (KK κ (arrOf y) (lo+k-1))with
  |true=>
   simp only[gD]
   have one:∀y',Ch κ kd x0 lo (lo+r) z y'->(∀q,KK κ (arrOf y') q=KK κ (arrOf y) q)->∃e,((none,k+1,0):Ma)=(none,k+1,e)/\Ch κ kd x0 lo (lo+r) z y'/\Dn κ (arrOf y') lo (lo+(k+1))/\e+1<=k+1/\Fl κ (arrOf y') (lo+(k+1)-(e+1)) (lo+(k+1)):=fun y' h1 h2=>
    ⟨0,rfl,h1,(hk.snoc fun _=>bW c1).cong h2,by omega,fun p a b=>by rw[show p=lo+(k+1)-1 by omega]⟩
   by_cases c2:e>0
   ·rw[am c2]
    refine aB (u0 (aD (one _ (hc.trans (u4 hb (by omega) (by omega) (by omega))) fun q=>?_)))
    exact my (by rw[hb.sz];omega) hfl q
   ·rw[au c2]
    exact aD (one y hc fun _=>rfl)
  |false=>
   simp only[bY,cA]
   refine aB (v9 hL h0 hb (by omega) (by omega) ?_)
   cases c2:κ.blt (KK κ (arrOf y) (lo+k-1)) (KK κ (arrOf y) (lo+k))with
   |true=>
    simp only[gD]
    exact aD (h k e y hc a1 (by omega) hk he hfl)
   |false=>
    simp only[bY,cA]
    have eq:=κ.total _ _ c2 c1
    refine aD ⟨e+1,rfl,hc,hk.snoc fun _=>c2,by omega,fun p a b=>?_⟩
    rw[show lo+(k+1)-1=lo+k by omega]
    rcases fS p (lo+k)with d|d
    ·rw[hfl p (by omega) d];exact eq
    ·rw[show p=lo+k by omega]
 ·rintro c y ⟨e,rfl,hc,hk,he,hfl⟩
  rw[show max n r=r by omega]at *
  exact h r e y hc Ni (ah _) hk he hfl
theorem HM{r:Nat}{Q:Option Nat->SortSt->Prop}(hL:Aw κ kd prog w s)(h0:KeysOf κ x0)(hz:SB κ kd x0 z)(hr:lo+r<=x0.size)(h1:1<=r)
  (h:∀m y,Ch κ kd x0 lo (lo+r) z y->1<=m->m<=r->Up κ (arrOf y) lo (lo+m)->Q (some m) y):wpS (model prog w) A E s (countRun' lo r) Q z:=by
 rw[countRun'_eq]
 refine aB (BJ hL h0 hz hr (ah 1) h1 (fun _ _=>by dsimp only;refine eL (Bind.bind _) (funext fun c=>?_);cases c<;>rfl) sk fun n n1 n2 nu nd=>?_)
 dsimp only
 by_cases hn:n=r
 ·rw[am (by simpa using hn)]
  exact aD (h n z (.refl hz) n1 n2 nu)
 rw[au (by simpa using hn)]
 have hlt:=nd.resolve_left hn
 suffices key:∀y,Ch κ kd x0 lo (lo+r) z y->Dn κ (arrOf y) lo (lo+(n+1))->wpS (model prog w) A E s _ Q y by
  by_cases hg:n>1
  ·rw[am hg]
   refine aB (v9 hL h0 hz (by omega) (by omega) ?_)
   cases c1:κ.blt (KK κ (arrOf z) lo) (KK κ (arrOf z) (lo+n-1))with
   |true=>
    simp only[gD]
    exact aD (h n z (.refl hz) n1 n2 nu)
   |false=>
    simp only[bY,cA]
    have hfl:Fl κ (arrOf z) lo (lo+n):=fun p a b=>KeyOrd.kle_antisymm (nu p (lo+n-1) a (by omega) (by omega)) (cv c1 (nu lo p (ah _) a b))
    refine aB (u0 (key _ (u4 hz (by omega) (ah _) (by omega)) ?_))
    have hd:Dn κ (arrOf z) lo (lo+n):=fun p q a b c=>by rw[hfl p a (by omega),hfl q (by omega) c];exact d7 _
    exact(hd.snoc fun _=>bW hlt).cong (my (by rw[hz.sz];omega) hfl)
  ·rw[au hg]
   have e:n=1:=by omega
   subst e
   exact key z (.refl hz) (HL.snoc fun _=>bW hlt)
 intro y hc hd
 refine aB (lH (dL ⟨rfl,?_⟩))
 refine aB (EE hL h0 hc.b hr (by omega) (by omega) (fun _ _ _=>by
  dsimp only;refine eL (Bind.bind _) (funext fun c=>?_)
  rcases c with _|b
  ·rfl
  ·dsimp only
   split
   ·rfl
   ·refine eL (Bind.bind _) (funext fun c=>?_);cases c<;>rfl) hd fun m e y2 c2 m1 m2 d2 e1 f2=>?_)
 dsimp only
 suffices key:∀y3,Ch κ kd x0 lo (lo+r) z y3->Dn κ (arrOf y3) lo (lo+m)->wpS (model prog w) A E s _ Q y3 by
  by_cases he:e>0
  ·rw[am he]
   refine aB (u0 (key _ ((hc.trans c2).trans (u4 c2.b (by omega) (by omega) (by omega))) ?_))
   exact d2.cong (my (by rw[c2.b.sz];omega) f2)
  ·rw[au he]
   exact key y2 (hc.trans c2) d2
 intro y3 c3 d3
 refine aB (u0 ?_)
 have c4:=c3.trans (u4 (i:=lo) (j:=lo+m) c3.b (by omega) (ah _) (show lo+m<=lo+r by omega))
 refine aB (BJ hL h0 c4.b hr (by omega) m2 (fun _ _=>by dsimp only;refine eL (Bind.bind _) (funext fun c=>?_);cases c<;>rfl) ?_ fun q q1 q2 qu _=>?_)
 ·intro p q a b c
  show κ.kle (KK κ (mirror (arrOf y3) lo (lo+m) ((lo+m-lo)/2)) p) (KK κ (mirror (arrOf y3) lo (lo+m) ((lo+m-lo)/2)) q)
  have hsz:lo+m<=(arrOf y3).size:=by rw[c3.b.sz];omega
  rw[KK_mirror hsz,KK_mirror hsz,am (by omega),am (by omega)]
  exact d3 _ _ (by omega) (by omega) (by omega)
 ·exact aD (h q _ c4 (by omega) q2 qu)
end
section
variable{κ:KeyKind}{kd:SortKind}{x0:Array Keyed}{prog:Program}{w:World}{A:Around}{E:Value->Shared->Prop}{s:Shared}{z z1 z2:SortSt}{i j lo:Nat}
theorem HN{n b:Nat}{Q:Bool->SortSt->Prop}(hL:Aw κ kd prog w s)(h0:KeysOf κ x0)(hz:SB κ kd x0 z)(hn:lo+n<=x0.size)(hb:b<=n)(Me:1<=b)(hu:Up κ (arrOf z) lo (lo+b))
  (h:∀y,Ch κ kd x0 lo (lo+n) z y->Up κ (arrOf y) lo (lo+n)->Q true y):wpS (model prog w) A E s (binarySort' lo n b) Q z:=by
 rw[binarySort'_eq]
 rw[show max b 1=b by omega]
 refine aB (fJ (cm (I:=fun k c y=>c=(none,())/\Ch κ kd x0 lo (lo+n) z y/\Up κ (arrOf y) lo (lo+k))
  (Q:=fun c y=>c=(none,())/\Ch κ kd x0 lo (lo+n) z y/\Up κ (arrOf y) lo (lo+n)) ?_ ?_ ⟨rfl,.refl hz,hu⟩) ?_)
 ·rintro k c y a1 a2 ⟨rfl,hc,hk⟩
  have hB:=hc.b
  refine aB (fJ (cm (I:=fun x c y'=>y'=y/\∃l r,c=(none,l,r)/\l<=r/\r<=k/\r-l<=k-x/\(∀p,p<l->κ.kle (KK κ (arrOf y) (lo+p)) (KK κ (arrOf y) (lo+k)))/\∀p,r<=p->p<k->κ.klt (KK κ (arrOf y) (lo+k)) (KK κ (arrOf y) (lo+p)))
   (Q:=fun c y'=>y'=y/\∃l r,c=(none,l,r)/\l<=k/\(∀p,p<l->κ.kle (KK κ (arrOf y) (lo+p)) (KK κ (arrOf y) (lo+k)))/\∀p,l<=p->p<k->κ.klt (KK κ (arrOf y) (lo+k)) (KK κ (arrOf y) (lo+p))) ?_ ?_ ⟨rfl,0,k,rfl,by omega,by omega,by omega,fun p q=>by omega,fun p q=>by omega⟩) ?_)
  ·rintro x c y' _ hx ⟨rfl,l,r,rfl,l1,l2,l3,l4,l5⟩
   dsimp only
   by_cases g:l≥r
   ·rw[am g]
    exact aD ⟨rfl,l,r,rfl,by omega,l4,fun p a c=>l5 p (by omega) c⟩
   ·rw[au g]
    refine aB (v9 hL h0 hB (by omega) (by omega) ?_)
    cases e:κ.blt (KK κ (arrOf y') (lo+k)) (KK κ (arrOf y') (lo+(l+r)/2))with
    |true=>exact aD ⟨rfl,l,(l+r)/2,rfl,by omega,by omega,by omega,l4,fun p a c=>KeyOrd.klt_of_klt_of_kle e (hk _ _ (by omega) (by omega) (by omega))⟩
    |false=>exact aD ⟨rfl,(l+r)/2+1,r,rfl,by omega,by omega,by omega,fun p a=>cv (hk _ (lo+(l+r)/2) (by omega) (by omega) (by omega)) e,l5⟩
  ·rintro c y' ⟨rfl,l,r,rfl,l1,l2,l3,l4,l5⟩
   exact⟨rfl,l,r,rfl,by omega,l4,fun p a c=>l5 p (by omega) c⟩
  ·rintro c y' ⟨rfl,l,r,rfl,l1,l4,l5⟩
   show wpS _ _ _ _ (moveDown' (lo+k) (lo+l) >>= fun _=>pure (ForInStep.yield (none,()))) _ _
   rw[moveDown'_eq]
   have hsz:lo+k<(arrOf y').size:=by rw[hB.sz];omega
   refine aB (g_ (aD ⟨rfl,hc.trans ⟨hB.arr (bubble_perm _ _ _),fun q c=>?_,rfl⟩,fun p q a c d=>?_⟩))
   ·show(bubble (arrOf y') (lo+k) (lo+k-(lo+l)))[q]?=_
    rw[getElem?_bubble hsz _ (by omega),au (by omega),au (by omega)]
   ·show κ.kle (KK κ (bubble (arrOf y') (lo+k) (lo+k-(lo+l))) p) (KK κ (bubble (arrOf y') (lo+k) (lo+k-(lo+l))) q)
    rw[KK_bubble hsz (by omega),KK_bubble hsz (by omega)]
    have m4:∀p,lo<=p->p<lo+l->κ.kle (KK κ (arrOf y') p) (KK κ (arrOf y') (lo+k)):=fun p a c=>by have:=l4 (p-lo) (by omega);rwa[show lo+(p-lo)=p by omega]at this
    have m5:∀p,lo+l<=p->p<lo+k->κ.klt (KK κ (arrOf y') (lo+k)) (KK κ (arrOf y') p):=fun p a c=>by have:=l5 (p-lo) (by omega) (by omega);rwa[show lo+(p-lo)=p by omega]at this
    repeat' split
    all_goals first
     |(exfalso;omega)
     |exact d7 _
     |exact m4 _ (by omega) (by omega)
     |exact bW (m5 _ (by omega) (by omega))
     |exact hk _ _ (by omega) (by omega) (by omega)
 ·rintro c y ⟨rfl,hc,hk⟩
  rw[show max b n=n by omega]at hk
  exact⟨rfl,hc,hk⟩
 ·rintro c y ⟨rfl,hc,hk⟩
  exact aD (h y hc hk)
end
def EF:Bool->Keyed->Array Keyed->Nat->Nat->Nat->StateT SortSt Sem (Option Nat):=sortPriv% PySem.Builtin.gallop
section
variable{κ:KeyKind}{kd:SortKind}{x0:Array Keyed}{prog:Program}{w:World}{A:Around}{E:Value->Shared->Prop}{s:Shared}{z z1 z2:SortSt}{i j lo:Nat}
theorem dO{arr:Array Keyed}{p:Keyed}{Q:Keyed->SortSt->Prop}(h:arr[i]?=some p)(hq:Q p z):wpS (model prog w) A E s (elem' arr i) Q z:=by
 rw[elem'_eq,h];exact aD hq
def vt(κ:KeyKind)(lf:Bool)(k:κ.α)(arr:Array Keyed)(i:Nat):Bool:=if lf then κ.blt (KK κ arr i) k else !κ.blt k (KK κ arr i)
theorem qi{lf:Bool}{key:Keyed}{k0:κ.α}{arr:Array Keyed}{base n dP:Nat}{Q:Option Nat->SortSt->Prop}(hL:Aw κ kd prog w s)(hz:kindOf z=kd)(hk:κ.keyOf key.1=some k0)(ha:KeysOf κ arr)(hn:base+n<=arr.size)(hh:dP<n)(hu:Up κ arr base (base+n))
  (h:∀k,k<=n->(∀i,i<k->vt κ lf k0 arr (base+i)=true)->(∀i,k<=i->i<n->vt κ lf k0 arr (base+i)=false)->Q (some k) z):wpS (model prog w) A E s (EF lf key arr base n dP) Q z:=by
 obtain⟨P,hP⟩:∃P:Nat->Bool,P=fun i=>vt κ lf k0 arr (base+i):=⟨_,rfl⟩
 have mono:∀i j,i<=j->j<n->P j=true->P i=true:=fun i j hij hj e=>by
  have c:=hu (base+i) (base+j) (by omega) (by omega) (by omega)
  rw[hP]at e ⊢
  unfold vt at e ⊢
  cases lf with
  |true=>exact KeyOrd.klt_of_kle_of_klt c e
  |false=>
   simp only[bY,cA,e7]at e ⊢
   exact cv c e
 have h':∀k,k<=n->(∀i,i<k->P i=true)->(∀i,k<=i->i<n->P i=false)->Q (some k) z:=by rw[hP];exact h
 have hB:∀(i:Nat) (R:Option Bool->SortSt->Prop),i<n->R (some (P i)) z->wpS (model prog w) A E s (elem' arr (base+i) >>= fun x=>if lf=true then lt' x key else(lt' key x >>= fun d=>pure (Option.map (fun x=>!x) d))) R z:=fun i R hi hr=>by
  have hi':base+i<arr.size:=by omega
  have e:arr[base+i]?=some arr[base+i]:=bS arr (base+i) hi'
  obtain⟨a,ka⟩:=ha arr[base+i] (by simp)
  have kk:KK κ arr (base+i)=a:=by unfold KK;rw[e];simp[ka]
  refine aB (dO e ?_)
  have hr:R (some (vt κ lf k0 arr (base+i))) z:=by rw[hP]at hr;exact hr
  unfold vt at hr
  rw[kk]at hr
  cases lf with
  |true=>exact hL A E _ _ a k0 z ka hk hz hr
  |false=>exact aB (hL A E _ _ k0 a z hk ka hz (aD hr))
 clear hP hL
 refine aB (hB dP _ hh ?_)
 dsimp only
 suffices fin:∀l r:Nat,l<=r->r<=n->(∀i,i<l->P i=true)->(∀i,r<=i->i<n->P i=false)->wpS (model prog w) A E s _ Q z by
  cases hp:P dP with
  |true=>
   rw[am rfl]
   refine aB (fJ (cm (I:=fun x c y=>z=y/\∃l o,c=(none,l,o)/\x+1<=o/\l<o/\dP+l<n/\P (dP+l)=true)
    (Q:=fun c y=>z=y/\∃l o,c=(none,l,o)/\l<o/\dP+l<n/\P (dP+l)=true/\(n-dP<=o\/dP+o<n/\P (dP+o)=false)) ?_ ?_ ⟨rfl,0,1,rfl,by omega,by omega,by omega,hp⟩) ?_)
   ·rintro x c y _ hx ⟨rfl,l,o,rfl,a1,a2,a3,a4⟩
    dsimp only
    by_cases g:o≥n-dP
    ·rw[am g];exact aD ⟨rfl,l,o,rfl,a2,a3,a4,.inl g⟩
    ·rw[au g]
     refine aB (hB (dP+o) _ (by omega) ?_)
     cases e:P (dP+o)with
     |true=>exact aD ⟨rfl,o,2*o+1,rfl,by omega,by omega,by omega,e⟩
     |false=>exact aD ⟨rfl,l,o,rfl,a2,a3,a4,.inr ⟨by omega,e⟩⟩
   ·rintro c y ⟨rfl,l,o,rfl,a1,a2,a3,a4⟩
    exact⟨rfl,l,o,rfl,a2,a3,a4,.inl (by omega)⟩
   ·rintro c y ⟨rfl,l,o,rfl,a2,a3,a4,a5⟩
    dsimp only
    have f1:dP+l+1<=dP+min o (n-dP):=by omega
    have f2:dP+min o (n-dP)<=n:=by omega
    have f3:∀i,i<dP+l+1->P i=true:=fun i hi=>mono i _ (by omega) a3 a4
    have f4:∀i,dP+min o (n-dP)<=i->i<n->(o<=i-dP\/n-dP<=i-dP)/\dP<=i:=fun i hi hn=>by omega
    generalize dP+l+1=L at f1 f3 ⊢
    generalize dP+min o (n-dP)=R at f1 f2 f4 ⊢
    refine fin L R f1 f2 f3 fun i hi hn=>?_
    have hi:=f4 i hi hn
    rcases a5 with c|⟨c,d⟩
    ·omega
    ·cases e:P i with
     |false=>rfl
     |true=>rw[mono _ i (by omega) hn e]at d;cases d
  |false=>
   rw[au (by simp)]
   refine aB (fJ (cm (I:=fun x c y=>z=y/\∃l o,c=(none,l,o)/\x+1<=o/\l<o/\l<=dP/\P (dP-l)=false)
    (Q:=fun c y=>z=y/\∃l o,c=(none,l,o)/\l<o/\l<=dP/\P (dP-l)=false/\(dP+1<=o\/o<=dP/\P (dP-o)=true)) ?_ ?_ ⟨rfl,0,1,rfl,by omega,by omega,by omega,hp⟩) ?_)
   ·rintro x c y _ hx ⟨rfl,l,o,rfl,a1,a2,a3,a4⟩
    dsimp only
    by_cases g:o≥dP+1
    ·rw[am g];exact aD ⟨rfl,l,o,rfl,a2,a3,a4,.inl g⟩
    ·rw[au g]
     refine aB (hB (dP-o) _ (by omega) ?_)
     cases e:P (dP-o)with
     |true=>exact aD ⟨rfl,l,o,rfl,a2,a3,a4,.inr ⟨by omega,e⟩⟩
     |false=>exact aD ⟨rfl,o,2*o+1,rfl,by omega,by omega,by omega,e⟩
   ·rintro c y ⟨rfl,l,o,rfl,a1,a2,a3,a4⟩
    exact⟨rfl,l,o,rfl,a2,a3,a4,.inl (by omega)⟩
   ·rintro c y ⟨rfl,l,o,rfl,a2,a3,a4,a5⟩
    dsimp only
    have f1:dP+1-min o (dP+1)<=dP-l:=by omega
    have f2:dP-l<=n:=by omega
    have f3:∀i,i<dP+1-min o (dP+1)->o<=dP/\i<=dP-o:=fun i hi=>by omega
    have f4:∀i,dP-l<=i->i<n->P i=false:=fun i hi hn=>by
     cases e:P i with
     |false=>rfl
     |true=>rw[mono _ i hi hn e]at a4;cases a4
    generalize dP+1-min o (dP+1)=L at f1 f3 ⊢
    generalize dP-l=R at f1 f2 f4 ⊢
    refine fin L R f1 f2 (fun i hi=>?_) f4
    have hi:=f3 i hi
    rcases a5 with c|⟨c,d⟩
    ·omega
    ·exact mono i _ (by omega) (by omega) d
 intro l r hlr hrn hl hr
 refine aB (fJ (cm (I:=fun x c y=>z=y/\∃l r,c=(none,l,r)/\l<=r/\r<=n/\r-l<=n-x/\(∀i,i<l->P i=true)/\∀i,r<=i->i<n->P i=false)
  (Q:=fun c y=>z=y/\∃l r,c=(none,l,r)/\l=r/\r<=n/\(∀i,i<l->P i=true)/\∀i,r<=i->i<n->P i=false) ?_ ?_ ⟨rfl,l,r,rfl,hlr,hrn,by omega,hl,hr⟩) ?_)
 ·rintro x c y _ hx ⟨rfl,l,r,rfl,b1,b2,b3,b4,b5⟩
  dsimp only
  by_cases g:l≥r
  ·rw[am g];exact aD ⟨rfl,l,r,rfl,by omega,b2,b4,b5⟩
  ·rw[au g]
   refine aB (hB (l+(r-l)/2) _ (by omega) ?_)
   cases e:P (l+(r-l)/2)with
   |true=>exact aD ⟨rfl,l+(r-l)/2+1,r,rfl,by omega,b2,by omega,fun i hi=>mono i _ (by omega) (by omega) e,b5⟩
   |false=>exact aD ⟨rfl,l,l+(r-l)/2,rfl,by omega,by omega,by omega,b4,fun i hi hn=>by
     cases e2:P i with
     |false=>rfl
     |true=>rw[mono _ i hi hn e2]at e;cases e⟩
 ·rintro c y ⟨rfl,l,r,rfl,b1,b2,b3,b4,b5⟩
  exact⟨rfl,l,r,rfl,by omega,b2,b4,b5⟩
 ·rintro c y ⟨rfl,l,r,rfl,b1,b2,b4,b5⟩
  exact aD (h' r b2 (fun i hi=>b4 i (by omega)) b5)
end
section
variable{κ:KeyKind}{A B O:List Keyed}{i j:Nat}
def ky(κ:KeyKind)(p:Keyed):κ.α:=(κ.keyOf p.1).getD κ.dflt
abbrev Le(κ:KeyKind)(p q:Keyed):Prop:=κ.kle (ky κ p) (ky κ q)
abbrev SL(κ:KeyKind)(l:List Keyed):Prop:=l.Pairwise (Le κ)
structure ML(κ:KeyKind)(A B O:List Keyed)(i j:Nat):Prop where
 pm:(O++(A.drop i++B.drop j)).Perm (A++B)
 so:SL κ O
 ge:∀p∈O,∀q∈A.drop i++B.drop j,Le κ p q
theorem ML.swap(h:ML κ A B O i j):ML κ B A O j i:=⟨((mO.append_left O).trans h.pm).trans mO,h.so,fun p hp q hq=>h.ge p hp q (by rw[aZ]at hq ⊢;exact hq.symm)⟩
theorem rd{l:List Keyed}{p:Keyed}(h:l[i]?=some p):l.drop i=p::l.drop (i+1):=by
 obtain⟨h1,h2⟩:=al.mp h
 rw[cb h1,h2]
theorem ML.a(hA:SL κ A)(h:ML κ A B O i j){p:Keyed}(e:A[i]?=some p)(le:∀q∈B.drop j,Le κ p q):ML κ A B (O++[p]) (i+1) j:=by
 have hd:=rd e
 have hs:SL κ (A.drop i):=hA.sublist (cV _ _)
 rw[hd]at hs
 have mem:∀{q},q∈A.drop (i+1)++B.drop j->q∈A.drop i++B.drop j:=fun{q} hq=>by
  rw[hd];rw[aZ]at hq ⊢;exact hq.imp (aW _) id
 refine⟨?_,?_,fun o ho q hq=>?_⟩
 ·have:=h.pm
  rw[hd]at this
  simpa using this
 ·refine fg.mpr ⟨h.so,ik _ _,fun o ho q hq=>?_⟩
  rw[aG.mp hq]
  exact h.ge o ho p (by rw[hd];simp)
 ·rcases aZ.mp ho with c|c
  ·exact h.ge o c q (mem hq)
  ·rw[aG.mp c]
   rcases aZ.mp hq with d|d
   ·exact(a_.mp hs).1 q d
   ·exact le q d
theorem sF(hB:SL κ B){p q:Keyed}(e:B[j]?=some q)(h:κ.kle (ky κ p) (ky κ q)):∀x∈B.drop j,Le κ p x:=fun x hx=>by
 have hs:SL κ (B.drop j):=hB.sublist (cV _ _)
 rw[rd e]at hs hx
 rcases aC.mp hx with rfl|c
 ·exact h
 ·exact cv h ((a_.mp hs).1 x c)
theorem ML.as(hA:SL κ A)(hB:SL κ B)(h:ML κ A B O i j){q:Keyed}(e:B[j]?=some q):∀k,i+k<=A.length->(∀x p,x<k->A[i+x]?=some p->κ.kle (ky κ p) (ky κ q))->ML κ A B (O++(A.drop i).take k) (i+k) j
 |0,_,_=>by simpa using h
 |k+1,hk,hl=>by
  have ih:=h.as hA hB e k (by omega) fun x p hx=>hl x p (by omega)
  have e1:A[i+k]?=some A[i+k]:=af (by omega)
  have:=ih.a hA e1 (sF hB e (hl k _ (by omega) e1))
  rw[aY]at this
  have e2:(A.drop i).take (k+1)=(A.drop i).take k++[A[i+k]]:=by
   rw[List.take_add_one,hJ,e1];rfl
  rw[e2];exact this
theorem ML.fin(h:ML κ A B O i j)(hs:SL κ (A.drop i++B.drop j)):(O++A.drop i++B.drop j).Perm (A++B)/\SL κ (O++A.drop i++B.drop j):=by
 rw[aY]
 exact⟨h.pm,fg.mpr ⟨h.so,hs,fun p hp q hq=>h.ge p hp q hq⟩⟩
theorem ML.fin'(h:ML κ A B O i j)(hs:SL κ (B.drop j++A.drop i)):(O++B.drop j++A.drop i).Perm (A++B)/\SL κ (O++B.drop j++A.drop i):=by
 obtain⟨a,b⟩:=h.swap.fin hs
 exact⟨a.trans mO,b⟩
theorem ML.endB(hA:SL κ A)(h:ML κ A B O i j)(hj:B.length<=j):(O++A.drop i++B.drop j).Perm (A++B)/\SL κ (O++A.drop i++B.drop j):=
 h.fin (by rw[bq hj,cI];exact hA.sublist (cV _ _))
theorem ML.endA(hB:SL κ B)(h:ML κ A B O i j)(hi:A.length<=i):(O++A.drop i++B.drop j).Perm (A++B)/\SL κ (O++A.drop i++B.drop j):=
 h.fin (by rw[bq hi,fZ];exact hB.sublist (cV _ _))
theorem ML.last(hB:SL κ B)(h:ML κ A B O i j){p:Keyed}(e:A[i]?=some p)(hi:i+1=A.length)(hl:∀q∈B,Le κ q p):(O++B.drop j++A.drop i).Perm (A++B)/\SL κ (O++B.drop j++A.drop i):=by
 refine h.fin' ?_
 rw[rd e,show A.drop (i+1)=[]from bq (by omega)]
 exact fg.mpr ⟨hB.sublist (cV _ _),ik _ _,fun q hq x hx=>by rw[aG.mp hx];exact hl q (fj hq)⟩
end
def BK:Array Keyed->Array Keyed->StateT SortSt Sem (Array Keyed):=sortPriv% PySem.Builtin.mergeLo
def HP:Nat->StateT SortSt Sem Unit:=sortPriv% PySem.Builtin.setMinGallop
structure Gk(z z':SortSt):Prop where
 k:kindOf z'=kindOf z
 a:arrOf z'=arrOf z
 p:pendingOf z'=pendingOf z
 f:failedOf z'=failedOf z
section
variable{κ:KeyKind}{kd:SortKind}{x0:Array Keyed}{prog:Program}{w:World}{A:Around}{E:Value->Shared->Prop}{s:Shared}{z z1 z2:SortSt}{i j lo:Nat}
theorem Gk.trans(h:Gk z z1)(h2:Gk z1 z2):Gk z z2:=⟨h2.k.trans h.k,h2.a.trans h.a,h2.p.trans h.p,h2.f.trans h.f⟩
theorem yV{g:Nat}{Q:Unit->SortSt->Prop}(h:∀y,Gk z y->Q () y):wpS (model prog w) A E s (HP g) Q z:=g_ (h _ ⟨rfl,rfl,rfl,rfl⟩)
theorem kQ{a:Array Keyed}:(a.extract i a.size).toList=a.toList.drop i:=by
 rw[c8,dE,cf (by simp)]
theorem lU{a:Array Keyed}:(a.extract i (i+j)).toList=(a.toList.drop i).take j:=by
 rw[c8,dE,Nat.add_sub_cancel_left]
theorem iP{a:Array Keyed}{p:Keyed}(h:a[i]?=some p):KK κ a i=ky κ p:=by unfold KK ky;rw[h]
theorem n5{a:Array Keyed}{p:Keyed}(ka:KeysOf κ a)(h:a[i]?=some p):κ.keyOf p.1=some (ky κ p):=by
 obtain⟨x,hx⟩:=ka p (by rw[gs];exact iV h)
 unfold ky;rw[hx];rfl
theorem xJ{a:Array Keyed}{p:Keyed}(h:a[i]?=some p):a.toList[i]?=some p:=by rw[aF];exact h
theorem yW{a:Array Keyed}(h:SL κ a.toList):Up κ a i a.size:=fun p q hp hpq hq=>by
 have e1:a[p]?=some a[p]:=bS a p (by omega)
 have e2:a[q]?=some a[q]:=bS a q hq
 rw[iP e1,iP e2]
 rcases fS p q with c|c
 ·have:=eW.mp h p q (by simpa using (by omega:p<a.size)) (by simpa using hq) c
  simpa using this
 ·have:p=q:=by omega
  subst this;exact d7 _
end
section
variable{κ:KeyKind}{kd:SortKind}{x0:Array Keyed}{prog:Program}{w:World}{A:Around}{E:Value->Shared->Prop}{s:Shared}{z z1 z2:SortSt}{i j lo:Nat}
structure Mg(κ:KeyKind)(z:SortSt)(a b out:Array Keyed)(i j:Nat)(y:SortSt):Prop where
 g:Gk z y
 m:ML κ a.toList b.toList out.toList i j
 i:i+1<a.size
 j:j<b.size
theorem KM{a b:Array Keyed}{Q:Array Keyed->SortSt->Prop}(hL:Aw κ kd prog w s)(hz:kindOf z=kd)(ka:KeysOf κ a)(kb:KeysOf κ b)(ha:SL κ a.toList)(hb:SL κ b.toList)(a1:1<=a.size)(b1:1<=b.size)
  (h0:∀p q,a[0]?=some p->b[0]?=some q->Le κ q p) (hl:∀p,a[a.size-1]?=some p->∀q∈b.toList,Le κ q p)
  (h:∀out y,Gk z y->out.toList.Perm (a.toList++b.toList)->SL κ out.toList->Q out y):wpS (model prog w) A E s (BK a b) Q z:=by
 have res:∀(y:SortSt) (out:Array Keyed) (O:List Keyed),Gk z y->out.toList=O->O.Perm (a.toList++b.toList)/\SL κ O->Q out y:=fun y out O hg e hr=>h out y hg (e▸hr.1) (e▸hr.2)
 have aat:∀i,i<a.size->∃p,a[i]?=some p/\a.toList[i]?=some p:=fun i hi=>⟨a[i],bS a i hi,xJ (bS a i hi)⟩
 have bat:∀i,i<b.size->∃p,b[i]?=some p/\b.toList[i]?=some p:=fun i hi=>⟨b[i],bS b i hi,xJ (bS b i hi)⟩
 have la:a.toList.length=a.size:=by simp
 have lb:b.toList.length=b.size:=by simp
 refine aB (lH (dL ⟨rfl,?_⟩))
 obtain⟨p0,pa,_⟩:=aat 0 (by omega)
 obtain⟨q0,qb,ql⟩:=bat 0 (by omega)
 have m0:ML κ a.toList b.toList [q0] 0 1:=by
  have:=((⟨dY _,List.Pairwise.nil,fun p hp=>by cases hp⟩:ML κ a.toList b.toList [] 0 0).swap.a hb ql (sF ha (xJ pa) (h0 p0 q0 pa qb))).swap
  exact this
 refine aB (dO qb ?_)
 dsimp only
 by_cases g1:1=b.size
 ·rw[am (by simpa using g1)]
  exact aD (res z _ _ ⟨rfl,rfl,rfl,rfl⟩ (by rw[aX,aX,kQ,kQ]) (m0.endB ha (by omega)))
 rw[au (by simpa using g1)]
 by_cases g2:0+1=a.size
 ·rw[am (by simpa using g2)]
  exact aD (res z _ _ ⟨rfl,rfl,rfl,rfl⟩ (by rw[aX,aX,kQ,kQ]) (m0.last hb (xJ pa) (by omega) (hl p0 (by rw[show a.size-1=0 by omega];exact pa))))
 rw[au (by simpa using g2)]
 refine aB (je ?_)
 have jy:Mg κ z a b #[q0] 0 1 z:=⟨⟨rfl,rfl,rfl,rfl⟩,m0,by omega,by omega⟩
 have EB:∀{out:Array Keyed} {i j:Nat} {y:SortSt},Gk z y->ML κ a.toList b.toList out.toList i j->b.size<=j->Q (out++a.extract i a.size++b.extract j b.size) y:=fun hg hm hj=>res _ _ _ hg (by rw[aX,aX,kQ,kQ]) (hm.endB ha (by omega))
 have outA:∀{out:Array Keyed} {i j:Nat} {y:SortSt},Gk z y->ML κ a.toList b.toList out.toList i j->a.size<=i->Q (out++a.extract i a.size++b.extract j b.size) y:=fun hg hm hj=>res _ _ _ hg (by rw[aX,aX,kQ,kQ]) (hm.endA hb (by omega))
 have outL:∀{out:Array Keyed} {i j:Nat} {y:SortSt},Gk z y->ML κ a.toList b.toList out.toList i j->i+1=a.size->Q (out++b.extract j b.size++a.extract i a.size) y:=fun{out i j y} hg hm hi=>by
  obtain⟨p,e1,e2⟩:=aat i (by omega)
  exact res _ _ _ hg (by rw[aX,aX,kQ,kQ]) (hm.last hb e2 (by omega) (hl p (by rw[show a.size-1=i by omega];exact e1)))
 have pushA:∀{out:Array Keyed} {i j:Nat} {p:Keyed},ML κ a.toList b.toList out.toList i j->a[i]?=some p->(∀q,b[j]?=some q->Le κ p q)->ML κ a.toList b.toList (out.push p).toList (i+1) j:=fun{out i j p} hm e hq=>by
  rw[cB]
  refine hm.a ha (xJ e) ?_
  rcases fS j b.size with c|c
  ·obtain⟨q,e1,e2⟩:=bat j c
   exact sF hb e2 (hq q e1)
  ·rw[bq (by omega)];intro q hq;cases hq
 have pushB:∀{out:Array Keyed} {i j:Nat} {q:Keyed},ML κ a.toList b.toList out.toList i j->b[j]?=some q->(∀p,a[i]?=some p->Le κ q p)->ML κ a.toList b.toList (out.push q).toList i (j+1):=fun{out i j q} hm e hq=>by
  rw[cB]
  refine(hm.swap.a hb (xJ e) ?_).swap
  rcases fS i a.size with c|c
  ·obtain⟨p,e1,e2⟩:=aat i c
   exact sF ha e2 (hq p e1)
  ·rw[bq (by omega)];intro q hq;cases hq
 refine aB (fJ (cm (I:=fun x c y=>∃out i j g,c=(none,out,i,j,g)/\Mg κ z a b out i j y/\x+1<=i+j)
  (Q:=fun c y=>∃out c',c=(some out,c')/\Q out y) ?_ ?_ ⟨_,_,_,_,rfl,jy,by omega⟩) ?_)
 ·rintro x c y _ hx ⟨out,i,j,g,rfl,hm,hij⟩
  dsimp only
  refine aB (fJ (cm (I:=fun x' c y=>∃out i' j' m n,c=(none,out,i',j',m,n)/\Mg κ z a b out i' j' y/\i+j+x'<=i'+j')
   (Q:=fun c y=>(∃out c',c=(some out,c')/\Q out y)\/∃out i' j' m n,c=(none,out,i',j',m,n)/\Mg κ z a b out i' j' y/\i+j+1<=i'+j') ?_ ?_ ⟨_,_,_,_,_,rfl,hm,by omega⟩) ?_)
  ·rintro x' c y' _ hx' ⟨out,i',j',m,n,rfl,hm',hs⟩
   dsimp only
   obtain⟨p,pe,_⟩:=aat i' (by have:=hm'.i;omega)
   obtain⟨q,qe,_⟩:=bat j' hm'.j
   have i1:=hm'.i
   have j1:=hm'.j
   refine aB (dO qe (aB (dO pe (aB (hL A E q p _ _ y' (n5 kb qe) (n5 ka pe) (hm'.g.k.trans hz) ?_)))))
   cases e:κ.blt (ky κ q) (ky κ p)with
   |true=>
    dsimp only
    rw[am rfl]
    refine aB (dO qe ?_)
    have mm:=pushB hm'.m qe fun p' e'=>by rw[pe]at e';cases e';exact bW e
    by_cases c1:j'+1=b.size
    ·rw[am (by simpa using c1)]
     exact aD (.inl ⟨_,_,rfl,EB hm'.g mm (by omega)⟩)
    ·rw[au (by simpa using c1)]
     have hM:Mg κ z a b (out.push q) i' (j'+1) y':=⟨hm'.g,mm,i1,by omega⟩
     split
     ·exact aD (.inr ⟨_,_,_,_,_,rfl,hM,by omega⟩)
     ·exact aD ⟨_,_,_,_,_,rfl,hM,by omega⟩
   |false=>
    dsimp only
    rw[au (by simp)]
    refine aB (dO pe ?_)
    have mm:=pushA hm'.m pe fun q' e'=>by rw[qe]at e';cases e';exact e
    by_cases c1:i'+1+1=a.size
    ·rw[am (by simpa using c1)]
     exact aD (.inl ⟨_,_,rfl,outL hm'.g mm c1⟩)
    ·rw[au (by simpa using c1)]
     have hM:Mg κ z a b (out.push p) (i'+1) j' y':=⟨hm'.g,mm,by omega,j1⟩
     split
     ·exact aD (.inr ⟨_,_,_,_,_,rfl,hM,by omega⟩)
     ·exact aD ⟨_,_,_,_,_,rfl,hM,by omega⟩
  ·rintro c y' ⟨out,i',j',m,n,rfl,hm',hs⟩
   exact .inr ⟨_,_,_,_,_,rfl,hm',by have:=hm'.i;omega⟩
  ·rintro c y' (⟨out,c',rfl,hq⟩|⟨out,i',j',m,n,rfl,hm',hs⟩)
   ·exact aD ⟨_,_,rfl,hq⟩
   ·dsimp only
    refine aB (lH (dL ⟨rfl,?_⟩))
    refine aB (fJ (cm (I:=fun _ c y=>∃out i2 j2 g m n,c=(none,out,i2,j2,g,m,n)/\Mg κ z a b out i2 j2 y/\i'+j'<=i2+j2)
     (Q:=fun c y=>(∃out c',c=(some out,c')/\Q out y)\/∃out i2 j2 g m n,c=(none,out,i2,j2,g,m,n)/\Mg κ z a b out i2 j2 y/\i'+j'<=i2+j2) ?_ ?_ ⟨_,_,_,_,_,_,rfl,hm',ah _⟩) ?_)
    ·rintro x2 c y2 _ hx2 ⟨out,i2,j2,g2,m,n,rfl,hm2,hs2⟩
     dsimp only
     suffices key:∀g',wpS (model prog w) A E s _ _ y2 by
      by_cases c1:g2>1
      ·rw[am c1]
       generalize g2-1=g'
       exact key g'
      ·rw[au c1]
       exact key g2
     intro g'
     refine aB (yV fun y3 h3=>?_)
     have hg3:=hm2.g.trans h3
     have hk3:=hg3.k.trans hz
     have i1:=hm2.i
     have j1:=hm2.j
     obtain⟨q,qe,qt⟩:=bat j2 hm2.j
     refine aB (dO qe ?_)
     refine aB (qi (lf:=false) hL hk3 (n5 kb qe) ka (by omega) (by omega) (by rw[show i2+(a.size-i2)=a.size by omega];exact yW ha) fun k k1 k2 k3=>?_)
     dsimp only
     suffices key:∀(o2:Array Keyed) (i3:Nat),ML κ a.toList b.toList o2.toList i3 j2->i3+1<a.size->i2<=i3->(∀p,a[i3]?=some p->Le κ q p)->wpS (model prog w) A E s _ _ y3 by
      have kA:∀x p,x<k->a.toList[i2+x]?=some p->κ.kle (ky κ p) (ky κ q):=fun x p hx e=>by
       have:=k2 x hx
       unfold vt at this
       rw[iP (show a[i2+x]?=some p by rw[<- aF];exact e)]at this
       exact(show κ.blt (ky κ q) (ky κ p)=false by simpa using this)
      have kA2:∀p,a[i2+k]?=some p->Le κ q p:=fun p e=>by
       have hk:i2+k<a.size:=(dy.mp e).1
       have:=k3 k (ah _) (by omega)
       unfold vt at this
       rw[iP e]at this
       exact bW (show κ.blt (ky κ q) (ky κ p)=true by simpa using this)
      by_cases c1:k>0
      ·rw[am c1]
       have mm:=hm2.m.as ha hb qt k (by omega) kA
       rw[<- lU,<- aX]at mm
       by_cases c2:i2+k+1=a.size
       ·rw[am (by simpa using c2)]
        exact aD (.inl ⟨_,_,rfl,outL hg3 mm c2⟩)
       ·rw[au (by simpa using c2)]
        by_cases c3:i2+k=a.size
        ·rw[am (by simpa using c3)]
         exact aD (.inl ⟨_,_,rfl,outA hg3 mm (by omega)⟩)
        ·rw[au (by simpa using c3)]
         have b1:i2+k+1<a.size:=by omega
         have b2:i2<=i2+k:=by omega
         generalize out++a.extract i2 (i2+k)=o2 at mm ⊢
         generalize i2+k=i3 at mm b1 b2 kA2 ⊢
         exact key o2 i3 mm b1 b2 kA2
      ·rw[au c1]
       exact key out i2 hm2.m i1 (ah _) (by rw[show k=0 by omega]at kA2;exact kA2)
     intro o2 i3 mm b1 b2 le1
     refine aB (dO qe ?_)
     have m2:=pushB mm qe le1
     by_cases c1:j2+1=b.size
     ·rw[am (by simpa using c1)]
      exact aD (.inl ⟨_,_,rfl,EB hg3 m2 (by omega)⟩)
     rw[au (by simpa using c1)]
     obtain⟨p,pe,pt⟩:=aat i3 (by omega)
     refine aB (dO pe ?_)
     refine aB (qi (lf:=true) hL hk3 (n5 ka pe) kb (by omega) (by omega) (by rw[show j2+1+(b.size-(j2+1))=b.size by omega];exact yW hb) fun k' k1' k2' k3'=>?_)
     dsimp only
     suffices key:∀(o3:Array Keyed) (j3:Nat),ML κ a.toList b.toList o3.toList i3 j3->j3<b.size->j2+1<=j3->(∀q,b[j3]?=some q->Le κ p q)->wpS (model prog w) A E s _ _ y3 by
      have kB:∀x q,x<k'->b.toList[j2+1+x]?=some q->κ.kle (ky κ q) (ky κ p):=fun x q hx e=>by
       have:=k2' x hx
       unfold vt at this
       rw[iP (show b[j2+1+x]?=some q by rw[<- aF];exact e)]at this
       exact bW this
      have kB2:∀q,b[j2+1+k']?=some q->Le κ p q:=fun q e=>by
       have hk:j2+1+k'<b.size:=(dy.mp e).1
       have:=k3' k' (ah _) (by omega)
       unfold vt at this
       rw[iP e]at this
       exact this
      by_cases c2:k'>0
      ·rw[am c2]
       have mm:=(m2.swap.as hb ha pt k' (by omega) kB).swap
       rw[<- lU,<- aX]at mm
       by_cases c3:j2+1+k'=b.size
       ·rw[am (by simpa using c3)]
        exact aD (.inl ⟨_,_,rfl,EB hg3 mm (by omega)⟩)
       ·rw[au (by simpa using c3)]
        have d1:j2+1+k'<b.size:=by omega
        have d2:j2+1<=j2+1+k':=by omega
        generalize o2.push q++b.extract (j2+1) (j2+1+k')=o3 at mm ⊢
        generalize j2+1+k'=j3 at mm d1 d2 kB2 ⊢
        exact key o3 j3 mm d1 d2 kB2
      ·rw[au c2]
       have d1:j2+1<b.size:=by omega
       have le2:∀q,b[j2+1]?=some q->Le κ p q:=by rw[show k'=0 by omega]at kB2;exact kB2
       generalize o2.push q=o3 at m2 ⊢
       have d2:j2+1<=j2+1:=ah _
       generalize hj3:j2+1=j3 at m2 d1 d2 le2 ⊢
       exact key o3 j3 m2 d1 (by omega) le2
     intro o3 j3 m3 d1 d2 le2
     refine aB (dO pe ?_)
     have m4:=pushA m3 pe le2
     by_cases c2:i3+1+1=a.size
     ·rw[am (by simpa using c2)]
      exact aD (.inl ⟨_,_,rfl,outL hg3 m4 c2⟩)
     rw[au (by simpa using c2)]
     have hM:Mg κ z a b (o3.push p) (i3+1) j3 y3:=⟨hg3,m4,by omega,d1⟩
     split
     ·exact aD (.inr ⟨_,_,_,_,_,_,rfl,hM,by omega⟩)
     ·exact aD ⟨_,_,_,_,_,_,rfl,hM,by omega⟩
    ·rintro c y2 ⟨out,i2,j2,g2,m,n,rfl,hm2,hs2⟩
     exact .inr ⟨_,_,_,_,_,_,rfl,hm2,hs2⟩
    ·rintro c y2 (⟨out,c',rfl,hq⟩|⟨out,i2,j2,g2,m,n,rfl,hm2,hs2⟩)
     ·exact aD ⟨_,_,rfl,hq⟩
     ·dsimp only
      exact aB (yV fun y3 h3=>aD ⟨_,_,_,_,rfl,⟨hm2.g.trans h3,hm2.m,hm2.i,hm2.j⟩,by omega⟩)
 ·rintro c y ⟨out,i,j,g,rfl,hm,hij⟩
  have:=hm.i;have:=hm.j
  omega
 ·rintro c y ⟨out,c',rfl,hq⟩
  exact aD hq
end
def BL:Array Keyed->Array Keyed->StateT SortSt Sem (Array Keyed):=sortPriv% PySem.Builtin.mergeHi
def Op(κ:KeyKind):KeyKind where
 α:=κ.α
 blt:=fun a b=>κ.blt b a
 irrefl:=κ.irrefl
 trans:=fun a b c h1 h2=>κ.trans c b a h2 h1
 negTrans:=fun a b c h=>(κ.negTrans c b a h).symm
 total:=fun a b h1 h2=>κ.total a b h2 h1
 keyOf:=κ.keyOf
 dflt:=κ.dflt
section
variable{κ:KeyKind}{kd:SortKind}{x0:Array Keyed}{prog:Program}{w:World}{A:Around}{E:Value->Shared->Prop}{s:Shared}{z z1 z2:SortSt}{i j lo:Nat}
theorem FM{l:List Keyed}(h:SL κ l):SL (Op κ) l.reverse:=mP.mpr h
theorem KN{l:List Keyed}(h:SL (Op κ) l):SL κ l.reverse:=mP.mpr h
theorem yX{a:Array Keyed}{n:Nat}{p:Keyed}(h:a[n-1]?=some p)(h1:1<=n)(hn:n<=a.size):a.toList.reverse[a.size-n]?=some p:=by
 rw[iU (by simp;omega),aO,show a.size-1-(a.size-n)=n-1 by omega]
 exact xJ h
theorem re{a:Array Keyed}{n:Nat}(hn:n<=a.size):(a.extract 0 n).toList=(a.toList.reverse.drop (a.size-n)).reverse:=by
 rw[c8,dE,ni,ma,List.drop_reverse,List.reverse_reverse,aO,show a.size-(a.size-n)=n by omega]
theorem BM{a:Array Keyed}{m n:Nat}(hm:m<=n)(hn:n<=a.size):(a.extract m n).reverse.toList=(a.toList.reverse.drop (a.size-n)).take (n-m):=by
 rw[jl,c8,dE,List.drop_reverse,aO,show a.size-(a.size-n)=n by omega,List.take_reverse,aQ,aO,List.drop_take]
 rw[mz hn,show n-(n-m)=m by omega]
theorem FN{a:Array Keyed}{n x:Nat}{p:Keyed}(hn:n<=a.size)(hx:x<n)(h:a.toList.reverse[a.size-n+x]?=some p):a[n-1-x]?=some p:=by
 rw[iU (by simp;omega),aO,show a.size-1-(a.size-n+x)=n-1-x by omega]at h
 rw[<- aF];exact h
structure Mh(κ:KeyKind)(z:SortSt)(a b out:Array Keyed)(i j:Nat)(y:SortSt):Prop where
 g:Gk z y
 m:ML (Op κ) a.toList.reverse b.toList.reverse out.toList (a.size-i) (b.size-j)
 i:1<=i/\i<=a.size
 j:2<=j/\j<=b.size
theorem KO{a b:Array Keyed}{Q:Array Keyed->SortSt->Prop}(hL:Aw κ kd prog w s)(hz:kindOf z=kd)(ka:KeysOf κ a)(kb:KeysOf κ b)(ha:SL κ a.toList)(hb:SL κ b.toList)(a1:1<=a.size)(b1:1<=b.size)
  (h0:∀q,b[0]?=some q->∀p∈a.toList,Le κ q p) (hl:∀p q,a[a.size-1]?=some p->b[b.size-1]?=some q->Le κ q p)
  (h:∀out y,Gk z y->out.toList.Perm (a.toList++b.toList)->SL κ out.toList->Q out y):wpS (model prog w) A E s (BL a b) Q z:=by
 have ra:SL (Op κ) a.toList.reverse:=FM ha
 have rb:SL (Op κ) b.toList.reverse:=FM hb
 have res:∀(y:SortSt) (out:Array Keyed) (O:List Keyed),Gk z y->out.toList=O.reverse->O.Perm (a.toList.reverse++b.toList.reverse)/\SL (Op κ) O->Q out y:=fun y out O hg e hr=>h out y hg (by
  rw[e];exact((kM O).trans hr.1).trans ((kM _).append (kM _))) (by rw[e];exact KN hr.2)
 have aat:∀i,1<=i->i<=a.size->∃p,a[i-1]?=some p/\a.toList.reverse[a.size-i]?=some p:=fun i h1 hi=>⟨a[i-1],bS a (i-1) (by omega),yX (bS a (i-1) (by omega)) h1 hi⟩
 have bat:∀i,1<=i->i<=b.size->∃p,b[i-1]?=some p/\b.toList.reverse[b.size-i]?=some p:=fun i h1 hi=>⟨b[i-1],bS b (i-1) (by omega),yX (bS b (i-1) (by omega)) h1 hi⟩
 have la:a.toList.reverse.length=a.size:=by simp
 have lb:b.toList.reverse.length=b.size:=by simp
 refine aB (lH (dL ⟨rfl,?_⟩))
 obtain⟨p0,pa,pl⟩:=aat a.size a1 (ah _)
 obtain⟨q0,qb,ql⟩:=bat b.size b1 (ah _)
 rw[me]at pl ql
 have m0:ML (Op κ) a.toList.reverse b.toList.reverse [p0] (a.size-(a.size-1)) (b.size-b.size):=by
  have:=(⟨dY _,List.Pairwise.nil,fun p hp=>by cases hp⟩:ML (Op κ) a.toList.reverse b.toList.reverse [] 0 0).a ra pl (sF rb ql (hl p0 q0 pa qb))
  rw[show a.size-(a.size-1)=1 by omega,me]
  exact this
 refine aB (dO pa ?_)
 dsimp only
 have outD:∀{out:Array Keyed} {i j:Nat} {y:SortSt},Gk z y->ML (Op κ) a.toList.reverse b.toList.reverse out.toList (a.size-i) (b.size-j)->i<=a.size->j<=b.size->i=0\/j=0->Q (a.extract 0 i++b.extract 0 j++out.reverse) y:=fun{out i j y} hg hm hi hj hc=>by
  refine res _ _ _ hg (by rw[aX,aX,re hi,re hj,jl,<- gM,<- gM,<- aY]) (hm.fin' ?_)
  rcases hc with c|c
  ·subst c
   rw[ma,show a.toList.reverse.drop a.size=[]from bq (by omega),cI]
   exact rb.sublist (cV _ _)
  ·subst c
   rw[ma,show b.toList.reverse.drop b.size=[]from bq (by omega),fZ]
   exact ra.sublist (cV _ _)
 have outF:∀{out:Array Keyed} {i:Nat} {y:SortSt},Gk z y->ML (Op κ) a.toList.reverse b.toList.reverse out.toList (a.size-i) (b.size-1)->i<=a.size->Q (b.extract 0 1++a.extract 0 i++out.reverse) y:=fun{out i y} hg hm hi=>by
  refine res _ _ _ hg (by rw[aX,aX,re hi,re b1,jl,<- gM,<- gM,<- aY]) (hm.fin ?_)
  obtain⟨q,e1,e2⟩:=bat 1 (ah _) b1
  rw[rd e2,show b.toList.reverse.drop (b.size-1+1)=[]from bq (by omega)]
  refine fg.mpr ⟨ra.sublist (cV _ _),ik _ _,fun p hp x hx=>?_⟩
  rw[aG.mp hx]
  exact h0 q e1 p (lI.mp (fj hp))
 have pushA:∀{out:Array Keyed} {i j:Nat} {p:Keyed},ML (Op κ) a.toList.reverse b.toList.reverse out.toList (a.size-i) (b.size-j)->1<=i->i<=a.size->j<=b.size->a[i-1]?=some p->(∀q,1<=j->b[j-1]?=some q->Le κ q p)->ML (Op κ) a.toList.reverse b.toList.reverse (out.push p).toList (a.size-(i-1)) (b.size-j):=fun{out i j p} hm i1 i2 j2 e hq=>by
  rw[cB,show a.size-(i-1)=a.size-i+1 by omega]
  refine hm.a ra (yX e i1 i2) ?_
  rcases Nat.eq_zero_or_pos j with c|c
  ·subst c
   rw[bq (by omega)];intro q hq;cases hq
  ·obtain⟨q,e1,e2⟩:=bat j c j2
   exact sF rb e2 (hq q c e1)
 have pushB:∀{out:Array Keyed} {i j:Nat} {q:Keyed},ML (Op κ) a.toList.reverse b.toList.reverse out.toList (a.size-i) (b.size-j)->1<=j->j<=b.size->i<=a.size->b[j-1]?=some q->(∀p,1<=i->a[i-1]?=some p->Le κ p q)->ML (Op κ) a.toList.reverse b.toList.reverse (out.push q).toList (a.size-i) (b.size-(j-1)):=fun{out i j q} hm j1 j2 i2 e hq=>by
  rw[cB,show b.size-(j-1)=b.size-j+1 by omega]
  refine(hm.swap.a rb (yX e j1 j2) ?_).swap
  rcases Nat.eq_zero_or_pos i with c|c
  ·subst c
   rw[bq (by omega)];intro q hq;cases hq
  ·obtain⟨p,e1,e2⟩:=aat i c i2
   exact sF ra e2 (hq p c e1)
 by_cases g1:a.size-1=0
 ·rw[am (by simpa using g1)]
  exact aD (outD ⟨rfl,rfl,rfl,rfl⟩ m0 (by omega) (ah _) (.inl g1))
 rw[au (by simpa using g1)]
 by_cases g2:b.size=1
 ·rw[am (by simpa using g2)]
  rw[g2]at m0 ⊢
  rw[<- g2]at m0
  refine aD (outF ⟨rfl,rfl,rfl,rfl⟩ ?_ (by omega))
  rw[<- g2];exact m0
 rw[au (by simpa using g2)]
 refine aB (je ?_)
 have jy:Mh κ z a b #[p0] (a.size-1) b.size z:=⟨⟨rfl,rfl,rfl,rfl⟩,m0,by omega,by omega⟩
 refine aB (fJ (cm (I:=fun x c y=>∃i j out g,c=(none,i,j,out,g)/\Mh κ z a b out i j y/\i+j+x+1<=a.size+b.size)
  (Q:=fun c y=>∃out c',c=(some out,c')/\Q out y) ?_ ?_ ⟨_,_,_,_,rfl,jy,by omega⟩) ?_)
 ·rintro x c y _ hx ⟨i,j,out,g,rfl,hm,hij⟩
  dsimp only
  refine aB (fJ (cm (I:=fun x' c y=>∃i' j' out m n,c=(none,i',j',out,m,n)/\Mh κ z a b out i' j' y/\i'+j'+x'<=i+j)
   (Q:=fun c y=>(∃out c',c=(some out,c')/\Q out y)\/∃i' j' out m n,c=(none,i',j',out,m,n)/\Mh κ z a b out i' j' y/\i'+j'+1<=i+j) ?_ ?_ ⟨_,_,_,_,_,rfl,hm,by omega⟩) ?_)
  ·rintro x' c y' _ hx' ⟨i',j',out,m,n,rfl,hm',hs⟩
   dsimp only
   have i1:=hm'.i
   have j1:=hm'.j
   obtain⟨p,pe,_⟩:=aat i' i1.1 i1.2
   obtain⟨q,qe,_⟩:=bat j' (by omega) j1.2
   refine aB (dO qe (aB (dO pe (aB (hL A E q p _ _ y' (n5 kb qe) (n5 ka pe) (hm'.g.k.trans hz) ?_)))))
   cases e:κ.blt (ky κ q) (ky κ p)with
   |true=>
    dsimp only
    rw[am rfl]
    refine aB (dO pe ?_)
    have mm:=pushA hm'.m i1.1 i1.2 j1.2 pe fun q' _ e'=>by rw[qe]at e';cases e';exact bW e
    by_cases c1:i'-1=0
    ·rw[am (by simpa using c1)]
     exact aD (.inl ⟨_,_,rfl,outD hm'.g mm (by omega) j1.2 (.inl c1)⟩)
    ·rw[au (by simpa using c1)]
     have hM:Mh κ z a b (out.push p) (i'-1) j' y':=⟨hm'.g,mm,by omega,j1⟩
     split
     ·exact aD (.inr ⟨_,_,_,_,_,rfl,hM,by omega⟩)
     ·exact aD ⟨_,_,_,_,_,rfl,hM,by omega⟩
   |false=>
    dsimp only
    rw[au (by simp)]
    refine aB (dO qe ?_)
    have mm:=pushB hm'.m (by omega) j1.2 i1.2 qe fun p' _ e'=>by rw[pe]at e';cases e';exact e
    by_cases c1:j'-1=1
    ·rw[am (by simpa using c1)]
     rw[c1]at mm ⊢
     exact aD (.inl ⟨_,_,rfl,outF hm'.g mm i1.2⟩)
    ·rw[au (by simpa using c1)]
     have hM:Mh κ z a b (out.push q) i' (j'-1) y':=⟨hm'.g,mm,i1,by omega⟩
     split
     ·exact aD (.inr ⟨_,_,_,_,_,rfl,hM,by omega⟩)
     ·exact aD ⟨_,_,_,_,_,rfl,hM,by omega⟩
  ·rintro c y' ⟨i',j',out,m,n,rfl,hm',hs⟩
   exact .inr ⟨_,_,_,_,_,rfl,hm',by omega⟩
  ·rintro c y' (⟨out,c',rfl,hq⟩|⟨i',j',out,m,n,rfl,hm',hs⟩)
   ·exact aD ⟨_,_,rfl,hq⟩
   ·dsimp only
    refine aB (lH (dL ⟨rfl,?_⟩))
    refine aB (fJ (cm (I:=fun _ c y=>∃i2 j2 out g m n,c=(none,i2,j2,out,g,m,n)/\Mh κ z a b out i2 j2 y/\i2+j2<=i'+j')
     (Q:=fun c y=>(∃out c',c=(some out,c')/\Q out y)\/∃i2 j2 out g m n,c=(none,i2,j2,out,g,m,n)/\Mh κ z a b out i2 j2 y/\i2+j2<=i'+j') ?_ ?_ ⟨_,_,_,_,_,_,rfl,hm',ah _⟩) ?_)
    ·rintro x2 c y2 _ hx2 ⟨i2,j2,out,g2,m,n,rfl,hm2,hs2⟩
     dsimp only
     suffices key:∀g',wpS (model prog w) A E s _ _ y2 by
      by_cases c1:g2>1
      ·rw[am c1]
       generalize g2-1=g'
       exact key g'
      ·rw[au c1]
       exact key g2
     intro g'
     refine aB (yV fun y3 h3=>?_)
     have hg3:=hm2.g.trans h3
     have hk3:=hg3.k.trans hz
     have i1:=hm2.i
     have j1:=hm2.j
     obtain⟨q,qe,qt⟩:=bat j2 (by omega) j1.2
     refine aB (dO qe ?_)
     refine aB (qi (lf:=false) (base:=0) hL hk3 (n5 kb qe) ka (by omega) (by omega) (fun u v h1 h2 h4=>yW ha u v h1 h2 (by omega)) fun k k1 k2 k3=>?_)
     dsimp only
     suffices key:∀(o2:Array Keyed) (i3 ac:Nat),ML (Op κ) a.toList.reverse b.toList.reverse o2.toList (a.size-i3) (b.size-j2)->1<=i3->i3<=i2->(∀p,1<=i3->a[i3-1]?=some p->Le κ p q)->wpS (model prog w) A E s _ _ y3 by
      have kA:∀x p,x<i2-k->a.toList.reverse[a.size-i2+x]?=some p->(Op κ).kle (ky κ p) (ky κ q):=fun x p hx e=>by
       have e:=FN i1.2 (by omega) e
       have:=k3 (i2-1-x) (by omega) (by omega)
       unfold vt at this
       rw[fT,iP e]at this
       exact bW (O:=κ.toKeyOrd) (show κ.blt (ky κ q) (ky κ p)=true by simpa using this)
      have kA2:∀p,1<=k->a[k-1]?=some p->Le κ p q:=fun p hk e=>by
       have:=k2 (k-1) (by omega)
       unfold vt at this
       rw[fT,iP e]at this
       exact(show κ.blt (ky κ q) (ky κ p)=false by simpa using this)
      by_cases c1:i2-k>0
      ·rw[am c1]
       have mm:=hm2.m.as ra rb qt (i2-k) (by omega) kA
       rw[<- BM k1 i1.2,<- aX,show a.size-i2+(i2-k)=a.size-k by omega]at mm
       by_cases c2:k=0
       ·rw[am (by simpa using c2)]
        exact aD (.inl ⟨_,_,rfl,outD hg3 mm (by omega) j1.2 (.inl c2)⟩)
       ·rw[au (by simpa using c2)]
        have b1':1<=k:=by omega
        generalize out++(a.extract k i2).reverse=o2 at mm ⊢
        generalize i2-k=ac
        have k1c:=k1
        generalize k=i3 at mm b1' k1c kA2 ⊢
        exact key o2 i3 ac mm b1' k1c kA2
      ·rw[au c1]
       have e:k=i2:=by omega
       exact key out i2 (i2-k) hm2.m i1.1 (ah _) (by rw[e]at kA2;exact kA2)
     intro o2 i3 ac mm b1 b2 le1
     refine aB (dO qe ?_)
     have m2:=pushB mm (by omega) j1.2 (by omega) qe le1
     by_cases c1:j2-1=1
     ·rw[am (by simpa using c1)]
      rw[c1]at m2 ⊢
      exact aD (.inl ⟨_,_,rfl,outF hg3 m2 (by omega)⟩)
     rw[au (by simpa using c1)]
     obtain⟨p,pe,pt⟩:=aat i3 b1 (by omega)
     refine aB (dO pe ?_)
     refine aB (qi (lf:=true) (base:=0) hL hk3 (n5 ka pe) kb (by omega) (by omega) (fun u v h1 h2 h4=>yW hb u v h1 h2 (by omega)) fun k' k1' k2' k3'=>?_)
     dsimp only
     suffices key:∀(o3:Array Keyed) (j3 bc:Nat),ML (Op κ) a.toList.reverse b.toList.reverse o3.toList (a.size-i3) (b.size-j3)->2<=j3->j3<=j2-1->(∀q,1<=j3->b[j3-1]?=some q->Le κ q p)->wpS (model prog w) A E s _ _ y3 by
      have kB:∀x q,x<j2-1-k'->b.toList.reverse[b.size-(j2-1)+x]?=some q->(Op κ).kle (ky κ q) (ky κ p):=fun x q hx e=>by
       have e:=FN (n:=j2-1) (by omega) (by omega) e
       have:=k3' (j2-1-1-x) (by omega) (by omega)
       unfold vt at this
       rw[fT,iP e]at this
       exact this
      have kB2:∀q,1<=k'->b[k'-1]?=some q->Le κ q p:=fun q hk e=>by
       have:=k2' (k'-1) (by omega)
       unfold vt at this
       rw[fT,iP e]at this
       exact bW this
      by_cases c2:j2-1-k'>0
      ·rw[am c2]
       have mm:=(m2.swap.as rb ra pt (j2-1-k') (by omega) kB).swap
       rw[<- BM k1' (by omega),<- aX,show b.size-(j2-1)+(j2-1-k')=b.size-k' by omega]at mm
       by_cases c3:k'=1
       ·rw[am (by simpa using c3)]
        rw[c3]at mm ⊢
        exact aD (.inl ⟨_,_,rfl,outF hg3 mm (by omega)⟩)
       ·rw[au (by simpa using c3)]
        by_cases c4:k'=0
        ·rw[am (by simpa using c4)]
         exact aD (.inl ⟨_,_,rfl,outD hg3 mm (by omega) (by omega) (.inr c4)⟩)
        ·rw[au (by simpa using c4)]
         have d1:2<=k':=by omega
         generalize o2.push q++(b.extract k' (j2-1)).reverse=o3 at mm ⊢
         generalize j2-1-k'=bc
         have k1c:=k1'
         generalize k'=j3 at mm d1 k1c kB2 ⊢
         exact key o3 j3 bc mm d1 k1c kB2
      ·rw[au c2]
       have e:k'=j2-1:=by omega
       exact key (o2.push q) (j2-1) (j2-1-k') m2 (by omega) (ah _) (by rw[e]at kB2;exact kB2)
     intro o3 j3 bc m3 d1 d2 le2
     refine aB (dO pe ?_)
     have m4:=pushA m3 b1 (by omega) (by omega) pe le2
     by_cases c2:i3-1=0
     ·rw[am (by simpa using c2)]
      exact aD (.inl ⟨_,_,rfl,outD hg3 m4 (by omega) (by omega) (.inl c2)⟩)
     rw[au (by simpa using c2)]
     have hM:Mh κ z a b (o3.push p) (i3-1) j3 y3:=⟨hg3,m4,by omega,by omega⟩
     split
     ·exact aD (.inr ⟨_,_,_,_,_,_,rfl,hM,by omega⟩)
     ·exact aD ⟨_,_,_,_,_,_,rfl,hM,by omega⟩
    ·rintro c y2 ⟨i2,j2,out,g2,m,n,rfl,hm2,hs2⟩
     exact .inr ⟨_,_,_,_,_,_,rfl,hm2,hs2⟩
    ·rintro c y2 (⟨out,c',rfl,hq⟩|⟨i2,j2,out,g2,m,n,rfl,hm2,hs2⟩)
     ·exact aD ⟨_,_,rfl,hq⟩
     ·dsimp only
      exact aB (yV fun y3 h3=>aD ⟨_,_,_,_,rfl,⟨hm2.g.trans h3,hm2.m,hm2.i,hm2.j⟩,by omega⟩)
 ·rintro c y ⟨i,j,out,g,rfl,hm,hij⟩
  omega
 ·rintro c y ⟨out,c',rfl,hq⟩
  exact aD hq
end
section
variable{κ:KeyKind}{kd:SortKind}{x0:Array Keyed}{prog:Program}{w:World}{A:Around}{E:Value->Shared->Prop}{s:Shared}{z z1 z2:SortSt}{i j lo:Nat}
theorem HQ{y:SortSt}{Q:PUnit->SortSt->Prop}(h:Q ⟨⟩ y):wpS (model prog w) A E s (set y:StateT SortSt Sem PUnit) Q z:=by
 unfold wpS;rw[StateT.run_set];exact ai ⟨rfl,h⟩
theorem v_(n:Nat):∀(l:List Keyed) (m:Nat) (xs:Array Keyed),n+m+l.length<=xs.size->((l.zipIdx m).foldl (fun a x=>a.setIfInBounds (n+x.2) x.1) xs).toList=xs.toList.take (n+m)++l++xs.toList.drop (n+m+l.length)
 |[],m,xs,_=>by simp
 |p::l,m,xs,h=>by
  rw[cr]at h
  rw[List.zipIdx_cons,List.foldl_cons,v_ n l (m+1) _ (by rw[Array.size_setIfInBounds];omega),kc]
  have hl:n+m<xs.toList.length:=by simp;omega
  rw[show n+(m+1)=n+m+1 by omega,List.take_succ_eq_append_getElem (by rw[List.length_set];exact hl),List.getElem_set_self,List.take_set_of_le (ah _),List.drop_set_of_lt (by omega),cr,show n+m+1+l.length=n+m+(l.length+1) by omega]
  simp
theorem FP{a:Array Keyed}{n:Nat}(h:Up κ a i (i+n))(hn:i+n<=a.size):SL κ ((a.toList.drop i).take n):=by
 refine eW.mpr fun p q hp hq hpq=>?_
 have hq':q<n:=by rw[aQ]at hq;omega
 have:=h (i+p) (i+q) (by omega) (by omega) (by omega)
 rw[iP (bS a (i+p) (by omega)),iP (bS a (i+q) (by omega))]at this
 simpa using this
theorem rg{l:List Keyed}{m:Keyed}{n:Nat}(h:m∈(l.drop i).take n):∃t,i<=t/\t<i+n/\l[t]?=some m:=by
 obtain⟨t,ht⟩:=List.getElem?_of_mem h
 rw[List.getElem?_take]at ht
 split at ht
 ·rw[hJ]at ht
  exact⟨i+t,by omega,by omega,ht⟩
 ·cases ht
theorem laid{xs:Array Keyed}{sa na nb k n:Nat}{M:List Keyed}(hsz:sa+na+nb<=xs.size)(hk:k<na)(hn:n<=nb)(ua:Up κ xs sa (sa+na))(ub:Up κ xs (sa+na) (sa+na+nb))
  (k1:1<=nb->∀p,p<k->κ.kle (KK κ xs (sa+p)) (KK κ xs (sa+na))) (k2:∀q,n<=q->q<nb->κ.kle (KK κ xs (sa+na-1)) (KK κ xs (sa+na+q)))
  (hM:M.Perm ((xs.toList.drop (sa+k)).take (na-k)++(xs.toList.drop (sa+na)).take n)) (hS:SL κ M) {ys:Array Keyed} (hy:ys.toList=xs.toList.take (sa+k)++M++xs.toList.drop (sa+na+n)) :
  ys.Perm xs/\nP xs ys sa (sa+na+nb)/\Up κ ys sa (sa+na+nb):=by
 have hl:xs.toList.length=xs.size:=by simp
 have hml:M.length=na-k+n:=by
  rw[hM.length_eq,aJ,aQ,aQ,bO,bO];omega
 have gy:∀t,ys[t]?=if t<sa+k then xs[t]? else if t<sa+na+n then M[t-(sa+k)]? else xs[t]?:=fun t=>by
  rw[<- aF,hy]
  have e1:(xs.toList.take (sa+k)).length=sa+k:=by rw[aQ];omega
  by_cases c1:t<sa+k
  ·rw[am c1,aY,bw (by omega),bZ c1,aF]
  ·rw[au c1]
   by_cases c2:t<sa+na+n
   ·rw[am c2,bw (by rw[aJ];omega),cE (by omega),e1]
   ·rw[au c2,cE (by rw[aJ];omega),aJ,hJ,e1,show sa+na+n+(t-(sa+k+M.length))=t by omega,aF]
 refine⟨eM.mpr ?_,fun t c=>?_,?_⟩
 ·have e:xs.toList=xs.toList.take (sa+k)++((xs.toList.drop (sa+k)).take (na-k)++(xs.toList.drop (sa+na)).take n)++xs.toList.drop (sa+na+n):=by
   have e1:(xs.toList.drop (sa+k)).take (na-k)++(xs.toList.drop (sa+na)).take n=(xs.toList.drop (sa+k)).take (na-k+n):=by
    rw[List.take_add,List.drop_drop,show sa+k+(na-k)=sa+na by omega]
   have e2:xs.toList.drop (sa+na+n)=(xs.toList.drop (sa+k)).drop (na-k+n):=by
    rw[List.drop_drop,show sa+k+(na-k+n)=sa+na+n by omega]
   rw[e1,e2,aY,gf,gf]
  rw[hy]
  conv=>rhs;rw[e]
  exact(hM.append_left _).append_right _
 ·rw[gy]
  by_cases c1:t<sa+k
  ·rw[am c1]
  ·rw[au c1,au (by omega)]
 ·have hm:∀m∈M,(∀u,sa<=u->u<sa+k->κ.kle (KK κ xs u) (ky κ m))/\∀v,sa+na+n<=v->v<sa+na+nb->κ.kle (ky κ m) (KK κ xs v):=fun m hm=>by
   rcases aZ.mp (hM.mem_iff.mp hm)with c|c
   ·obtain⟨t,t1,t2,t3⟩:=rg c
    rw[<- iP (show xs[t]?=some m by rw[<- aF];exact t3)]
    refine⟨fun u u1 u2=>ua u t u1 (by omega) (by omega),fun v v1 v2=>?_⟩
    have:=k2 (v-(sa+na)) (by omega) (by omega)
    rw[show sa+na+(v-(sa+na))=v by omega]at this
    exact cv (ua t (sa+na-1) (by omega) (by omega) (by omega)) this
   ·obtain⟨t,t1,t2,t3⟩:=rg c
    rw[<- iP (show xs[t]?=some m by rw[<- aF];exact t3)]
    refine⟨fun u u1 u2=>?_,fun v v1 v2=>ub t v t1 (by omega) v2⟩
    have:=k1 (by omega) (u-sa) (by omega)
    rw[show sa+(u-sa)=u by omega]at this
    exact cv this (ub (sa+na) t (ah _) t1 (by omega))
  have mAt:∀t,sa+k<=t->t<sa+na+n->∃m,M[t-(sa+k)]?=some m/\m∈M/\KK κ ys t=ky κ m:=fun t t1 t2=>by
   have hi:t-(sa+k)<M.length:=by omega
   refine⟨M[t-(sa+k)],af hi,bU hi,iP ?_⟩
   rw[gy,au (by omega),am t2,af hi]
  have lo':∀t,t<sa+k->KK κ ys t=KK κ xs t:=fun t c=>KK_congr (by rw[gy,am c])
  have hi':∀t,sa+na+n<=t->KK κ ys t=KK κ xs t:=fun t c=>KK_congr (by rw[gy,au (by omega),au (by omega)])
  intro p q h1 h2 h3
  by_cases p1:p<sa+k
  ·rw[lo' p p1]
   by_cases q1:q<sa+k
   ·rw[lo' q q1];exact ua p q h1 h2 (by omega)
   ·by_cases q2:q<sa+na+n
    ·obtain⟨m,_,hmm,e⟩:=mAt q (by omega) q2
     rw[e];exact(hm m hmm).1 p h1 p1
    ·rw[hi' q (by omega)]
     have:=k1 (by omega) (p-sa) (by omega)
     rw[show sa+(p-sa)=p by omega]at this
     exact cv this (ub (sa+na) q (ah _) (by omega) h3)
  ·by_cases p2:p<sa+na+n
   ·obtain⟨m,em,hmm,e⟩:=mAt p (by omega) p2
    rw[e]
    by_cases q2:q<sa+na+n
    ·obtain⟨m',em',hmm',e'⟩:=mAt q (by omega) q2
     rw[e']
     rcases fS p q with c|c
     ·obtain⟨g1,g2⟩:=al.mp em
      obtain⟨g3,g4⟩:=al.mp em'
      have:=eW.mp hS _ _ g1 g3 (by omega)
      rw[g2,g4]at this;exact this
     ·rw[show p=q by omega,em']at em
      cases em;exact d7 _
    ·rw[hi' q (by omega)];exact(hm m hmm).2 q (by omega) h3
   ·rw[hi' p (by omega),hi' q (by omega)]
    exact ub p q (by omega) h2 h3
end
section
variable{κ:KeyKind}{kd:SortKind}{x0:Array Keyed}{prog:Program}{w:World}{A:Around}{E:Value->Shared->Prop}{s:Shared}{z z1 z2:SortSt}{i j lo:Nat}
theorem SB.keys(h:SB κ kd x0 z)(h0:KeysOf κ x0):KeysOf κ (arrOf z):=fun p hp=>h0 p ((eM.mp h.pm).mem_iff.mp hp)
theorem yY{xs:Array Keyed}(h:KeysOf κ xs):KeysOf κ (xs.extract i j):=fun p hp=>h p (by
 rw[c8,dE]at hp
 exact fj (gA hp))
theorem FQ{xs:Array Keyed}{n t:Nat}(ht:t<n):(xs.extract i (i+n))[t]?=xs[i+t]?:=by
 rw[<- aF,lU,bZ ht,hJ,aF]
theorem HR{α:Type}{m:StateT SortSt Sem α}{Q:α->SortSt->Prop}{P:SortSt->Prop}(h:∀y,P y->wpS (model prog w) A E s m Q y)(hz:P z):wpS (model prog w) A E s m Q z:=h z hz
theorem KP{sa na pw sb nb Mk:Nat}{Q:Bool->SortSt->Prop}(hL:Aw κ kd prog w s)(h0:KeysOf κ x0)(hz:SB κ kd x0 z)(e1:(pendingOf z)[i]?=some (sa,na,pw))(e2:(pendingOf z)[i+1]?=some (sb,nb,Mk))(N8:sb=sa+na)(hsz:sa+na+nb<=x0.size)(ND:1<=na)(Me:1<=nb)
  (ua:Up κ (arrOf z) sa (sa+na)) (ub:Up κ (arrOf z) (sa+na) (sa+na+nb))
  (h:∀y,SB κ kd x0 y->nP (arrOf z) (arrOf y) sa (sa+na+nb)->Up κ (arrOf y) sa (sa+na+nb)->pendingOf y=((pendingOf z).setIfInBounds i (sa,na+nb,pw)).eraseIdxIfInBounds (i+1)->Q true y):wpS (model prog w) A E s (mergeAt' i) Q z:=by
 subst N8
 have hs:(arrOf z).size=x0.size:=hz.sz
 have kz:=hz.keys h0
 refine aB (je ?_)
 dsimp only
 rw[e1,e2]
 dsimp only
 refine aB (HQ ?_)
 refine HR (P:=fun y=>SB κ kd x0 y/\arrOf y=arrOf z/\pendingOf y=((pendingOf z).setIfInBounds i (sa,na+nb,pw)).eraseIdxIfInBounds (i+1)) (fun z1 hz1=>?_) ⟨⟨hz.pm,hz.kd,hz.ok⟩,rfl,rfl⟩
 obtain⟨b1,r1,p1⟩:=hz1
 rw[<- p1]at h
 clear p1 e1 e2
 have xat:∀t,t<(arrOf z).size->∃p,(arrOf z)[t]?=some p/\KK κ (arrOf z) t=ky κ p:=fun t ht=>⟨(arrOf z)[t],bS (arrOf z) t ht,iP (bS (arrOf z) t ht)⟩
 obtain⟨q,qe,qk⟩:=xat (sa+na) (by omega)
 refine aB (dO qe ?_)
 refine aB (qi (lf:=false) hL b1.kd (n5 kz qe) kz (show sa+na<=(arrOf z).size by omega) (by omega) ua fun k k1 k2 k3=>?_)
 dsimp only
 have kA:∀p,p<k->κ.kle (KK κ (arrOf z) (sa+p)) (KK κ (arrOf z) (sa+na)):=fun p hp=>by
  have:=k2 p hp
  unfold vt at this
  rw[qk]
  exact(show κ.blt (ky κ q) (KK κ (arrOf z) (sa+p))=false by simpa using this)
 by_cases c1:na-k=0
 ·rw[am (by simpa using c1)]
  refine aD (h z1 b1 (by rw[r1];exact fun _ _=>rfl) ?_ rfl)
  rw[r1]
  intro p q' h1 h2 h3
  by_cases c2:q'<sa+na
  ·exact ua p q' h1 h2 c2
  ·by_cases c3:p<sa+na
   ·have:=kA (p-sa) (by omega)
    rw[show sa+(p-sa)=p by omega]at this
    exact cv this (ub (sa+na) q' (ah _) (by omega) h3)
   ·exact ub p q' (by omega) h2 h3
 rw[au (by simpa using c1)]
 rw[show sa+k+(na-k)-1=sa+na-1 by omega]
 obtain⟨p,pe,pk⟩:=xat (sa+na-1) (by omega)
 refine aB (dO pe ?_)
 refine aB (qi (lf:=true) hL b1.kd (n5 kz pe) kz (show sa+na+nb<=(arrOf z).size by omega) (by omega) ub fun n n1 n2 n3=>?_)
 dsimp only
 have kB:∀q,n<=q->q<nb->κ.kle (KK κ (arrOf z) (sa+na-1)) (KK κ (arrOf z) (sa+na+q)):=fun q h1 h2=>by
  have:=n3 q h1 h2
  unfold vt at this
  rw[pk];exact this
 have kB2:∀q,q<n->κ.klt (KK κ (arrOf z) (sa+na+q)) (ky κ p):=fun q h1=>by
  have:=n2 q h1
  unfold vt at this
  exact this
 by_cases c2:n=0
 ·rw[am (by simpa using c2)]
  refine aD (h z1 b1 (by rw[r1];exact fun _ _=>rfl) ?_ rfl)
  rw[r1]
  intro p' q' h1 h2 h3
  by_cases c3:q'<sa+na
  ·exact ua p' q' h1 h2 c3
  ·by_cases c4:p'<sa+na
   ·have:=kB (q'-(sa+na)) (by omega) (by omega)
    rw[show sa+na+(q'-(sa+na))=q' by omega]at this
    exact cv (ua p' (sa+na-1) h1 (by omega) (by omega)) this
   ·exact ub p' q' (by omega) h2 h3
 rw[au (by simpa using c2)]
 rw[show sa+na=sa+k+(na-k) by omega]
 have hX:((arrOf z).extract (sa+k) (sa+k+(na-k))).size=na-k:=by rw[Array.size_extract];omega
 have hY:((arrOf z).extract (sa+k+(na-k)) (sa+k+(na-k)+n)).size=n:=by rw[Array.size_extract];omega
 have sX:SL κ ((arrOf z).extract (sa+k) (sa+k+(na-k))).toList:=by rw[lU];exact FP (fun p q h1 h2 h3=>ua p q (by omega) h2 (by omega)) (by omega)
 have sY:SL κ ((arrOf z).extract (sa+k+(na-k)) (sa+k+(na-k)+n)).toList:=by rw[lU];exact FP (fun p q h1 h2 h3=>ub p q (by omega) h2 (by omega)) (by omega)
 have mY:∀q∈((arrOf z).extract (sa+k+(na-k)) (sa+k+(na-k)+n)).toList,∃t,t<n/\KK κ (arrOf z) (sa+na+t)=ky κ q:=fun q hq=>by
  rw[lU]at hq
  obtain⟨t,t1,t2,t3⟩:=rg hq
  exact⟨t-(sa+na),by omega,iP (by rw[<- aF,show sa+na+(t-(sa+na))=t by omega];exact t3)⟩
 have mX:∀q∈((arrOf z).extract (sa+k) (sa+k+(na-k))).toList,∃t,k<=t/\t<na/\KK κ (arrOf z) (sa+t)=ky κ q:=fun q hq=>by
  rw[lU]at hq
  obtain⟨t,t1,t2,t3⟩:=rg hq
  exact⟨t-sa,by omega,by omega,iP (by rw[<- aF,show sa+(t-sa)=t by omega];exact t3)⟩
 have fin:∀(out:Array Keyed) (y:SortSt),Gk z1 y->out.toList.Perm (((arrOf z).extract (sa+k) (sa+k+(na-k))).toList++((arrOf z).extract (sa+k+(na-k)) (sa+k+(na-k)+n)).toList)->SL κ out.toList ->
   ∀y2:SortSt,kindOf y2=kindOf y->pendingOf y2=pendingOf y->failedOf y2=failedOf y->arrOf y2=out.toList.zipIdx.foldl (fun a x=>a.setIfInBounds (sa+k+x.2) x.1) (arrOf y)->Q true y2:=fun out y g hp hs y2 e1 e2 e3 e4=>by
  have ea:arrOf y=(arrOf z):=g.a.trans r1
  have hol:out.toList.length=na-k+n:=by rw[hp.length_eq,aJ,aO,aO,hX,hY]
  rw[lU,lU]at hp
  rw[show sa+k+(na-k)=sa+na by omega]at hp
  have lay:=v_ (sa+k) out.toList 0 (arrOf z) (by omega)
  rw[jH,hol,show sa+k+(na-k+n)=sa+na+n by omega,<- ea,<- e4,ea]at lay
  obtain⟨q1,q2,q3⟩:=laid (κ:=κ) (by omega) (by omega) n1 ua ub (fun _=>kA) kB hp hs lay
  exact h y2 ⟨q1.trans hz.pm,(e1.trans g.k).trans b1.kd,(e3.trans g.f).trans b1.ok⟩ q2 q3 (e2.trans g.p)
 have hX1:1<=((arrOf z).extract (sa+k) (sa+k+(na-k))).size:=by rw[hX];omega
 have hY1:1<=((arrOf z).extract (sa+k+(na-k)) (sa+k+(na-k)+n)).size:=by rw[hY];omega
 have kX:=yY (i:=sa+k) (j:=sa+k+(na-k)) kz
 have kY:=yY (i:=sa+k+(na-k)) (j:=sa+k+(na-k)+n) kz
 have firstLe:∀q',((arrOf z).extract (sa+k+(na-k)) (sa+k+(na-k)+n))[0]?=some q'->∀p'∈((arrOf z).extract (sa+k) (sa+k+(na-k))).toList,Le κ q' p':=fun q' e p' hp=>by
  obtain⟨t,t1,t2,t3⟩:=mX p' hp
  rw[FQ (by omega),jH,show sa+k+(na-k)=sa+na by omega,qe]at e
  cases e
  have:=k3 t t1 t2
  unfold vt at this
  rw[t3]at this
  exact bW (show κ.blt (ky κ q) (ky κ p')=true by simpa using this)
 have lastLe:∀p',((arrOf z).extract (sa+k) (sa+k+(na-k)))[((arrOf z).extract (sa+k) (sa+k+(na-k))).size-1]?=some p'->∀q'∈((arrOf z).extract (sa+k+(na-k)) (sa+k+(na-k)+n)).toList,Le κ q' p':=fun p' e q' hq=>by
  obtain⟨t,t1,t2⟩:=mY q' hq
  rw[hX,FQ (by omega),show sa+k+(na-k-1)=sa+na-1 by omega,pe]at e
  cases e
  have:=kB2 t t1
  rw[t2]at this
  exact bW this
 split
 ·refine aB (KM hL b1.kd kX kY sX sY hX1 hY1 (fun p' q' e1 e2=>firstLe q' e2 p' (by rw[gs];exact iV e1)) lastLe fun out y g hp hs=>?_)
  refine aB (g_ (aB (je (aD ?_))))
  have e:failedOf y=none:=g.f.trans b1.ok
  show Q (failedOf y).isNone _
  rw[e];exact fin out y g hp hs _ rfl rfl rfl rfl
 ·refine aB (KO hL b1.kd kX kY sX sY hX1 hY1 firstLe (fun p' q' e1 e2=>lastLe p' e1 q' (by rw[gs];exact iV e2)) fun out y g hp hs=>?_)
  refine aB (g_ (aB (je (aD ?_))))
  have e:failedOf y=none:=g.f.trans b1.ok
  show Q (failedOf y).isNone _
  rw[e];exact fin out y g hp hs _ rfl rfl rfl rfl
end
section
variable{κ:KeyKind}{kd:SortKind}{x0:Array Keyed}{prog:Program}{w:World}{A:Around}{E:Value->Shared->Prop}{s:Shared}{z z1 z2:SortSt}{i j lo:Nat}
def rh(κ:KeyKind)(xs:Array Keyed):List (Nat×Nat)->Nat->Nat->Prop
 |[],a,b=>a=b
 |r::l,a,b=>r.1=a/\1<=r.2/\Up κ xs a (a+r.2)/\rh κ xs l (a+r.2) b
abbrev rn(r:Nat×Nat×Nat):Nat×Nat:=(r.1,r.2.1)
abbrev Dt(p:Array (Nat×Nat×Nat)):List (Nat×Nat):=p.toList.map rn
theorem rh.app{xs:Array Keyed}:∀{l m:List (Nat×Nat)} {a c:Nat},rh κ xs (l++m) a c↔∃b,rh κ xs l a b/\rh κ xs m b c
 |[],m,a,c=>⟨fun h=>⟨a,rfl,h⟩,fun⟨b,h1,h2⟩=>by rw[show a=b from h1];exact h2⟩
 |r::l,m,a,c=>⟨fun⟨h1,h2,h3,h4⟩=>by
   obtain⟨b,g1,g2⟩:=rh.app.mp h4
   exact⟨b,⟨h1,h2,h3,g1⟩,g2⟩,fun⟨b,⟨h1,h2,h3,g1⟩,g2⟩=>⟨h1,h2,h3,rh.app.mpr ⟨b,g1,g2⟩⟩⟩
theorem rh.len{xs:Array Keyed}:∀{l:List (Nat×Nat)} {a c:Nat},rh κ xs l a c->a+l.length<=c
 |[],a,c,h=>by rw[show a=c from h];exact ah _
 |r::l,a,c,⟨_,h2,_,h4⟩=>by
  have:=h4.len
  rw[cr];omega
theorem rh.same{xs ys:Array Keyed}:∀{l:List (Nat×Nat)} {a c:Nat},rh κ xs l a c->(∀k,a<=k->k<c->ys[k]?=xs[k]?)->rh κ ys l a c
 |[],a,c,h,_=>h
 |r::l,a,c,⟨h1,h2,h3,h4⟩,e=>by
  have:=h4.len
  exact⟨h1,h2,h3.same fun k k1 k2=>e k k1 (by omega),h4.same fun k k1 k2=>e k (by omega) k2⟩
theorem wa{p:Array (Nat×Nat×Nat)}:(Dt p).length=p.size:=by simp
theorem KQ{Q:Bool->SortSt->Prop}(hL:Aw κ kd prog w s)(h0:KeysOf κ x0)(hz:SB κ kd x0 z)(LF:lo<=x0.size)(hp:rh κ (arrOf z) (Dt (pendingOf z)) 0 lo)(hi:i+1<(pendingOf z).size)
  (h:∀y,SB κ kd x0 y->nP (arrOf z) (arrOf y) 0 lo->rh κ (arrOf y) (Dt (pendingOf y)) 0 lo->(pendingOf y).size+1=(pendingOf z).size->Q true y):wpS (model prog w) A E s (mergeAt' i) Q z:=by
 have e1:(pendingOf z)[i]?=some (pendingOf z)[i]:=bS _ i (by omega)
 have e2:(pendingOf z)[i+1]?=some (pendingOf z)[i+1]:=bS _ (i+1) hi
 obtain⟨⟨sa,na,pw⟩,hr1⟩:∃r,r=(pendingOf z)[i]:=⟨_,rfl⟩
 obtain⟨⟨sb,nb,Mk⟩,hr2⟩:∃r,r=(pendingOf z)[i+1]:=⟨_,rfl⟩
 rw[<- hr1]at e1
 rw[<- hr2]at e2
 obtain⟨l,hl⟩:∃l,l=(pendingOf z).toList:=⟨_,rfl⟩
 have hll:l.length=(pendingOf z).size:=by rw[hl];simp
 have g1:l[i]?=some (sa,na,pw):=by rw[hl,aF];exact e1
 have g2:l[i+1]?=some (sb,nb,Mk):=by rw[hl,aF];exact e2
 have wW:l=l.take i++(sa,na,pw)::(sb,nb,Mk)::l.drop (i+2):=by
  obtain⟨a1,a2⟩:=al.mp g1
  obtain⟨b1,b2⟩:=al.mp g2
  conv=>lhs;rw[<- gf i l]
  rw[cb a1,cb b1,a2,b2]
 have hp':rh κ (arrOf z) (l.map rn) 0 lo:=by rw[hl];exact hp
 rw[wW,bH]at hp'
 obtain⟨b,q1,q2⟩:=rh.app.mp hp'
 obtain⟨r1,r2,r3,s1,s2,s3,s4⟩:=q2
 have r1:sa=b:=r1
 have r2:1<=na:=r2
 have s1:sb=b+na:=s1
 have s2:1<=nb:=s2
 subst r1
 subst s1
 have s3:Up κ (arrOf z) (sa+na) (sa+na+nb):=s3
 have s4:rh κ (arrOf z) ((l.drop (i+2)).map rn) (sa+na+nb) lo:=s4
 have r3:Up κ (arrOf z) sa (sa+na):=r3
 have eZ:=s4.len
 have hl1:=q1.len
 refine KP hL h0 hz e1 e2 rfl (by omega) r2 s2 r3 s3 fun y b1 b2 b3 b4=>?_
 have e:(pendingOf y).toList=l.take i++(sa,na+nb,pw)::l.drop (i+2):=by
  rw[b4,Array.toList_eraseIdxIfInBounds,kc,<- hl]
  conv=>lhs;rw[wW]
  have h3:(l.take i).length=i:=by rw[aQ];omega
  rw[iW _ _ (by omega),h3,me,List.set_cons_zero,List.eraseIdx_append_of_length_le (by omega),h3,show i+1-i=1 by omega];rfl
 refine h y b1 (fun k c=>b2 k (by omega)) ?_ ?_
 ·show rh κ (arrOf y) ((pendingOf y).toList.map rn) 0 lo
  rw[e,bH]
  refine rh.app.mpr ⟨sa,q1.same fun k k1 k2=>b2 k (by omega),rfl,show 1<=na+nb by omega,?_,?_⟩
  ·show Up κ (arrOf y) sa (sa+(na+nb))
   rw[<- Nat.add_assoc];exact b3
  ·show rh κ (arrOf y) ((l.drop (i+2)).map rn) (sa+(na+nb)) lo
   rw[<- Nat.add_assoc]
   exact s4.same fun k k1 k2=>b2 k (by omega)
 ·rw[<- aO,e,aJ,cr,aQ,bO];omega
end
section
variable{κ:KeyKind}{kd:SortKind}{x0:Array Keyed}{prog:Program}{w:World}{A:Around}{E:Value->Shared->Prop}{s:Shared}{z z1 z2:SortSt}{i j lo:Nat}
theorem EG{p:Array (Nat×Nat×Nat)}{f:Nat×Nat×Nat->Nat×Nat×Nat}(hf:∀r,rn (f r)=rn r):Dt (p.modify i f)=Dt p:=by
 unfold Dt
 refine e_ fun t=>?_
 rw[aL,aL,aF,aF,Array.getElem?_modify]
 split
 ·cases p[t]? with
  |none=>rfl
  |some r=>exact eL some (hf r)
 ·rfl
structure Ok(κ:KeyKind)(kd:SortKind)(x0:Array Keyed)(lo:Nat)(y:SortSt):Prop where
 b:SB κ kd x0 y
 r:rh κ (arrOf y) (Dt (pendingOf y)) 0 lo
theorem Ok.push{n:Nat}(h:Ok κ kd x0 lo z)(hn:1<=n)(hu:Up κ (arrOf z) lo (lo+n)):Ok κ kd x0 (lo+n) (setPending z ((pendingOf z).push (lo,n,0))):=by
 refine⟨⟨h.b.pm,h.b.kd,h.b.ok⟩,?_⟩
 show rh κ (arrOf z) (((pendingOf z).push (lo,n,0)).toList.map rn) 0 (lo+n)
 rw[cB,bH]
 exact rh.app.mpr ⟨lo,h.r,rfl,hn,hu,rfl⟩
theorem HS{b:Prop}[Decidable b]{n:Nat}:(if b then n-1 else n)<=n:=by split<;>omega
theorem wp_runs{Q:Unit->SortSt->Prop}(hL:Aw κ kd prog w s)(h0:KeysOf κ x0)(hz:SB κ kd x0 z)(hp:pendingOf z=#[])(h1:1<=x0.size)
  (h:∀y,(arrOf y).Perm x0->failedOf y=none->Up κ (arrOf y) 0 x0.size->Q () y):wpS (model prog w) A E s sortRuns' Q z:=by
 rw[sortRuns'_eq]
 refine aB (je ?_)
 dsimp only
 rw[hz.sz]
 generalize minRun' x0.size x0.size 0=mr
 have ok0:Ok κ kd x0 0 z:=⟨hz,by rw[hp];rfl⟩
 refine aB (fJ (cm (I:=fun x c y=>∃lo,c=(none,lo)/\Ok κ kd x0 lo y/\lo<=x0.size/\(x<=lo\/lo=x0.size))
  (Q:=fun c y=>c=(none,x0.size)/\Ok κ kd x0 x0.size y) ?_ ?_ ⟨0,rfl,ok0,br _,.inl (ah _)⟩) ?_)
 ·rintro x c y _ hx ⟨lo,rfl,hk,LF,hxl⟩
  dsimp only
  by_cases g:lo≥x0.size
  ·rw[am g]
   have e:lo=x0.size:=by omega
   subst e
   exact aD ⟨rfl,hk⟩
  rw[au g]
  refine aB (HM hL h0 hk.b (by omega) (by omega) fun m y1 c1 m1 m2 u1=>?_)
  dsimp only
  have k1:Ok κ kd x0 lo y1:=⟨c1.b,by rw[c1.p];exact hk.r.same fun k _ k2=>c1.o k (.inl k2)⟩
  suffices key:∀(n:Nat) (y2:SortSt),1<=n->lo+n<=x0.size->Ok κ kd x0 lo y2->Up κ (arrOf y2) lo (lo+n)->wpS (model prog w) A E s _ _ y2 by
   by_cases c2:m<mr
   ·rw[am c2]
    refine aB (lH (dL ⟨rfl,?_⟩))
    refine aB (HN hL h0 k1.b (by omega) (show m<=min (x0.size-lo) mr by omega) m1 u1 fun y3 c3 u3=>?_)
    rw[au (by simp)]
    have n1:1<=min (x0.size-lo) mr:=by omega
    have n2:lo+min (x0.size-lo) mr<=x0.size:=by omega
    have k3:Ok κ kd x0 lo y3:=⟨c3.b,by rw[c3.p];exact k1.r.same fun k _ k2=>c3.o k (.inl k2)⟩
    clear c3
    generalize min (x0.size-lo) mr=n at u3 n1 n2 ⊢
    exact key n y3 n1 n2 k3 u3
   ·rw[au c2]
    have n2:lo+m<=x0.size:=by omega
    exact key m y1 m1 n2 k1 u1
  intro n y2 n1 n2 k2 u2
  have fin:∀y',Ok κ kd x0 lo y'->Up κ (arrOf y') lo (lo+n)->∃lo',((none,lo+n):Option Unit×Nat)=(none,lo')/\Ok κ kd x0 lo' (setPending y' ((pendingOf y').push (lo,n,0)))/\lo'<=x0.size/\(x+1<=lo'\/lo'=x0.size):=fun y' hk' hu'=>⟨lo+n,rfl,hk'.push n1 hu',n2,by omega⟩
  refine aB (je ?_)
  cases e:(pendingOf y2).back? with
  |none=>exact aB (g_ (aD (fin y2 k2 u2)))
  |some r=>
   obtain⟨s1,n',pw⟩:=r
   dsimp only
   generalize power' x0.size (2*s1+n') (2*s1+n'+n'+n) x0.size=pw
   refine aB (fJ (cm (I:=fun _ c y=>c=(none,())/\Ok κ kd x0 lo y/\Up κ (arrOf y) lo (lo+n)) (Q:=fun c y=>c=(none,())/\Ok κ kd x0 lo y/\Up κ (arrOf y) lo (lo+n)) ?_ (fun _ _ q=>q) ⟨rfl,k2,u2⟩) ?_)
   ·rintro x' c y' _ _ ⟨rfl,k3,u3⟩
    refine aB (je ?_)
    by_cases g2:(pendingOf y').size>1
    ·rw[am g2]
     have e2:(pendingOf y')[(pendingOf y').size-2]?=some (pendingOf y')[(pendingOf y').size-2]:=bS _ _ (by omega)
     rw[e2]
     generalize (pendingOf y')[(pendingOf y').size-2]=r
     obtain⟨ra,rb,older⟩:=r
     dsimp only
     split
     ·exact aD ⟨rfl,k3,u3⟩
     ·refine aB (KQ hL h0 k3.b (by omega) k3.r (by omega) fun y4 b4 s4 r4 _=>?_)
      rw[au (by simp)]
      exact aD ⟨rfl,⟨b4,r4⟩,u3.same fun k k1 k2=>s4 k (.inr k1)⟩
    ·rw[au g2]
     exact aD ⟨rfl,k3,u3⟩
   ·rintro c y' ⟨rfl,k3,u3⟩
    dsimp only
    refine aB (g_ (aB (g_ (aD (fin _ ⟨⟨k3.b.pm,k3.b.kd,k3.b.ok⟩,?_⟩ u3)))))
    show rh κ (arrOf y') (Dt ((pendingOf y').modify ((pendingOf y').size-1) fun x=>(x.1,x.2.1,pw))) 0 lo
    rw[EG (f:=fun x=>(x.1,x.2.1,pw)) fun r=>rfl]
    exact k3.r
 ·rintro c y ⟨lo,rfl,hk,LF,hxl⟩
  have e:lo=x0.size:=by omega
  subst e
  exact⟨rfl,hk⟩
 ·rintro c y ⟨rfl,hk⟩
  dsimp only
  refine aB (fJ (cm (I:=fun x c y=>c=(none,())/\Ok κ kd x0 x0.size y/\((pendingOf y).size<=1\/(pendingOf y).size+x<=x0.size))
   (Q:=fun c y=>c=(none,())/\Ok κ kd x0 x0.size y/\(pendingOf y).size<=1) ?_ ?_ ⟨rfl,hk,.inr (by have:=hk.r.len;rw[wa]at this;omega)⟩) ?_)
  ·rintro x c y _ hx ⟨rfl,hk,hs⟩
   refine aB (je ?_)
   by_cases g:(pendingOf y).size<=1
   ·rw[am g]
    exact aD ⟨rfl,hk,g⟩
   rw[au g]
   refine aB (KQ hL h0 hk.b (ah _) hk.r (dJ (Nat.succ_le_succ HS) (show(pendingOf y).size-2+1<(pendingOf y).size by omega)) fun y4 b4 s4 r4 e4=>?_)
   rw[au (by simp)]
   exact aD ⟨rfl,⟨b4,r4⟩,by omega⟩
  ·rintro c y ⟨rfl,hk,hs⟩
   exact⟨rfl,hk,by omega⟩
  ·rintro c y ⟨rfl,hk,hs⟩
   refine aD (h y hk.b.pm hk.b.ok ?_)
   have hr:=hk.r
   have hl:(Dt (pendingOf y)).length<=1:=by rw[wa];exact hs
   generalize Dt (pendingOf y)=l at hr hl
   match l,hr,hl with
   |[],hr,_=>exact absurd (show 0=x0.size from hr) (by omega)
   |[r],⟨_,_,hu,e⟩,_=>
    have e:0+r.2=x0.size:=e
    rw[e]at hu;exact hu
   |_::_::_,_,hl=>simp at hl
end
end TS
namespace SI
open PySem PySem.Spec PyProof.Rows L2
abbrev xK(xs:Array Nat):Prop:=xs.toList.Pairwise (· < ·)
theorem xK.lt{xs:Array Nat}(h:xK xs){i k:Nat}(hi:i<k)(hk:k<xs.size):xs.getD i 0<xs.getD k 0:=by
 have:=eW.mp h i k (by simp;omega) (by simpa using hk) hi
 rw[bN,bN,aS (by omega),aS hk]
 simpa using this
theorem EH{xs:Array Nat}{k a b:Nat}(h:k<xs.size):xs.getD k a=xs.getD k b:=by
 rw[bN,bN,aS h];rfl
theorem sH{xs:Array Nat}{j:Nat}(hA:xK xs):∀f lo hi,hi<=xs.size->lo<=hi->hi-lo<=f->(∀k,k<lo->xs.getD k 0<j)->(∀k,hi<=k->k<xs.size->j<=xs.getD k 0) ->
  SetTable.below.go xs j f lo hi<=xs.size/\(∀k,k<SetTable.below.go xs j f lo hi->xs.getD k 0<j)/\(∀k,SetTable.below.go xs j f lo hi<=k->k<xs.size->j<=xs.getD k 0)
 |0,lo,hi,h1,h2,h3,h4,h5=>by
  obtain rfl:lo=hi:=by omega
  unfold SetTable.below.go
  exact⟨h1,h4,h5⟩
 |f+1,lo,hi,h1,h2,h3,h4,h5=>by
  have a1:lo<hi->hi-((lo+hi)/2+1)<=f:=fun c=>by clear h4 h5;omega
  have a2:lo<hi->(lo+hi)/2-lo<=f:=fun c=>by clear h4 h5;omega
  unfold SetTable.below.go
  by_cases hlt:lo<hi
  ·have a1:=a1 hlt
   have a2:=a2 hlt
   have hm:(lo+hi)/2<xs.size:=by clear h4 h5;omega
   rw[am hlt]
   dsimp only
   rw[EH (b:=0) hm]
   by_cases c:xs.getD ((lo+hi)/2) 0<j
   ·rw[am c]
    refine sH hA f _ _ h1 (by clear h4 h5;omega) a1 (fun k hk=>?_) h5
    by_cases e:k=(lo+hi)/2
    ·rw[e];exact c
    ·exact pQ (hA.lt (show k<(lo+hi)/2 by omega) hm) c
   ·rw[au c]
    refine sH hA f _ _ (by omega) (by omega) a2 h4 fun k hk hs=>?_
    by_cases e:k=(lo+hi)/2
    ·rw[e];exact lA c
    ·exact dQ (dJ (lA c) (hA.lt (show(lo+hi)/2<k by omega) hs))
  ·rw[au hlt]
   exact⟨by omega,h4,fun k hk=>h5 k (by omega)⟩
theorem sI{xs:Array Nat}(j:Nat)(hA:xK xs):SetTable.below xs j<=xs.size/\(∀k,k<SetTable.below xs j->xs.getD k 0<j)/\(∀k,SetTable.below xs j<=k->k<xs.size->j<=xs.getD k 0):=
 sH hA xs.size 0 xs.size (ah _) (br _) (by omega) (fun k hk=>absurd hk (fY k)) fun k h1 h2=>by omega
theorem xL{xs:Array Nat}(hA:xK xs):SetTable.below xs 0=0:=by
 obtain⟨_,h2,_⟩:=sI 0 hA
 by_cases e:SetTable.below xs 0=0
 ·exact e
 ·exact absurd (h2 0 (by omega)) (fY _)
theorem xM{xs:Array Nat}{i:Nat}(hA:xK xs)(hi:i<xs.size):SetTable.below xs (xs.getD i 0+1)=i+1:=by
 obtain⟨h1,h2,h3⟩:=sI (xs.getD i 0+1) hA
 have a:¬ SetTable.below xs (xs.getD i 0+1)<=i:=fun z=>by have:=h3 i z hi;omega
 have b:¬ i+1<SetTable.below xs (xs.getD i 0+1):=fun z=>by
  have:=h2 (i+1) z
  have:=hA.lt (show i<i+1 by omega) (by omega)
  omega
 omega
def xN(t:SetTable)(j:Nat):Prop:=t.place[SetTable.below t.place j]?≠some j
theorem yZ{t:SetTable}{j:Nat}(h:∀i,t.slot j≠.live i):xN t j:=fun z=>by
 have:=h (SetTable.below t.place j)
 unfold SetTable.slot at this
 simp[z]at this
theorem EI{t:SetTable}{j:Nat}(hA:xK t.place)(hf:xN t j):xK (t.put j).1.place:=by
 obtain⟨h1,h2,h3⟩:=sI j hA
 show xK (SetTable.insertAt t.place (SetTable.below t.place j) j)
 unfold xN at hf
 generalize SetTable.below t.place j=r at h1 h2 h3 hf
 generalize t.place=xs at hA h1 h2 h3 hf
 have e:(SetTable.insertAt xs r j).toList=xs.toList.take r++j::xs.toList.drop r:=by
  unfold SetTable.insertAt
  rw[aX,cB,c8,c8,aY]
  simp[List.extract]
  exact cf (by rw[bO,aO];exact ah _)
 have g:∀k (hk:k<xs.size),xs.getD k 0=xs[k]:=fun k hk=>by rw[bN,aS hk];rfl
 show List.Pairwise _ _
 rw[e]
 refine fg.mpr ⟨iX (kG _ _) hA,a_.mpr ⟨fun b hb=>?_,iX (cV _ _) hA⟩,fun a ha b hb=>?_⟩
 ·obtain⟨k,hk,rfl⟩:=fy hb
  rw[bO,aO]at hk
  rw[List.getElem_drop,jm]
  have q:=h3 (r+k) (by omega) (by omega)
  rw[g _ (by omega)]at q
  refine Nat.lt_of_le_of_ne q fun e2=>?_
  have q0:=h3 r (ah _) (by omega)
  rw[g _ (by omega)]at q0
  cases k with
  |zero=>exact hf (by rw[aS (by omega)];exact eL some e2.symm)
  |succ k=>
   have:=hA.lt (show r<r+(k+1) by omega) (by omega)
   rw[g _ (by omega),g _ (by omega)]at this
   omega
 ·obtain⟨k,hk,rfl⟩:=fy ha
  rw[aQ,aO]at hk
  have ka:(xs.toList.take r)[k]'(by rw[aQ,aO];exact hk)<j:=by
   have q:=h2 k (by omega)
   rw[g _ (by omega)]at q
   rw[List.getElem_take,jm];exact q
  rcases aC.mp hb with rfl|hb
  ·exact ka
  ·obtain⟨m,hm,rfl⟩:=fy hb
   rw[bO,aO]at hm
   rw[List.getElem_drop,jm]
   have q:=h3 (r+m) (by omega) (by omega)
   rw[g _ (by omega)]at q
   exact ay ka q
theorem sJ{t:SetTable}{ha:Nat->Int}{h:Int}:∀f (p:SetTable.Probe) {j:Nat} {d:Option Nat},(∀x,p.dummy=some x->xN t x)->SetTable.probe.go t ha h f p=some (.empty j d)->xN t j/\∀x,d=some x->xN t x
 |0,p,j,d,hp,e=>by unfold SetTable.probe.go at e;cases e
 |f+1,p,j,d,hp,e=>by
  unfold SetTable.probe.go at e
  cases hs:t.slot p.j with
  |empty=>
   rw[hs]at e
   dsimp only at e
   cases e
   exact⟨yZ fun i z=>(by rw[hs]at z;cases z),hp⟩
  |dummy=>
   rw[hs]at e
   refine sJ f _ (fun x hx=>?_) e
   have:(some p.j:Option Nat)=some x:=by
    unfold SetTable.advance at hx
    dsimp only at hx
    split at hx
    ·exact hx
    ·exact hx
   cases this
   exact yZ fun i z=>by rw[hs]at z;cases z
  |live i=>
   rw[hs]at e
   dsimp only at e
   split at e
   ·cases e
   ·refine sJ f _ (fun x hx=>hp x ?_) e
    unfold SetTable.advance at hx
    dsimp only at hx
    split at hx
    ·exact hx
    ·exact hx
theorem nK(t:SetTable)(n:Nat):xK (t.standIn n).place:=by
 show List.Pairwise _ (Array.range n).toList
 rw[Array.toList_range];exact List.pairwise_lt_range
theorem EJ(t:SetTable)(es:Array (Int×Value))(h:Int)(x:Value)(hA:xK t.place):xK (layNew t es h x).2.1.place:=by
 unfold layNew
 split
 ·rename_i slot wd hs
  dsimp only
  have hf:xN t slot:=by
   unfold SetTable.freeSlot at hs
   split at hs
   ·rename_i j d hp
    obtain⟨e,_⟩:=nj (be hs)
    obtain⟨a,b⟩:=sJ _ _ (fun x hx=>by cases hx) hp
    rw[<- e]
    cases d with
    |none=>exact a
    |some d=>exact b d rfl
   ·cases hs
  unfold SetTable.orStandIn
  split
  ·exact EI hA hf
  ·exact nK _ _
 ·exact nK _ _
theorem zX(t:SetTable)(es:Array (Int×Value))(n:Nat):xK (relayAll t es n).2.1.place:=by
 unfold relayAll
 split
 ·rename_i t' o he
  dsimp only
  split
  ·unfold SetTable.relaid SetTable.laid at he
   cases hc:SetTable.layClean (SetTable.sizeAbove n-1) (es.map (·.1))with
   |none=>rw[hc]at he;cases he
   |some ow=>
    rw[hc]at he
    obtain⟨a,_⟩:=nj (be he)
    subst a
    show List.Pairwise _ (List.map _ _)
    refine iI.mpr (List.pairwise_filterMap.mpr (List.pairwise_lt_range.imp fun{a b} hab x hx y hy=>?_))
    obtain⟨u,_,rfl⟩:=cM.mp hx
    obtain⟨v,_,rfl⟩:=cM.mp hy
    exact hab
  ·exact nK _ _
 ·exact nK _ _
def zY(w:World)(t:SetTable):Prop:=(lN w=true\/t.led=true)/\xK t.place
section
variable{prog:Program}{w:World}{A:Around}{E:Value->Shared->Prop}{s:Shared}
abbrev sl(t:SetTable)(i:Nat):Nat:=if i=0 then 0 else t.place.getD (i-1) 0+1
theorem EK{S:Addr}{es:Array (Int×Value)}{ep:Nat}{t:SetTable}{i:Nat}{Q:Option (Value×Nat)->Shared->Prop}(hb:lN w=false)(hS:fU w s.heap S es ep t)(ht:zY w t)(h1:es.size<=1\/t.plain=true)(hi:i<=es.size)
  (q:Q (((es.toList.map (·.2))[i]?).map fun v=>(v,sl t (i+1))) s):wpAny (model prog w) A (setNext S (sl t i) i ep) Q E s:=by
 obtain⟨o,ho,oQ,hd⟩:=hS.ex
 have hf:=hS.fits
 have hps:t.place.size=es.size:=by
  unfold SetTable.fits at hf
  simp only[cq,dv]at hf
  exact hf.1
 have C4:t.led=true:=ht.1.resolve_left (by rw[hb];exact cD)
 unfold setNext
 refine aa (cU ho hd hS.fits ?_)
 dsimp only
 refine aa (jK ?_)
 rw[hb,au cD]
 show wpAny _ _ (if (!t.plain&&decide (es.size>1))=true then _ else _) _ _ _
 rw[au (by rcases h1 with h1|h1<;>simp[h1])]
 show wpAny _ _ ((if (!t.led&&!es.isEmpty)=true then _ else pure ()) >>= _) _ _ _
 rw[au (by simp[C4])]
 refine aa (ai (ai ?_))
 have e:SetTable.below t.place (sl t i)=i:=by
  unfold sl
  split
  ·rename_i e;subst e;exact xL ht.2
  ·rw[xM ht.2 (by omega)];omega
 rw[e]
 by_cases hlt:i<es.size
 ·rw[aL,aF,aS hlt]at q
  rw[aS hlt,aS (show i<t.place.size by omega)]
  have e2:sl t (i+1)=t.place[i]'(by omega)+1:=by
   unfold sl
   rw[au (by omega),ke,bN,aS (by omega)];rfl
  simp only[Option.map_some]at q
  rw[e2]at q
  exact q
 ·rw[aL,aF,mf (by omega)]at q
  rw[mf (by omega)]
  exact q
theorem xO{S:Addr}{es:Array (Int×Value)}{ep:Nat}{t:SetTable}{Q:Value->Shared->Prop}(hS:fU w s.heap S es ep t)(ht:zY w t)(hp:t.plain=true)(hsz:es.size<=sizeLine)
  (q:∀(g:Heap) (d:Drawn) (it:Addr) (fp:List Addr) (P:Nat->Value->Prop) (St:Nat->Heap->Prop),(∀A:Around,A.handled=none->Walks prog w A it fp [it] es.size P St)->St 0 g->s.heap.objs.size<=it->(∀b∈fp,b=S\/s.heap.objs.size<=b)->(∀b∈fp,b<g.objs.size)->(∀b o,s.heap.get? b=some o->g.get? b=some o) ->
   (∀fk,ItemsOf P fk es.size->fk.toList.Perm (es.toList.map (·.2)))->Q (.ref it) { s with heap:=g,drawn:=d }):wpAny (model prog w) A (pyIter (.ref S)) Q E s:=by
 obtain⟨o,ho,oQ,hd⟩:=hS.ex
 have T:Shared.TypeIs s (.ref S) "set":=⟨o,ho,oQ.1⟩
 have hSlt:=av ho
 refine kJ T PySem.F.slot_set_iter (bD PySem.F.slot_set_iter T qD ?_ (PySem.F.args_set_iter_1 _))
 show wpAny _ _ (Builtin.Frozenset.sizeOf S >>= _) _ _ s
 unfold Builtin.Frozenset.sizeOf
 refine aa (aa (d_ ho hd hS.fits (ai ?_)))
 unfold setDrawn
 refine aa (aa (cU ho hd hS.fits ?_))
 dsimp only
 refine aa (jK (ai ?_))
 show wpAny _ _ (if (!lN w&&(!t.plain&&decide (es.size>1)))=true then _ else _) _ _ _
 rw[au (by simp[hp])]
 refine aa (ai (aa (kK ho hd hS.fits ?_)))
 refine aa (bx (ai ⟨_,rfl,"set_iterator",_,⟨_,ar _ rfl,rfl⟩,dz.lookup,?_⟩))
 have fin:∀(vs:List Value) (sl:Nat->Nat),sl 0=0->vs.Perm (es.toList.map (·.2))->(∀(s:Shared) (i:Nat),fU w s.heap S es ep t->i<=es.size->∀(A:Around) (Q':Option (Value×Nat)->Shared->Prop) (E':Value->Shared->Prop),Q' ((vs[i]?).map fun v=>(v,sl (i+1))) s->wpAny (model prog w) A (setNext S (sl i) i ep) Q' E' s) ->
   Q (.ref s.heap.objs.size) { s with heap:=s.heap.push (mT (rawInt 0) 0 S es.size ep) }:=fun vs sl h0 hp hx=>by
  have hl:vs.length=es.size:=by have:=hp.length_eq;simpa using this
  refine q _ s.drawn s.heap.objs.size [s.heap.objs.size,S] _ _ (fun A hA=>ug (t:=t) (ep:=ep) (vs:=vs) (sl:=sl) hA hl rfl (du hSlt) hx) ⟨br _,?_,hS.keep fun o e=>ag _ e⟩ (ah _) (fun b hb=>?_) (fun b hb=>?_) (fun b o e=>ag _ e) fun fk hacc=>?_
  ·rw[h0];exact ar _ rfl
  ·simp only[aC,cu,gP]at hb
   rcases hb with rfl|rfl
   ·exact .inr (ah _)
   ·exact .inl rfl
  ·simp only[aC,cu,gP]at hb
   rw[bh]
   rcases hb with rfl|rfl
   ·exact bB _
   ·exact bz hSlt
  ·have e:fk.toList=vs:=by
    apply e_
    intro i
    by_cases hi:i<es.size
    ·have hia:i<fk.size:=by rw[hacc.1];exact hi
     have ha:fk[i]?=some (fk[i]'hia):=aS hia
     rw[aF,ha,hacc.2 i _ ha]
    ·rw[bd (by rw[aO,hacc.1];omega),bd (by omega)]
   rw[e];exact hp
 cases hb:lN w with
 |true=>exact fin ((pickOrder (w.params.setOrder S ep) es).toList.map (·.2)) (fun _=>0) rfl ((uf _ _).map _) fun s i hS' hi A Q' E' y=>uh hb hS' y
 |false=>exact fin (es.toList.map (·.2)) (fun i=>sl t i) rfl (dY _) fun s i hS' hi A Q' E' y=>EK hb hS' ht (.inr hp) hi y
end
section
variable{prog:Program}{w:World}
def wb(prog:Program)(w:World)(h:Heap)(a:Addr)(ks:List Int):Prop:=
 ∃o es ep t,h.get? a=some o/\o.ExactSet/\o.data=.set es ep t/\ElemsOf (PySem.intKind prog w) es.toList/\(es.toList.map fun e=>numOf e.2).Perm ks/\es.size<scanBound/\t.fits es.size=true/\zY w t
theorem BN{l:List (Int×Value)}(h:ElemsOf (PySem.intKind prog w) l):∀e∈l,∃t,e.2=.int (numOf e.2) t:=fun e he=>by
 obtain⟨⟨k,hk,_⟩,_⟩:=h e he
 obtain⟨t,ht⟩:=kF hk
 exact⟨t,by rw[ht];rfl⟩
theorem y0{k:Int}{e:Int×Value}{l:List (Int×Value)}(h:ElemsOf (PySem.intKind prog w) l)(he:e∈l):(PySem.intKind prog w).is k e.2=true↔k=numOf e.2:=by
 obtain⟨t,ht⟩:=BN h e he
 constructor
 ·intro z
  obtain⟨u,hu⟩:=kF z
  rw[hu];rfl
 ·intro z
  show Value.isInt k e.2=true
  rw[ht,z]
  show Value.isInt (numOf e.2) (.int (numOf e.2) t)=true
  unfold Value.isInt;simp
theorem wb.keep{h h':Heap}{a:Addr}{ks:List Int}(z:wb prog w h a ks)(k:∀o,h.get? a=some o->h'.get? a=some o):wb prog w h' a ks:=let ⟨o,es,ep,t,ho,r⟩:=z;⟨o,es,ep,t,k o ho,r⟩
variable{A:Around}{E:Value->Shared->Prop}{s:Shared}
theorem BO{a:Addr}{ks:List Int}{x:Int}{tk:Tok}{Q:Bool->Shared->Prop}(z:wb prog w s.heap a ks)(LQ:ks.length+1<scanBound)
  (q:∀b g,Heap.SameBut a s.heap g->wb prog w g a (if x∈ks then ks else ks++[x])->Q b { s with heap:=g }):wpAny (model prog w) A (setAddHashed a (.int x tk) ((PySem.intKind prog w).hash x)) Q E s:=by
 obtain⟨o,es,ep,t,ho,oQ,hd,hel,hp,hb,hf,vq⟩:=z
 have eZ:es.size=ks.length:=by have:=hp.length_eq;simpa using this
 have hkey:(PySem.intKind prog w).is x (.int x tk)=true:=by show Value.isInt x (.int x tk)=true;unfold Value.isInt;simp
 have hsc:(Value.int x tk).scannable=true:=rfl
 unfold setAddHashed setAddHashedIn
 refine bE (aa (cU ho hd hf ?_))
 dsimp only
 rw[byScan_of hsc hb hel,am rfl]
 unfold setAddByScan
 refine aa (aa (dL (aa (wpAny_setScan_of hkey ho hd hf hel ?_))))
 cases hr:List.findIdx? (fun e=>(PySem.intKind prog w).is x e.2) es.toList with
 |some j=>
  obtain⟨hj,hpj,_⟩:=il.mp hr
  have hin:x∈ks:=hp.mem_iff.mp (bC.mpr ⟨es.toList[j],bU hj,((y0 hel (bU hj)).mp hpj).symm⟩)
  refine ai (ai ?_)
  have e1:=q false s.heap (Heap.SameBut.refl a s.heap) (by rw[am hin];exact⟨o,es,ep,t,ho,oQ,hd,hel,hp,hb,hf,vq⟩)
  exact e1
 |none=>
  have hin:¬ x∈ks:=fun hx=>by
   obtain⟨e,he,hxe⟩:=bC.mp (hp.mem_iff.mpr hx)
   have y:=ki.mp hr e he
   rw[(y0 hel he).mpr hxe.symm]at y
   cases y
  have q':=fun b g h1 h2=>q b g h1 (by rw[au hin];exact h2)
  dsimp only
  have lp:=layNew_perm t es ((PySem.intKind prog w).hash x) (.int x tk)
  have lf:=layNew_fits t es ((PySem.intKind prog w).hash x) (.int x tk)
  have lm:=ud t es ((PySem.intKind prog w).hash x) (.int x tk)
  have la:=EJ t es ((PySem.intKind prog w).hash x) (.int x tk) vq.2
  generalize layNew t es ((PySem.intKind prog w).hash x) (.int x tk)=L at lp lf lm la ⊢
  obtain⟨es1,t1,wd,gv⟩:=L
  dsimp only at lp lf lm la ⊢
  rw[cB]at lp
  have el1:ElemsOf (PySem.intKind prog w) es1.toList:=(hel.push hkey hsc).perm lp
  have sz1:es1.size=es.size+1:=by have:=lp.length_eq;simpa using this
  have b1:es1.size<scanBound:=by omega
  have p1:(es1.toList.map fun e=>numOf e.2).Perm (ks++[x]):=by
   have y:=lp.map fun e:Int×Value=>numOf e.2
   rw[bH]at y
   exact y.trans (hp.append_right _)
  have gw:∀(b:Bool) {s₁:Shared} {Q':Unit->Shared->Prop},Q' () s₁->wpAny (model prog w) A (match b with|true=>rule "set.scan.the-table-gave-way" | false=>pure ()) Q' E s₁:=fun b _ _ y=>by cases b<;>first|exact ai y|exact dL y
  refine aa (gw _ ?_)
  have fin:∀t2:SetTable,t2.fits es1.size=true->t2.led=t.led->xK t2.place->wpAny (model prog w) A (do
    storeSet a es1 t2
    if (!wd&&t2.tooFull)=true then do
      (match (relayAll t2 es1 (SetTable.grown es1.size)).2.2 with|true=>rule "set.scan.the-table-gave-way" | false=>pure ())
      storeSet a (relayAll t2 es1 (SetTable.grown es1.size)).1 (relayAll t2 es1 (SetTable.grown es1.size)).2.1
      pure (some true)
     else pure (some true)) (fun r s'=>wpAny (model prog w) A (match r with|some added=>pure added|none=>setAddHashedIn a (.int x tk) ((PySem.intKind prog w).hash x) 99999) Q E s') E s:=by
   intro t2 f2 l2 n2
   have to2:zY w t2:=⟨by rw[l2];exact vq.1,n2⟩
   refine aa (iA ho hd ?_ (iB b1))
   have g1:(s.heap.update a (Obj.putSet es1 t2)).get? a=some { o with data:=.set es1 (ep+1) t2 }:=by
    have y:=bF (Obj.putSet es1 t2) ho (by rw[i7 es1 t2 hd];rfl)
    rw[i7 es1 t2 hd]at y;exact y
   have sb:=d9 s.heap a (Obj.putSet es1 t2)
   split
   ·have rp:=relayAll_perm t2 es1 (SetTable.grown es1.size)
    have rf:=relayAll_fits t2 es1 (SetTable.grown es1.size)
    have rm:=qE t2 es1 (SetTable.grown es1.size)
    have ra:=zX t2 es1 (SetTable.grown es1.size)
    generalize relayAll t2 es1 (SetTable.grown es1.size)=R at rp rf rm ra ⊢
    obtain⟨es2,t3,gv2⟩:=R
    dsimp only at rp rf rm ra ⊢
    have sz2:es2.size=es1.size:=by have:=rp.length_eq;simpa using this
    refine aa (gw _ (aa (iA g1 rfl (ai (ai ?_)) (iB (by omega)))))
    have g2:((s.heap.update a (Obj.putSet es1 t2)).update a (Obj.putSet es2 t3)).get? a=some { o with data:=.set es2 (ep+1+1) t3 }:=by
     have y:=bF (Obj.putSet es2 t3) g1 (by rw[i7 es2 t3 rfl];rfl)
     rw[i7 es2 t3 rfl]at y;exact y
    refine q' true _ (sb.trans (d9 _ a _)) ⟨_,es2,_,t3,g2,oQ,rfl,el1.perm rp,?_,by omega,rf,?_⟩
    ·exact(rp.map fun e:Int×Value=>numOf e.2).trans p1
    ·exact⟨by rw[rm.1,l2];exact vq.1,ra⟩
   ·exact ai (ai (q' true _ sb ⟨_,es1,_,t2,g1,oQ,rfl,el1,p1,b1,f2,to2⟩))
  by_cases nS:t1.plain=true
  ·rw[am nS,mJ 8 hsc]
   refine aa (ai ?_)
   rw[am (show plainKind (Value.int x tk)=true from rfl)]
   exact fin t1 lf lm.1 la
  ·rw[au nS]
   refine aa (ai ?_)
   exact fin t1 lf lm.1 la
end
section
variable{prog:Program}{w:World}{A:Around}{R:Result->Shared->Prop}{I:Addr}{fp wr:List Addr}{n:Nat}{P:Nat->Value->Prop}{St:Nat->Heap->Prop}
def zZ(prog:Program)(w:World)(val:Nat->Int)(h:Heap)(a:Addr)(i:Nat):Prop:=∃ks,wb prog w h a ks/\ks.Nodup/\(∀x,x∈ks↔∃j,j<i/\val j=x)/\ks.length<=i
theorem z0(W:Walks prog w A.in1 I fp wr n P St)(S:Addr)(LU:S∉fp)(val:Nat->Int)(pM:∀i v,P i v->∃t,v=.int (val i) t)(hb:n+1<scanBound) :
  ∀(k i:Nat) (s:Shared),n-i=k->i<=n->St i s.heap->zZ prog w val s.heap S i ->
   (∀g tk,zZ prog w val g S n->(∀b o,b≠S->b∉wr->s.heap.get? b=some o->g.get? b=some o)->R (.ok (.ret .none)) { s with heap:=g,toks:=tk }) ->
   codeAny (model prog w) A (.builtin "set.update.loop" ⟨[.ref S,.ref I],[]⟩) R s:=by
 have hSw:S∉wr:=fun h=>LU (W.sub _ h)
 intro k
 induction k with
 |zero=>
  intro i s hk hi st hM hR
  obtain rfl:i=n:=by omega
  refine bI cS ?_
  rw[bt bK _]
  show wpAny _ A.in1 (pyNext (.ref I) >>= _) _ _ s
  refine aa (W.done s _ _ st fun g tk kp=>ai (hR g tk ?_ fun b o _ hb e=>kp b o hb e))
  obtain⟨ks,z,r⟩:=hM
  exact⟨ks,z.keep fun o e=>kp S o hSw e,r⟩
 |succ k ih=>
  intro i s hk hi st hM hR
  have hlt:i<n:=by omega
  refine bI cS ?_
  rw[bt bK _]
  show wpAny _ A.in1 (pyNext (.ref I) >>= _) _ _ s
  refine aa (W.item i s _ _ hlt st fun v g tk hP bp kp=>?_)
  obtain⟨t,rfl⟩:=pM i v hP
  obtain⟨ks,z,nd,mem,len⟩:=hM
  have z':wb prog w g S ks:=z.keep fun o e=>kp S o hSw e
  refine aa (bE ?_)
  unfold setAdd
  refine bE (aa ((PySem.intKind prog w).pyHash (k:=val i) (show Value.isInt (val i) (.int (val i) t)=true by unfold Value.isInt;simp) ?_))
  refine BO (s:={ s with heap:=g,toks:=tk+1 }) z' (by omega) fun _ g2 sb z2=>?_
  refine ai ⟨cL bK _,ih (i+1) _ (by omega) hlt (W.frame _ _ _ bp fun b hb o e=>?_) ?_ fun g3 tk3 hM3 kp3=>?_⟩
  ·rw[sb.2 b (fun h:b=S=>LU (by rw[<- h];exact hb))];exact e
  ·refine⟨_,z2,?_,fun x=>?_,?_⟩
   ·by_cases hx:val i∈ks
    ·rw[am hx];exact nd
    ·rw[au hx];exact iC.mpr ⟨nd,by simp,fun a ha b hb=>by rw[aG]at hb;subst hb;exact fun e=>hx (e▸ha)⟩
   ·by_cases hx:val i∈ks
    ·rw[am hx,mem x]
     constructor
     ·rintro⟨j,hj,e⟩;exact⟨j,by omega,e⟩
     ·rintro⟨j,hj,e⟩
      by_cases hji:j=i
      ·subst hji;subst e;exact(mem _).mp hx
      ·exact⟨j,by omega,e⟩
    ·rw[au hx,aZ,mem x,aG]
     constructor
     ·rintro(⟨j,hj,e⟩|e)
      ·exact⟨j,by omega,e⟩
      ·exact⟨i,by omega,e.symm⟩
     ·rintro⟨j,hj,e⟩
      by_cases hji:j=i
      ·subst hji;exact .inr e.symm
      ·exact .inl ⟨j,by omega,e⟩
   ·by_cases hx:val i∈ks
    ·rw[am hx];omega
    ·rw[au hx,aJ,eR];omega
  ·exact hR g3 tk3 hM3 fun b o hb hw e=>kp3 b o hb hw ((sb.2 b hb).trans (kp b o hw e))
end
section
variable{prog:Program}{w:World}{A:Around}{E:Value->Shared->Prop}{s:Shared}
set_option maxHeartbeats 8000000 in
theorem sK{v:Value}{T:String}{Fe:Obj}{fp:Addr->List Addr}{n:Nat}{P:Nat->Value->Prop}{St:Addr->Nat->Heap->Prop}{val:Nat->Int}{Q:Value->Shared->Prop}(hT:Shared.TypeIs { s with heap:=s.heap.push (bJ w) } v T)
  (n1:isSubtype (.type T) (.type "set")=pure false) (n2:isSubtype (.type T) (.type "frozenset")=pure false) (n3:(Value.type T==Value.type "dict")=false)
  (lK:∀(A:Around) (E:Value->Shared->Prop) (Q:Value->Shared->Prop),Q (.ref (s.heap.objs.size+1)) { s with heap:=(s.heap.push (bJ w)).push Fe }->wpAny (model prog w) A (pyIter v) Q E { s with heap:=s.heap.push (bJ w) })
  (W:∀(A:Around) (it:Addr),A.handled=none->it=s.heap.objs.size+1->Walks prog w A it (fp it) [it] n P (St it)) (zk:s.heap.objs.size∉fp (s.heap.objs.size+1)) (st:St (s.heap.objs.size+1) 0 ((s.heap.push (bJ w)).push Fe)) (pM:∀i v,P i v->∃t,v=.int (val i) t)
  (hh:A.handled=none) (hb:n+1<scanBound)
  (q:∀g tk,zZ prog w val g s.heap.objs.size n->(∀b o,s.heap.get? b=some o->g.get? b=some o)->Q (.ref s.heap.objs.size) { s with heap:=g,toks:=tk }) :
  wpAny (model prog w) A (call (.type "set") [v]) Q E s:=by
 obtain⟨c,tl,hmro⟩:=PySem.F.called_set.mro
 have hmade:=PySem.F.called_set.made
 have hsub:=PySem.F.called_set.sub
 refine j6 (mw ?_)
 show wpAny _ _ (callAny (.type "set") _) _ _ _
 refine ai ⟨j7 _ (by decide +kernel),bI PySem.F.entry_type_call ?_⟩
 rw[Around.under_plain (mK "set" [v] []) rfl]
 have h1:=PySem.F.called_set.notType
 have h2:=PySem.F.called_set.canCreate
 have hct:=PySem.F.typeCall_set_1 v
 repeat(any_goals (first|assumption|wp_step))
 refine eB (qF v (E:=E) (Q₁:=fun obj s₁=>obj=.ref s.heap.objs.size/\s₁={ s with heap:=s.heap.push (bJ w) }) ⟨rfl,rfl⟩) fun r s₁ hr=>?_
 cases r with
 |error e=>exact hr
 |ok fl=>
  cases fl with
  |ret obj=>
   obtain⟨rfl,rfl⟩:=hr
   have gS:(s.heap.push (bJ w)).get? s.heap.objs.size=some (bJ w):=ar _ rfl
   have tS:Shared.TypeIs { s with heap:=s.heap.push (bJ w) } (.ref s.heap.objs.size) "set":=⟨_,gS,rfl⟩
   have hli:=PySem.F.called_set.init.lookup
   have hbi:=PySem.F.called_set.init.bind (.ref s.heap.objs.size)
   repeat(any_goals (first|assumption|wp_step))
   refine eB (gu (R:=wants (fun r s₂=>r=.none/\∃g tk,s₂={ s with heap:=g,toks:=tk }/\zZ prog w val g s.heap.objs.size n/\(∀b o,s.heap.get? b=some o->g.get? b=some o)) E) PySem.F.called_set.init.plain PySem.F.entry_set_init (check_set_init_1 tS ?_)) fun r₂ s₂ hr₂=>?_
   ·unfold Builtin.«set.__init__» noKeywords Builtin.Frozenset.updateFrom
    generalize hPI:pyIter=PI
    wp_walk
    subst hPI
    refine lK _ _ _ (aa (iD ?_))
    have g0:((s.heap.push (bJ w)).push Fe).get? s.heap.objs.size=some (bJ w):=ag _ gS
    have m0:zZ prog w val ((s.heap.push (bJ w)).push Fe) s.heap.objs.size 0:=⟨[],⟨_,#[],0,_,g0,⟨rfl,rfl,rfl⟩,rfl,fun e he=>by simp at he,by simp,by unfold scanBound;decide,rfl,?_⟩,nr,fun x=>by simp,ah _⟩
    ·refine z0 (W _ _ (by simpa using hh) rfl) s.heap.objs.size zk val pM hb (n-0) 0 _ rfl (br _) st m0 fun g tk hM kp=>?_
     refine ai (ai ⟨rfl,g,tk,rfl,hM,fun b o e=>kp b o (aK (av e)) (fun hbm=>?_) (ag _ (ag _ e))⟩)
     rw[aG]at hbm
     exact absurd (av e) (by rw[hbm];exact fx.mpr (a8 _))
    ·refine⟨?_,List.Pairwise.nil⟩
     show lN w=true\/(!lN w)=true
     cases lN w<;>simp
   ·cases r₂ with
    |error e=>exact hr₂
    |ok fl₂=>
     cases fl₂ with
     |ret r=>
      obtain⟨rfl,g,tk,rfl,hM,kp⟩:=hr₂
      repeat(any_goals (first|assumption|wp_step))
      exact q g tk hM kp
     |_=>exact hr₂.elim
  |_=>exact hr.elim
end
section
variable{prog:Program}{w:World}{A:Around}{E:Value->Shared->Prop}{s:Shared}
theorem HU{S:Addr}{es:Array (Int×Value)}{ep:Nat}{t:SetTable}{Q:Value->Shared->Prop}(hS:fU w s.heap S es ep t)(ht:zY w t)(hsz:es.size<=sizeLine)
  (q:∀(g:Heap) (d:Drawn) (it:Addr) (fp:List Addr) (P:Nat->Value->Prop) (St:Nat->Heap->Prop),(∀A:Around,A.handled=none->Walks prog w A it fp [it] es.size P St)->St 0 g->s.heap.objs.size<=it->(∀b∈fp,b=S\/s.heap.objs.size<=b)->(∀b∈fp,b<g.objs.size)->(∀b o,s.heap.get? b=some o->g.get? b=some o) ->
   (∀fk,ItemsOf P fk es.size->fk.toList.Perm (es.toList.map (·.2)))->Q (.ref it) { s with heap:=g,drawn:=d }):wpAny (model prog w) A (pyIter (.ref S)) Q E s:=by
 cases hp:t.plain with
 |true=>exact xO hS ht hp hsz q
 |false=>exact vN hS ⟨ht.1,.inr hp⟩ hsz q
theorem z9{S:Addr}{es:Array (Int×Value)}{ep:Nat}{t:SetTable}{Q:List Value->Shared->Prop}(hS:fU w s.heap S es ep t)(vq:zY w t)(hsz:es.size<=sizeLine)(hh:A.handled=none)
  (q:∀(g:Heap) (d:Drawn) (tk:Nat) (vs:List Value),(∀b o,s.heap.get? b=some o->g.get? b=some o)->vs.Perm (es.toList.map (·.2))->Q vs { s with heap:=g,drawn:=d,toks:=tk }):wpAny (model prog w) A (collect (.ref S)) Q E s:=by
 obtain⟨o,ho,oQ,hd⟩:=hS.ex
 have hSlt:=av ho
 unfold collect
 refine aa (iD (bI jk ?_))
 rw[bt PySem.F.plain_proto_collect _]
 show wpAny _ A.in1 (newList [] >>= fun l=>again (.builtin "list.__iadd__" ⟨[l,.ref S],[]⟩)) _ _ s
 refine aa (bx (ai ⟨cL PySem.F.plain_list_iadd _,bI lD ?_⟩))
 rw[bt PySem.F.plain_list_iadd _]
 generalize hL:s.heap.objs.size=L
 have gL:(s.heap.push { cls:=.type "list",data:=.seq ([]:List Value).toArray }).get? L=some { cls:=.type "list",data:=.seq #[] }:=by rw[<- hL];exact ar _ rfl
 have hS1:fU w (s.heap.push { cls:=.type "list",data:=.seq ([]:List Value).toArray }) S es ep t:=hS.keep fun o e=>ag _ e
 have z1:(s.heap.push { cls:=.type "list",data:=.seq ([]:List Value).toArray }).objs.size=L+1:=by rw[bh,hL]
 have kp1:∀b o,s.heap.get? b=some o->(s.heap.push { cls:=.type "list",data:=.seq ([]:List Value).toArray }).get? b=some o:=fun b o e=>ag _ e
 have bL:∀b o,s.heap.get? b=some o->b≠L:=fun b o e=>by rw[<- hL];exact aK (av e)
 generalize s.heap.push { cls:=.type "list",data:=.seq ([]:List Value).toArray }=h1 at gL hS1 z1 kp1 ⊢
 have yn:L≠S:=by rw[<- hL];exact du hSlt
 obtain⟨o1,ho1,hex1,hd1⟩:=hS1.ex
 have T:Shared.TypeIs { s with heap:=h1 } (.ref S) "set":=⟨o1,ho1,hex1.1⟩
 show wpAny _ A.in1 (Builtin.List.listExtendWith (.ref L) (.ref S) (.ref L)) _ _ _
 unfold Builtin.List.listExtendWith
 refine aa (fR (T:="set") T ?_)
 have e1:Builtin.List.listSameRef (.ref L) (.ref S)=false:=by simp[Builtin.List.listSameRef,yn]
 have e2:(Value.type "set" == Value.type "list")=false:=by decide
 have e3:(Value.type "set" == Value.type "tuple")=false:=by decide
 simp only[e1,e2,e3,jd,bY,cA]
 refine aa (HU (s:={ s with heap:=h1 }) hS1 vq hsz fun g d it fp P St W st lK zk hfl kp2 hperm=>?_)
 have gL2:=kp2 _ _ gL
 have hLf:L∉fp:=fun hm=>by
  rcases zk L hm with y|y
  ·exact yn y
  ·rw[show Shared.heap { s with heap:=h1 }=h1 from rfl,z1]at y;exact absurd y (oO.mpr (bB _))
 obtain⟨o2,ho2,hex2,hd2⟩:=(hS1.keep fun o e=>kp2 S o e).ex
 refine aa (bE (vO (s:={ s with heap:=g,drawn:=d }) ⟨o2,ho2,hex2.1⟩ ?_))
 have itL:it≠L:=fun y=>by
  have:=lK
  rw[show Shared.heap { s with heap:=h1 }=h1 from rfl,z1,y]at this
  exact absurd this (oO.mpr (bB _))
 have old:∀b o,s.heap.get? b=some o->b≠it:=fun b o e y=>by
  have h2:=av (kp1 b o e)
  have h3:=lK
  rw[show Shared.heap { s with heap:=h1 }=h1 from rfl]at h3
  rw[y]at h2
  exact absurd h2 (fx.mpr h3)
 have key:∀(g':Heap) (c tk:Nat),St 0 g'->(∀b o,b≠L->g.get? b=some o->g'.get? b=some o)->g'.get? L=some { cls:=.type "list",data:=.seq #[] c } ->
   codeAny (model prog w) A (.builtin "list.extend.loop" ⟨[.ref L,.ref it,.ref L],[]⟩) (wants (fun r s'=>wpAny (model prog w) A (match r with|.ref a=>(do match (<- load a).data with|.seq xs _=>pure xs.toList|_=>unsupported "internal:collect")|_=>unsupported "internal:collect") Q E s') E) { s with heap:=g',drawn:=d,toks:=tk }:=by
  intro g' c tk bp kp3 gL3
  refine codeAny_extend_loopS (W A.in1 (by simpa using hh)).toS hsz L hLf (.ref L) es.size 0 _ #[] c rfl (br _) bp gL3 (ItemsOf.nil _) fun s' fk c' hm gL4 hacc=>?_
  have ee:s'={ s with heap:=s'.heap,drawn:=d,toks:=s'.toks }:=by
   have h1:=hm.gens
   have h2:=hm.drawn
   have h3:=hm.os
   cases s'
   simp only at h1 h2 h3
   subst h1;subst h2;subst h3;rfl
  refine aa (oM gL4 (ai ?_))
  rw[ee]
  refine q s'.heap d s'.toks fk.toList (fun b o e=>hm.heap b o (fun y=>?_) (kp3 b o (bL b o e) (kp2 b o (kp1 b o e)))) (hperm fk hacc)
  rcases aC.mp y with y|y
  ·exact bL b o e y
  ·exact old b o e (aG.mp y)
 refine ju (fun _=>?_) (fun _=>ai ⟨cL PySem.F.plain_extend_loop _,key g 0 _ st (fun _ _ _ e=>e) gL2⟩)
 refine aa (dL (aa ?_))
 show wpAny _ _ (updateSeq L (·.push .none) >>= fun _=>updateSeq L (·.pop)) _ _ _
 refine aa (gW gL2 rfl ?_)
 have g5:=bF (Obj.mapSeq (·.push Value.none)) gL2 rfl
 refine gW (hz:=by seq_fits) g5 rfl ?_
 have g6:=bF (Obj.mapSeq (·.pop)) g5 rfl
 refine ai ⟨cL PySem.F.plain_extend_loop _,key _ _ _ ((W A hh).frame 0 _ _ st fun b hb o e=>?_) (fun b o hb e=>?_) g6⟩
 ·have hbL:b≠L:=fun y=>hLf (y▸hb)
  exact(bf _ _ (Ne.symm hbL)).trans ((bf _ _ (Ne.symm hbL)).trans e)
 ·exact(bf _ _ (Ne.symm hb)).trans ((bf _ _ (Ne.symm hb)).trans e)
end
end SI
namespace SI
variable{nk:Nat}
open PySem PySem.Spec PyProof.Rows L2
@[reducible] def iK:KeyKind where
 α:=Int
 blt a b:=decide (a<b)
 irrefl a:=by simp
 trans a b c h1 h2:=by simp only[decide_eq_true_eq]at *;exact Int.lt_trans h1 h2
 negTrans a b c h:=by
  simp only[decide_eq_true_eq]at *
  by_cases hab:a<b
  ·exact .inl hab
  ·exact .inr (Int.lt_of_le_of_lt (oP.mp hab) h)
 total a b h1 h2:=by simp only[lE]at *;exact Int.le_antisymm (oP.mp h2) (oP.mp h1)
 keyOf v:=match v with|.int n _=>some n|_=>none
 dflt:=0
theorem KR:iK.OneLt:=by
 intro prog w A E s x y a b Q ha hb h
 cases x<;>simp only[iK,reduceCtorEq,Option.some.injEq]at ha
 cases y<;>simp only[iK,reduceCtorEq,Option.some.injEq]at hb
 cases ha;cases hb
 exact oneLt_int h
theorem KS{xs:Array Keyed}{i:Nat}:KK iK xs i=K xs i:=by
 unfold KK K
 cases xs[i]? with
 |none=>rfl
 |some p=>obtain⟨v,_⟩:=p;cases v<;>rfl
section
variable{prog:Program}{w:World}{A:Around}{E:Value->Shared->Prop}{s:Shared}
theorem sortI{l:Addr}{us:List Value}{ns:List Int}{m:Nat}{R:Fin->Shared->Prop}(hl:s.heap.get? l=some (seqObj "list" us.toArray m))(hI:IntsAre us ns)(hn:us.length<=100000)
  (h:∀(zs:Array Value) (ks:List Int),IntsAre zs.toList ks->ks.Perm ns->ks.Pairwise (· <= ·)->R (.done (.ret .none)) { s with heap:=sortedHeap s.heap l us zs }) :
  wpAny (model prog w) A (Builtin.«list.sort» ⟨[.ref l],[]⟩) R E s:=by
 by_cases Jx:us.length<64
 ·exact list_sort_tree hl hI Jx h
 rw[list_sort_plain]
 have hls:l<s.heap.objs.size:=av hl
 have big:us.length<=sizeLine:=by rw[gr];omega
 have hz:us.toArray.size=us.length:=by simp
 refine aa (listItems_at hl rfl (aa (listUpdate_at hl rfl ?_ (hsz:=by rw[hz];exact big))))
 obtain⟨e,he⟩:∃e,(s.heap.update l (Obj.mapSeq fun _=>#[])).get? l=some (seqObj "list" #[] e):=⟨_,get?_update_seq hl (fun _=>#[])⟩
 refine aa (seqEpoch_at he rfl (aa (wpAny_newTuple (aa (k7 (bE ?_))))))
 have h6:(((s.heap.update l (Obj.mapSeq fun _=>#[])).push (seqObj "tuple" us.toArray 0)).push (seqObj "list" #[] 0)).get? l=some (seqObj "list" #[] e):=by
  have q1:l≠((s.heap.update l (Obj.mapSeq fun _=>#[])).push (seqObj "tuple" us.toArray 0)).objs.size:=by
   rw[size_push',Heap.size_update];exact aK (bz hls)
  have q2:l≠(s.heap.update l (Obj.mapSeq fun _=>#[])).objs.size:=by
   rw[Heap.size_update];exact aK hls
  rw[kI _ _ _ q1,kI _ _ _ q2]
  exact he
 show wpAny _ _ _ R E { s with heap:=((s.heap.update l (Obj.mapSeq fun _=>#[])).push (seqObj "tuple" us.toArray 0)).push (seqObj "list" #[] 0) }
 dsimp only
 obtain⟨u,v,r,rfl⟩:∃u v r,us=u::v::r:=by
  match us,Jx with
  |[],z=>simp at z
  |[_],z=>simp at z
  |u::v::r,_=>exact⟨u,v,r,rfl⟩
 have h2:¬ (u::v::r).toArray.size<2:=by simp
 rw[au h2,au h2,keyKind_ints hI]
 have hps:=pairsOf_size (u::v::r)
 refine aa (ai (aa (fP (TS.wp_runs (κ:=iK) (kd:=oneType') (x0:=pairsOf (u::v::r)) (z:=SortSt.mk' oneType' ((u::v::r).toArray.zip (u::v::r).toArray) #[] 7 none)
  (Q:=fun _ y=>(arrOf y).Perm (pairsOf (u::v::r))/\failedOf y=none/\SortedTo (arrOf y) (pairsOf (u::v::r)).size) (TS.ltK_one KR) (fun p hp=>?_) ⟨Array.Perm.refl _,rfl,rfl⟩ rfl (by rw[hps];simp) fun y a b c=>⟨a,b,fun i j hij hj=>?_⟩) ?_ fun _ _ z=>z)))
 ·obtain⟨n,t,e⟩:=hI.intKeys p hp
  exact⟨n,by rw[e]⟩
 ·have z:=c i j (br _) hij hj
  rw[KS,KS]at z
  exact oP.mp (of_decide_eq_false z)
 ·rintro⟨⟨⟩,y⟩ s' ⟨rfl,hp,hf,hs⟩
  dsimp only
  have hys:(Array.map (fun x:Keyed=>x.2) (arrOf y)).size<=sizeLine+1:=by
   rw[Array.size_map,hp.size_eq,hps];exact d4 big
  refine aa (seqEpoch_at h6 rfl (aa (listUpdate_at h6 rfl ?_ (hsz:=br _) (hsz2:=hys))))
  rw[hf]
  simp only[bne_self_eq_false,bY,cA]
  obtain⟨ks,b1,b2,b3⟩:=sorted_out hI hp hs
  exact ai (h _ ks b1 b2 b3)
theorem BP{S:Addr}{ks:List Int}{Q:Value->Shared->Prop}(z:wb prog w s.heap S ks)(Fa:ks.length<4000)(hh:A.handled=none)
  (q:∀(g0 g1:Heap) (d:Drawn) (tk:Nat) (out:Array Value) (ns:List Int) (e:Nat),(∀b o,s.heap.get? b=some o->g0.get? b=some o)->(∀b o,g0.get? b=some o->g1.get? b=some o)->g1.get? g0.objs.size=some (seqObj "list" out e) ->
   IntsAre out.toList ns->ns.Perm ks->ns.Pairwise (· <= ·)->Q (.ref g0.objs.size) { s with heap:=g1,drawn:=d,toks:=tk }):wpAny (model prog w) A (call (.builtin "sorted") [.ref S]) Q E s:=by
 obtain⟨o,es,ep,t,ho,oQ,hd,hel,hp,hb,hf,vq⟩:=z
 have hS:fU w s.heap S es ep t:=⟨⟨o,ho,oQ,hd⟩,hf⟩
 have eZ:es.size=ks.length:=by have:=hp.length_eq;simpa using this
 apply gG kind_sorted pS pT (pU _)
 show wpAny _ _ (checkCount "sorted" 1 1 _ >>= _) _ _ _
 refine aa (ai (aa (z9 hS vq (by rw[gr];omega) (by simpa using hh) fun g d tk vs kp pv=>?_)))
 have hv:∀v∈vs,∃n t,v=Value.int n t:=fun v hv=>by
  obtain⟨e,he,rfl⟩:=bC.mp (pv.mem_iff.mp hv)
  obtain⟨t,ht⟩:=BN hel e he
  exact⟨_,t,ht⟩
 have jq:=intsAre_map vs hv
 have hks:(vs.map numOf).Perm ks:=by
  refine(pv.map numOf).trans ?_
  rw[bb];exact hp
 have hvl:vs.length<4000:=by have:=hks.length_eq;rw[az]at this;omega
 refine aa (k7 ?_ (by rw[gr];omega))
 have oL:(g.push (seqObj "list" vs.toArray 0)).get? g.objs.size=some (seqObj "list" vs.toArray 0):=ar _ rfl
 refine aa (bE (bD nv ⟨_,oL,rfl⟩ mx (sortI oL jq (by omega) fun zs ns a1 a2 a3=>⟨_,rfl,?_⟩) (ny _)))
 obtain⟨e,he⟩:=om (out:=zs) oL
 refine ai ⟨_,rfl,q g _ d tk _ ns e kp (fun b o hb=>?_) he a1 (a2.trans hks) a3⟩
 rw[nz (aK (av hb)) (by rw[bh];exact bz (av hb))]
 exact ag _ hb
theorem BQ{ls:List Int}{a:Addr}{bv:List Value}{Q:Value->Shared->Prop}(hh:A.handled=none)(hb:ls.length+1<scanBound)(ht:s.heap.IsList a bv.toArray)(hv:IntsAre bv ls)
  (q:∀g tk,zZ prog w (fun j=>ls.getD j 0) g s.heap.objs.size ls.length->(∀b o,s.heap.get? b=some o->g.get? b=some o)->Q (.ref s.heap.objs.size) { s with heap:=g,toks:=tk }):wpAny (model prog w) A (call (.type "set") [.ref a]) Q E s:=by
 have z:(s.heap.push (bJ w)).objs.size=s.heap.objs.size+1:=bh ..
 have hn:bv.toArray.size=ls.length:=by have:=hv.nums;rw[<- this,az];simp
 have ha:a<s.heap.objs.size:=by obtain⟨o,ho,_⟩:=ht;exact av ho
 have ht1:(s.heap.push (bJ w)).IsList a bv.toArray:=ht.at fun o e=>ag _ e
 have pM:∀i v,bv.toArray[i]?=some v->∃t,v=Value.int (ls.getD i 0) t:=by
  intro i v hi
  have hi':bv[i]?=some v:=by simpa using hi
  obtain⟨n,t,rfl⟩:=hv.all v (bV hi')
  have e:ls[i]?=some n:=by rw[<- hv.nums,aL,hi'];rfl
  exact⟨t,by rw[aI,e];rfl⟩
 rw[<- hn]at hb q
 refine sK (T:="list") (fp:=fun it=>[it,a]) (P:=fun i v=>bv.toArray[i]?=some v) (St:=fun it i h=>h.IsListIter it a i/\h.IsList a bv.toArray) ht1.typeIs (by rw[cH];kernel_rfl) (by rw[cH];kernel_rfl) (by decide)
  (fun A E Q y=>wpAny_pyIter_list ht1 (by show Q (.ref (s.heap.push (bJ w)).objs.size) _;rw[z];exact y)) (fun A it hA e=>Walks.list hA it a (by rw[e];exact aK (bz ha)) bv.toArray) (by simp;exact fun e=>absurd ha (by rw[<- e];exact b_ _)) ⟨⟨{ cls:=.type "list_iterator",data:=.fields #[.ref a,.int 0 0] },?_,rfl,rfl⟩,?_⟩ pM hh hb q
 ·rw[<- z];exact ar _ rfl
 ·exact ht1.at fun o e=>ag _ e
end
end SI
namespace SI
variable{nk:Nat}
open PySem PySem.Spec PyProof.Rows L2
def oA(l:List Int):List Int:=l.foldr (fun x r=>if x∈r then r else x::r) []
theorem mem_dedI{x:Int}:∀{l:List Int},x∈oA l↔x∈l
 |[]=>Iff.rfl
 |a::r=>by
  show x∈(if a∈oA r then oA r else a::oA r)↔_
  by_cases h:a∈oA r
  ·rw[am h,mem_dedI (l:=r),aC]
   exact⟨.inr,fun z=>z.elim (fun e=>by rw[e];exact mem_dedI.mp h) id⟩
  ·rw[au h,aC,aC,mem_dedI (l:=r)]
theorem dedI_nodup:∀(l:List Int),(oA l).Nodup
 |[]=>nr
 |a::r=>by
  show List.Nodup (if a∈oA r then oA r else a::oA r)
  split
  ·exact dedI_nodup r
  ·rename_i h;exact fX.mpr ⟨h,dedI_nodup r⟩
theorem sL:∀(l:List Int),(oA l).length<=l.length
 |[]=>ah _
 |a::r=>by
  show(if a∈oA r then oA r else a::oA r).length<=_
  split
  ·exact d4 (sL r)
  ·exact Nat.succ_le_succ (sL r)
abbrev sortD(l:List Int):List Int:=PySem.W.sortI (oA l)
def HV(K:Frag)(te:TE):TE:=fun σ H Q=>te σ H fun v H1=>∃a ls,v=.ref a/\pW K H1 a (ls.map V.int)/\ls.length<4000 /\
 ∀a' H2,H1 a'=none->H2=gb H1 a' (.lst ((sortD ls).map V.int))->Q (.ref a') H2
theorem EL{X:Cx}{p1 p2 yg qy:Pos}{e:Expr}{te:TE}(h1:X.mg "sorted"=none)(h3:X.mg "set"=none)(he:QE X e te)(hc:X.calm=true:=by rfl)
  (Jm:Gl X "sorted":=by rfl) (Fb:Gl X "set":=by rfl) (Fg:starEach [e] X.env=(false,eval e X.env)::starEach [] X.env:=by rfl):QE X (.Call (.Name "sorted" p1) [.Call (.Name "set" p2) [e] [] qy] [] yg) (HV X.K te):=⟨by
 intro ae s σ H Q I h
 refine cF (lL I Jm h1 k8 (fI ?_) (by decide) (by decide))
 show wpAny _ _ (spliced ((false,eval (.Call (.Name "set" p2) [e] [] qy) X.env)::[])) _ _ s
 refine cX (cF (lL I Fb h3 mM (c9 ?_ Fg rfl) (by decide) (by decide)))
 rw[Fg]
 show wpAny _ _ (spliced ((false,eval e X.env)::[])) _ _ s
 refine cX (jx (he.h ae s σ H _ I h) fun u s1 kt1 ⟨v,H1,I1,r1,a,ls,hv,hS,hb,q⟩=>d5 ?_)
 have hh:X.A.handled=none:=I1.ok.hd hc
 have hb':ls.length+1<scanBound:=by unfold scanBound;omega
 subst hv
 cases r1
 obtain⟨bv,rv,pl,hz⟩:=I1.list hS
 have hI:IntsAre bv ls:=xa rv
 refine up (BQ hh hb' pl.isList hI fun g tk hM kp iR=>d5 ?_)
 obtain⟨ks,z,nd,mem,len⟩:=hM
 refine up (BP z (by omega) hh fun g0 g1 d tk' out ns ep k0 k1 gL jq hperm hsrt hle2=>?_)
 have iR:s1.toks<=tk:=iR
 have hle2:tk<=tk':=hle2
 have hle3:s1.toks<=tk':=aA iR hle2
 have hpd:ns.Perm (oA ls):=hperm.trans ((gB nd (dedI_nodup ls)).mpr fun x=>by
  rw[mem x,mem_dedI]
  constructor
  ·rintro⟨j,hj,e⟩
   have e:ls.getD j 0=x:=e
   rw[aI,af hj]at e
   rw[<- e];exact bU hj
  ·intro hx
   obtain⟨j,hj,e⟩:=fy hx
   exact⟨j,hj,by show ls.getD j 0=x;rw[aI,af hj];exact e⟩)
 have en:=PySem.W.eq_sortI hpd hsrt
 subst en
 have I2:bi X ae σ H1 { s1 with heap:=g0,drawn:=d,toks:=tk' }:=I1.kept2 fun b o e=>k0 b o (kp b o e)
 have qP:H1 g0.objs.size=none:=I2.hok.fresh (ah _)
 refine⟨.ref g0.objs.size,_,I2.laid (o:=.lst ((sortD ls).map V.int)) (t':=tk') k1 (ah _) ?_,rfl,q _ _ qP rfl⟩
 refine⟨?_,out.toList,ep,pY jq,gL⟩
 rw[az,hpd.length_eq]
 exact aA (sL ls) (aA (dQ hb) (by decide))⟩
def eSortI(fe:FE):FE:=fun ρ st=>(fe ρ st).bind fun x st=>match x with
 |.loc n=>tz (lstOf st n) fun zs=>tz (pB zs) fun l=>if l.length<4000 then .ok (.loc st.length) (st++[.lst ((sortD l).map W.int)])else .bad
 |_=>.bad
section
variable{X:Cx}{e:Expr}{fe:FE}
theorem KU{K:Frag}{μ:List Addr}{H:Hp}:∀(l:List Int),RelWs K μ H (l.map W.int) (l.map V.int)
 |[]=>.nilI
 |_::r=>.consI (by unfold bj;rfl) (KU r)
theorem s_sortI{p1 p2 yg qy:Pos}(h1:X.mg "sorted"=none)(h3:X.mg "set"=none)(he:SE X e fe)(hc:X.calm=true:=by rfl)
  (Jm:Gl X "sorted":=by rfl) (Fb:Gl X "set":=by rfl) (Fg:starEach [e] X.env=(false,eval e X.env)::starEach [] X.env:=by rfl):SE X (.Call (.Name "sorted" p1) [.Call (.Name "set" p2) [e] [] qy] [] yg) (eSortI fe):=⟨(EL h1 h3 ⟨he.h⟩ hc Jm Fb Fg).h.imp fun σ H Q h=>by
 obtain⟨μ,ρ,st,l,h⟩:=h
 refine⟨μ,ρ,st,l,RK.bind h l fun μ1 st1 x v H1 p1 x1 l1 q1 h1=>?_⟩
 split at h1
 ·rename_i n
  cases e1:lstOf st1 n with
  |none=>rw[e1]at h1;exact h1.elim
  |some zs=>
   rw[e1,dg]at h1
   cases e2:pB zs with
   |none=>rw[e2]at h1;exact h1.elim
   |some ll=>
    rw[e2,dg]at h1
    split at h1
    ·rename_i c
     obtain⟨a,vs,g,hS,rz⟩:=l1.sto.lstOf e1
     obtain⟨b1,f1,rfl⟩:=q1.locE
     rw[g]at f1;cases f1
     have ev:=v5 e2 rz
     subst ev
     refine⟨_,ll,rfl,hS,c,fun a' H2 ha eH=>?_⟩
     subst eH
     exact h1 (μ1++[a']) _ _ (bQ _ _) (gH.same (cC ha _)) (l1.sto.newLst ha (KU _)) (lP l1.sto)
    ·exact h1.elim
 ·exact h1.elim⟩
end
end SI
namespace L2
open PySem PySem.Spec PyProof.Rows
theorem rj(st x:List aq)(k:Nat):(st++x)[st.length+k]?=x[k]?:=by rw[cE (by omega)];congr 1;omega
theorem cY(st x:List aq):(st++x)[st.length]?=x[0]?:=rj st x 0
theorem sM(st x:List aq)(k:Nat)(c:aq):(st++x).set (st.length+k) c=st++x.set k c:=by rw[iW _ _ (by omega)];congr 2;omega
theorem ib(st x:List aq)(c:aq):(st++x).set st.length c=st++x.set 0 c:=sM st x 0 c
theorem dF{st x:List aq}{n:Nat}{c:aq}(h:st[n]?=some c):(st++x)[n]?=some c:=by
 rw[bw (al.mp h).1];exact h
theorem xP(st:List aq)(ws:List W):mi st st ws=st:=by unfold mi;split<;>simp
theorem qj{st x:List aq}{ws:List W}(h:undWs st.length ws=true):mi st (st++x) ws=st:=by
 unfold mi
 rw[am ⟨h,by simp,fun i hi=>.inl (bw hi)⟩]
 simp
theorem z_{st bp:List aq}{ws:List W}(h:undWs st.length ws=false):mi st bp ws=bp:=by
 unfold mi
 rw[au fun k=>by have:=k.1;rw[h]at this;cases this]
theorem u5{N:Nat}{body:FS}{ws:List W}{st bp:List aq}{w:W}(h:body (ws.map some++List.replicate (N-ws.length) none) st=.rt w bp):fW N body ws st=.ok w (mi st bp [w]):=by
 unfold fW;rw[h]
theorem qm{N:Nat}{body:FS}{ws:List W}{st:List aq}{w:W}(h:body (ws.map some++List.replicate (N-ws.length) none) st=.rt w st):fW N body ws st=.ok w st:=by
 rw[u5 h,xP]
theorem wc{N:Nat}{body:FS}{ws:List W}{st x:List aq}{w:W}(h:body (ws.map some++List.replicate (N-ws.length) none) st=.rt w (st++x))(hu:undWs st.length [w]=true):fW N body ws st=.ok w st:=by
 rw[u5 h,qj hu]
theorem BR{N:Nat}{body:FS}{ws:List W}{st x:List aq}{k:Nat}(h:body (ws.map some++List.replicate (N-ws.length) none) st=.rt (.loc (st.length+k)) (st++x)):fW N body ws st=.ok (.loc (st.length+k)) (st++x):=by
 rw[u5 h,z_ (by simp[undWs,W.und])]
theorem BS{g g':FS}{ρ ρ':cn}{st bp:List aq}(h:g ρ st=.nx ρ' bp):bG g g' ρ st=g' ρ' bp:=by unfold bG;rw[h]
theorem y6{fi:FI}{f:FG}{body:FS}{ρ:cn}{st bp:List aq}{k:zL}(h:fi ρ st=.ok k bp):p_ fi f body ρ st=pq f body k.2 k.1 ρ bp:=by unfold p_;rw[h];rfl
theorem we{f:FG}{body:FS}{ck:Option (Nat×List W)}(I:Nat->cn->List aq->Prop):∀{ws:List W} {ρ:cn} {st:List aq} (i0:Nat),I i0 ρ st->(∀i ρ st,I i ρ st->iM st ck) ->
  (∀i w ρ st,ws[i]?=some w->I (i0+i) ρ st->∃ρ' ρ2 cP,f w ρ=some ρ'/\body ρ' st=.nx ρ2 cP/\I (i0+i+1) ρ2 cP) ->
  ∃ρ2 cP,pq f body ck ws ρ st=.nx ρ2 cP/\I (i0+ws.length) ρ2 cP
 |[],ρ,st,i0,h0,hc,hs=>⟨ρ,st,by unfold pq;rw[am (hc _ _ _ h0)],h0⟩
 |w::ws,ρ,st,i0,h0,hc,hs=>by
  obtain⟨ρ',ρ2,cP,e1,e2,h1⟩:=hs 0 w ρ st rfl h0
  obtain⟨ρ3,lc,e3,h3⟩:=we I (ws:=ws) (ρ:=ρ2) (st:=cP) (i0+1) h1 hc fun i w ρ st hw hI=>by
   obtain⟨a,b,c,d,e,g⟩:=hs (i+1) w ρ st (by simpa using hw) (by rw[show i0+(i+1)=i0+1+i by omega];exact hI)
   exact⟨a,b,c,d,e,by rw[show i0+1+i+1=i0+(i+1)+1 by omega];exact g⟩
  refine⟨ρ3,lc,?_,by rw[cr,show i0+(ws.length+1)=i0+1+ws.length by omega];exact h3⟩
  unfold pq
  rw[am (hc _ _ _ h0),e1]
  simp only[e2]
  exact e3
theorem Aa{t:FT}{g:FS}(I:Nat->cn->List aq->Prop):∀(n:Nat) {ρ:cn} {st:List aq},I n ρ st ->
  (∀n ρ st,I n ρ st->t ρ st=.ok false st\/(t ρ st=.ok true st/\∃ρ2 cP m,g ρ st=.nx ρ2 cP/\m<n/\I m ρ2 cP)) ->
  ∃m ρ2 cP,oy t g ρ st=.nx ρ2 cP/\I m ρ2 cP/\t ρ2 cP=.ok false cP:=by
 intro n ρ st h hs
 have key:∀(k n:Nat) (ρ:cn) (st:List aq),n<k->I n ρ st->∃m ρ2 cP,fC t g k ρ st=.nx ρ2 cP/\I m ρ2 cP/\t ρ2 cP=.ok false cP:=by
  intro k
  induction k with
  |zero=>intro n _ _ h;exact absurd h (fY _)
  |succ k ih=>
   intro n ρ st hk hI
   rcases hs n ρ st hI with e|⟨e,ρ2,cP,m,e2,hm,h2⟩
   ·exact⟨n,ρ,st,by unfold fC;rw[e];rfl,hI,e⟩
   ·obtain⟨m',ρ3,lc,e3,h3⟩:=ih m ρ2 cP (by omega) h2
    exact⟨m',ρ3,lc,by unfold fC;rw[e];simp only[R.stmt_ok,gD,e2];exact e3,h3⟩
 obtain⟨m,ρ2,cP,e,h2⟩:=key (n+1) n ρ st (bB n) h
 exact⟨m,ρ2,cP,zM e (by simp),h2⟩
def NV(l:List Nat):W->Bool
 |.str m=>m==l
 |_=>false
def inS(ls:List (List Nat))(x:W):Bool:=ls.any fun l=>NV l x
section
variable{ρ ρ':cn}{st st1 cP lc Mf:List aq}{fa fb fe fo fi:FE}{fs:FA}{t u:FT}{x y z w v:W}{ws xs zs:List W}{i j n m:Nat}{a b k:Bool}{g g':FS}
theorem gF(h:ρ[i]?=some (some w)):aw i ρ st=.ok w st:=by unfold aw;rw[h]
theorem dR:eC w ρ st=.ok w st:=rfl
theorem dM{f:W->W->List aq->R W}(h1:fa ρ st=.ok x st1)(h2:fb ρ st1=.ok y cP)(h3:f x y cP=.ok z lc):e2 f fa fb ρ st=.ok z lc:=by unfold e2;rw[h1];simp only[R.bind_ok];rw[h2];exact h3
theorem b9:a6 ρ st=.ok [] st:=rfl
theorem aE(h1:fa ρ st=.ok x st1)(h2:fs ρ st1=.ok xs cP):ax fa fs ρ st=.ok (x::xs) cP:=by unfold ax;rw[h1];simp only[R.bind_ok];rw[h2];rfl
theorem HW{ls:List (List Nat)}:Km ls ρ st=.ok (ls.map W.str) st:=rfl
theorem pE(h1:fs ρ st=.ok ws st1)(h2:ws.length<=jQ):mB fs ρ st=.ok (.tup ws) st1:=by unfold mB;rw[h1];simp only[R.bind_ok,nU];rw[am h2]
theorem qM(h1:fs ρ st=.ok ws st1)(h2:ws.length<=jQ):o_ fs ρ st=.ok (.loc st1.length) (st1++[.lst ws]):=by unfold o_;rw[h1];simp only[R.bind_ok,kr];rw[am h2]
theorem eu{F:List W->List aq->R W}(h1:fs ρ st=.ok ws st1)(h2:F ws st1=.ok w cP):cT F fs ρ st=.ok w cP:=by unfold cT;rw[h1];exact h2
theorem dA{F:List W->List aq->R W}(h1:fs ρ st=.ok ws st1)(h2:F ws st1=.ok w cP)(hn:ws.length=n):eJ n F fs ρ st=.ok w cP:=by unfold eJ;rw[h1];simp only[R.bind_ok];rw[am hn];exact h2
theorem dW(h:fa ρ st=.ok (.bl k) st1):iJ fa ρ st=.ok k st1:=by unfold iJ;rw[h];rfl
theorem pF(h1:t ρ st=.ok true st1)(h2:u ρ st1=.ok k cP):Ds t u ρ st=.ok k cP:=by unfold Ds;rw[h1];exact h2
theorem rk(h1:t ρ st=.ok false st1):Ds t u ρ st=.ok false st1:=by unfold Ds;rw[h1];rfl
theorem kC(h1:t ρ st=.ok false st1)(h2:u ρ st1=.ok k cP):A_ t u ρ st=.ok k cP:=by unfold A_;rw[h1];exact h2
theorem rl(h1:t ρ st=.ok true st1):A_ t u ρ st=.ok true st1:=by unfold A_;rw[h1];rfl
theorem sN(h1:t ρ st=.ok a st1)(h2:(!a)=k):Ef t ρ st=.ok k st1:=by unfold Ef;rw[h1,<- h2];rfl
theorem rq(h1:fa ρ st=.ok (.bl true) st1)(h2:fb ρ st1=.ok w cP):xt fa fb ρ st=.ok w cP:=by unfold xt;rw[h1];exact h2
theorem HX(h1:fa ρ st=.ok (.bl false) st1)(h2:fb ρ st1=.ok w cP):Hk fa fb ρ st=.ok w cP:=by unfold Hk;rw[h1];exact h2
theorem HY(h1:fa ρ st=.ok (.bl true) st1):Hk fa fb ρ st=.ok (.bl true) st1:=by unfold Hk;rw[h1];rfl
theorem KW(h1:fa ρ st=.ok (.bl a) st1)(h2:(!a)=k):Eg fa ρ st=.ok (.bl k) st1:=by unfold Eg;rw[h1,<- h2];rfl
theorem Ab{F:W->List W->List aq->R W}(h1:fo ρ st=.ok x st1)(hl:sf st1 x=true)(h2:fs ρ st1=.ok ws cP)(h3:F x ws cP=.ok w lc):xB F fo fs ρ st=.ok w lc:=by unfold xB;rw[h1];simp only[R.bind_ok];rw[am hl,h2];exact h3
theorem EM{F:W->List W->List aq->R W}(h1:fo ρ st=.ok x st1)(hl:um x=true)(h2:fs ρ st1=.ok ws cP)(h3:F x ws cP=.ok w lc):FD F fo fs ρ st=.ok w lc:=by unfold FD;rw[h1];simp only[R.bind_ok];rw[am hl,h2];exact h3
theorem jE(h:st[n]?=some (.lst ws)):sf st (.loc n)=true:=by simp only[sf,h]
theorem BU{q:Int}(h:fa ρ st=.ok (.int q) st1):xD fa ρ st=.ok (.int (-q)) st1:=by unfold xD;rw[h];rfl
theorem KY{T c:String}(h:fa ρ st=.ok x st1)(hx:x.ty=some c)(hk:Et c T=k):sw T fa ρ st=.ok (.bl k) st1:=by unfold sw;rw[h];simp only[R.bind_ok,hx,hk]
theorem KZ(h:fa ρ st=.ok x st1)(hk:x.isNon=k):xu fa ρ st=.ok (.bl k) st1:=by unfold xu;rw[h,<- hk];rfl
theorem HZ(h:fa ρ st=.ok x st1)(hk:(!x.isNon)=k):Fu fa ρ st=.ok (.bl k) st1:=by unfold Fu;rw[h,<- hk];rfl
theorem BV:nX ρ st=.ok none st:=rfl
theorem BW{q:Int}(h:fa ρ st=.ok (.int q) st1):mW fa ρ st=.ok (some q) st1:=by unfold mW;rw[h];rfl
theorem BX{fl fh:FO}{l h:Option Int}(h1:fa ρ st=.ok x st1)(h2:fl ρ st1=.ok l cP)(h3:fh ρ cP=.ok h lc)(h4:wV x l h lc=.ok w Mf):Bi fa fl fh ρ st=.ok w Mf:=by unfold Bi;rw[h1];simp only[R.bind_ok];rw[h2];simp only[R.bind_ok];rw[h3];exact h4
theorem eT(h:fe ρ st=.ok w st1):dH i fe ρ st=.nx (ρ.set i (some w)) st1:=by unfold dH;rw[h];rfl
theorem m_(h:fe ρ st=.ok w st1):iL fe ρ st=.nx ρ st1:=by unfold iL;rw[h];rfl
theorem y8(h:fe ρ st=.ok w st1):fN fe ρ st=.rt w st1:=by unfold fN;rw[h];rfl
theorem BY{f:W->W->W->List aq->Option (List aq)}(h1:fe ρ st=.ok v st1)(h2:fo ρ st1=.ok x cP)(h3:fi ρ cP=.ok y lc)(h4:f x y v lc=some Mf):En fo fi fe f ρ st=.nx ρ Mf:=by
 unfold En;rw[h1];simp only[R.stmt_ok];rw[h2];simp only[R.stmt_ok];rw[h3];simp only[R.stmt_ok];rw[h4]
theorem u6{r:RS}(h1:t ρ st=.ok true st1)(h2:g ρ st1=r):mZ t g g' ρ st=r:=by unfold mZ;rw[h1];exact h2
theorem u7{r:RS}(h1:t ρ st=.ok false st1)(h2:g' ρ st1=r):mZ t g g' ρ st=r:=by unfold mZ;rw[h1];exact h2
theorem oB:fB ρ st=.nx ρ st:=rfl
theorem FR{r:RS}(h:g ρ st=.nx ρ' st1)(h2:g' ρ' st1=r):bG g g' ρ st=r:=by rw[BS h];exact h2
theorem u8(h:g ρ st=.rt w st1):bG g g' ρ st=.rt w st1:=by unfold bG;rw[h]
theorem qo{p q:Int}:eh (.int p) (.int q) st=.ok (.int (p+q)) st:=rfl
theorem xQ{p q:List Nat}(h:p.length+q.length<=jQ):eh (.str p) (.str q) st=.ok (.str (p++q)) st:=by simp only[eh];rw[am h]
theorem u9(h1:st[n]?=some (.lst ws))(h2:st[m]?=some (.lst xs))(h:(ws++xs).length<=jQ):eh (.loc n) (.loc m) st=.ok (.loc st.length) (st++[.lst (ws++xs)]):=by
 unfold eh;simp only[h1,h2,kr];rw[am h]
theorem jF{C:Int->Int->Prop}[∀i j,Decidable (C i j)]{f:Int->Int->Int}{p q:Int}(h:C p q):Av C f (.int p) (.int q) st=.ok (.int (f p q)) st:=by simp only[Av];rw[am h]
theorem BZ{p q:Int}(h:Eh p q):ku (.int p) (.int q) st=.ok (.int (p*q)) st:=by simp only[ku];rw[am h]
theorem B0{f:Int->Int->Bool}{p q:Int}(h:f p q=k):zI f (.int p) (.int q) st=.ok (.bl k) st:=by rw[<- h];rfl
theorem K0{p q:Int}(h:decide (p<=q)=k):Bs (.int p) (.int q) st=.ok (.bl k) st:=by rw[<- h];rfl
theorem ic{p q:Int}(h:(p==q)=k):mV (.int p) (.int q) st=.ok (.bl k) st:=by rw[<- h];rfl
theorem FU{p q:Int}(h:(!(p==q))=k):Bh (.int p) (.int q) st=.ok (.bl k) st:=by rw[<- h];rfl
theorem B1{p q:List Nat}(h:(p==q)=k):mV (.str p) (.str q) st=.ok (.bl k) st:=by rw[<- h];rfl
theorem wf{q:Int}(h:qS ws q=some w):d8 (.tup ws) (.int q) st=.ok w st:=by unfold d8;simp only[h,dg]
theorem kv(h:ρ[i]?=some (some w):=by rfl):aw i ρ st=.ok w st:=gF h
theorem ox{q:Int}(h:qS ws q=some w:=by rfl):d8 (.tup ws) (.int q) st=.ok w st:=wf h
theorem kn(h:ρ[i]?=some (some w):=by rfl):ax (aw i) a6 ρ st=.ok [w] st:=aE (gF h) b9
theorem kx{q:Int}(h:ρ[i]?=some (some (.tup ws)):=by rfl)(h2:qS ws q=some w:=by rfl):e2 d8 (aw i) (eC (.int q)) ρ st=.ok w st:=dM (gF h) dR (wf h2)
theorem y9{l:List Nat}{q:Int}{c:Nat}(hl:l.length<=jQ)(h:qS l q=some c):d8 (.str l) (.int q) st=.ok (.str [c]) st:=by unfold d8;simp only[h,dg];rw[am hl]
theorem jR{q:Int}(hl:lstOf st n=some ws)(h:qS ws q=some w):d8 (.loc n) (.int q) st=.ok w st:=by unfold d8;simp only[hl,h,dg]
theorem B2:gn [.tup ws] st=.ok (.int ws.length) st:=rfl
theorem B3{l:List Nat}(h:l.length<=jQ):gn [.str l] st=.ok (.int l.length) st:=by unfold gn;simp only;rw[am h]
theorem sO(hl:lstOf st n=some ws):gn [.loc n] st=.ok (.int ws.length) st:=by unfold gn;simp only[hl,dg]
theorem bR(h:st[n]?=some (.lst ws)):lstOf st n=some ws:=by unfold lstOf;rw[h]
theorem rA(h:st[n]?=some (.ro ws)):lstOf st n=some ws:=by unfold lstOf;rw[h]
theorem qN(h:st[n]?=some (.lst ws))(hl:ws.length<jQ):eQ (.loc n) [y] st=.ok .non (st.set n (.lst (ws++[y]))):=by unfold eQ;simp only[h];rw[am hl]
theorem xR{sep:List Nat}{ls:List (List Nat)}(h:lstOf st n=some (ls.map W.str))(hl:(ls.map List.length).sum+ls.length*sep.length<=jQ):nY (.str sep) [.loc n] st=.ok (.str (jz sep ls)) st:=by
 unfold nY;simp only[h,dg,uo];rw[am hl]
theorem K1{l h:Option Int}(hl:lstOf st n=some ws):wV (.loc n) l h st=.ok (.loc st.length) (st++[.lst (iZ ws l h)]):=by unfold wV;simp only[hl,dg]
theorem FV{l h:Option Int}{z:List Nat}(hl:z.length<=jQ):wV (.str z) l h st=.ok (.str (iZ z l h)) st:=by unfold wV;simp only;rw[am hl]
theorem B4{l h:Option Int}:wV (.tup ws) l h st=.ok (.tup (iZ ws l h)) st:=rfl
theorem y_(h:fe ρ st=.ok (.tup ws) st1):iN fe ρ st=.ok (ws,none) st1:=by unfold iN;rw[h];rfl
theorem za(h:fe ρ st=.ok (.loc n) st1)(hl:lstOf st1 n=some ws):iN fe ρ st=.ok (ws,some (n,ws)) st1:=by unfold iN;rw[h];simp only[R.bind_ok,hl]
theorem jS{q:Int}(h:fs ρ st=.ok [.int q] st1)(hq:-(2^62)<=q/\q<2^62):dk fs ρ st=.ok (dh 0 q.toNat,none) st1:=by unfold dk;rw[h];simp only[R.bind_ok];rw[am hq]
theorem jo{α:Type}{l:List α}{q:Nat}{x:α}(h:l[q]?=some x):qS l (q:Int)=some x:=by
 have hq:q<l.length:=(al.mp h).1
 unfold qS Js
 rw[am (by omega),am (by omega)]
 simpa using h
def kD(P:RS->Prop)(r:RS):Prop:=P r
def Jt(I:cn->List aq->Prop):RS->Prop:=fun r=>∃ρ st,r=.nx ρ st/\I ρ st
def Du(I:W->List aq->Prop):RS->Prop:=fun r=>∃w st,r=.rt w st/\I w st
variable{P:RS->Prop}{eS:FS}
theorem dm{r r':RS}(h:r=r')(h2:P r'):kD P r:=by rw[h];exact h2
theorem ba(h:g ρ st=.nx ρ' st1)(h2:kD P (g' ρ' st1)):kD P (bG g g' ρ st):=by rw[BS h];exact h2
theorem ms(h1:t ρ st=.ok true st1)(h2:kD P (g ρ st1)):kD P (mZ t g g' ρ st):=by rw[u6 h1 rfl];exact h2
theorem lr(h1:t ρ st=.ok false st1)(h2:kD P (g' ρ st1)):kD P (mZ t g g' ρ st):=by rw[u7 h1 rfl];exact h2
theorem f9(h1:t ρ st=.ok true st1)(h2:kD P (bG g eS ρ st1)):kD P (bG (mZ t g g') eS ρ st):=by
 unfold bG at h2 ⊢;rw[u6 h1 rfl];exact h2
theorem dI(h1:t ρ st=.ok false st1)(h2:kD P (bG g' eS ρ st1)):kD P (bG (mZ t g g') eS ρ st):=by
 unfold bG at h2 ⊢;rw[u7 h1 rfl];exact h2
theorem nL{h:FS}(h2:kD P (bG g (bG g' h) ρ st)):kD P (bG (bG g g') h ρ st):=by
 unfold bG at h2 ⊢
 cases e:g ρ st<;>simp only[e]at h2 ⊢ <;> exact h2
theorem eK(h2:kD P (eS ρ st)):kD P (bG fB eS ρ st):=h2
theorem eA(h:fe ρ st=.ok w st1)(h2:P (.rt w st1)):kD P (fN fe ρ st):=by rw[y8 h];exact h2
theorem fK(h:fe ρ st=.ok w st1)(h2:P (.rt w st1)):kD P (bG (fN fe) eS ρ st):=by rw[u8 (y8 h)];exact h2
theorem lV{fi:FI}{f:FG}{body:FS}{k:zL}(I:Nat->cn->List aq->Prop)(h:fi ρ st=.ok k st1)(h0:I 0 ρ st1)(hc:∀i ρ st,I i ρ st->iM st k.2)
  (hs:∀i w ρ st,k.1[i]?=some w->I i ρ st->∃ρ',f w ρ=some ρ'/\kD (Jt (I (i+1))) (body ρ' st)) (he:∀ρ st,I k.1.length ρ st->kD P (eS ρ st)):kD P (bG (p_ fi f body) eS ρ st):=by
 obtain⟨ρ2,cP,e,h2⟩:=we (f:=f) (body:=body) (ck:=k.2) I (ws:=k.1) (ρ:=ρ) (st:=st1) 0 h0 hc fun i w ρ st hw hI=>by
  rw[fT]at hI ⊢
  obtain⟨ρ',e1,ρ2,cP,e2,h2⟩:=hs i w ρ st hw hI
  exact⟨ρ',ρ2,cP,e1,e2,h2⟩
 rw[fT]at h2
 exact ba (by rw[y6 h];exact e) (he _ _ h2)
theorem Ac{body:FS}(I:Nat->cn->List aq->Prop)(n:Nat)(h0:I n ρ st)
  (hs:∀n ρ st,I n ρ st->t ρ st=.ok false st\/(t ρ st=.ok true st/\kD (Jt fun ρ2 cP=>∃m,m<n/\I m ρ2 cP) (body ρ st))) (he:∀m ρ st,I m ρ st->t ρ st=.ok false st->kD P (eS ρ st)):kD P (bG (oy t body) eS ρ st):=by
 obtain⟨m,ρ2,cP,e,h2,h3⟩:=Aa (t:=t) (g:=body) I n h0 fun n ρ st hI=>by
  rcases hs n ρ st hI with e|⟨e,ρ2,cP,e2,m,hm,h2⟩
  ·exact .inl e
  ·exact .inr ⟨e,ρ2,cP,m,e2,hm,h2⟩
 exact ba e (he _ _ _ h2 h3)
theorem rB{N:Nat}{body:FS}{Q:W->Prop}(h:kD (Du fun w bp=>(∃x,bp=st++x)/\undWs st.length [w]=true/\Q w) (body (ws.map some++List.replicate (N-ws.length) none) st)):∃w,Q w/\fW N body ws st=.ok w st:=by
 obtain⟨w,bp,e,⟨x,rfl⟩,hu,q⟩:=h
 exact⟨w,q,wc e hu⟩
theorem gI{N:Nat}{body:FS}(h:kD (Du fun w' bp=>w'=w/\∃x,bp=st++x) (body (ws.map some++List.replicate (N-ws.length) none) st))(hu:undWs st.length [w]=true):fW N body ws st=.ok w st:=by
 obtain⟨w,bp,e,rfl,x,rfl⟩:=h
 exact wc e hu
theorem zb{N:Nat}{body:FS}{Q:Nat->List aq->Prop}(h:kD (Du fun w bp=>∃j x,w=.loc (st.length+j)/\bp=st++x/\Q j x) (body (ws.map some++List.replicate (N-ws.length) none) st)):∃j x,Q j x/\fW N body ws st=.ok (.loc (st.length+j)) (st++x):=by
 obtain⟨w,bp,e,j,x,rfl,rfl,q⟩:=h
 exact⟨j,x,q,BR e⟩
theorem qp{q i:Nat}{lo:Int}{w:W}(h:(dh lo q)[i]?=some w):i<q/\w=.int (lo+i):=by
 unfold dh at h
 obtain⟨h1,h2⟩:=al.mp h
 simp only[az,dw]at h1
 exact⟨h1,by rw[<- h2];simp⟩
theorem pG{α:Type}{l:List α}{q:Nat}(h:q<=l.length):iZ l none (some (q:Int))=l.take q:=by
 unfold iZ;rw[HT.sIx_none,HT.sIx_nat,mz h];simp
theorem rC{α:Type}{l:List α}{q:Nat}(h:q<=l.length):iZ l (some (q:Int)) none=l.drop q:=by
 unfold iZ;rw[HT.sIx_none,HT.sIx_nat,mz h];rw[cf (by simp)]
theorem nM{q:Int}{n:Nat}(h:0<n):∃m:Nat,m<n/\q%(n:Int)=m:=by
 have h0:0<=q%(n:Int):=gX _ (by omega)
 have h1:q%(n:Int)<n:=kg _ (by omega)
 exact⟨(q%(n:Int)).toNat,by omega,by omega⟩
end
section
variable{ρ:cn}{st st1:List aq}{t u:FT}{a b k:Bool}{P:RS->Prop}{g g' eS:FS}{w:W}{ws:List W}
theorem B5(h1:t ρ st=.ok a st)(h2:u ρ st=.ok b st):Ds t u ρ st=.ok (a&&b) st:=by cases a;exact rk h1;exact pF h1 h2
theorem H9(h1:t ρ st=.ok a st)(h2:u ρ st=.ok b st):A_ t u ρ st=.ok (a||b) st:=by cases a;exact kC h1 h2;exact rl h1
theorem H_(h1:t ρ st=.ok a st):Ef t ρ st=.ok (!a) st:=sN h1 rfl
end
end L2
open L2
local macro_rules | `(tactic| walk_at "ev1") => `(tactic| first
 | (with_reducible apply gF) <;> rfl
 | (with_reducible apply wf) <;> rfl
 | with_reducible first
  | exact dR | exact b9 | exact HW | exact BV | exact qo | exact B2 | exact oB | exact B4
  | apply dM | apply aE | apply pE | apply qM | apply eu | apply dA | apply dW | apply sN | apply KW
  | apply Ab | apply EM | apply BU | apply KY | apply KZ | apply HZ | apply BW | apply BX | apply eT | apply m_ | apply y8 | apply BY
  | apply jF | apply BZ | apply B0 | apply K0 | apply ic | apply FU | apply B1 | apply xQ
 | decide
 | (show List.length _ <= jQ; exact aU rfl)
 | (show @Eq Nat _ _; exact rfl)
 | (show @Eq Bool _ _; exact rfl)
 | (show @Eq (Option String) _ _; exact rfl)
 | (show @Eq _ _ _; with_reducible assumption))
local macro_rules | `(tactic| walk_at "evs") => `(tactic| repeat' walk_at "ev1")
local macro_rules | `(tactic| walk_at "tst") => `(tactic| first
 | (walk_at "evs"; done)
 | (apply rk; (focus walk_at "tst"); done)
 | (apply pF; (focus walk_at "tst"); (focus walk_at "tst"); done)
 | (apply rl; (focus walk_at "tst"); done)
 | (apply kC; (focus walk_at "tst"); (focus walk_at "tst"); done))
local macro_rules | `(tactic| walk_at "go1") => `(tactic| first
 | apply eK
 | (apply fK; (focus (walk_at "evs"; done)))
 | (apply eA; (focus (walk_at "evs"; done)))
 | (apply f9; (focus walk_at "tst"))
 | (apply dI; (focus walk_at "tst"))
 | (apply ms; (focus walk_at "tst"))
 | (apply lr; (focus walk_at "tst"))
 | (apply ba; (focus (walk_at "evs"; done))))
local macro_rules | `(tactic| walk_at "go") => `(tactic| repeat walk_at "go1")
local macro_rules | `(tactic| walk_at "tb") => `(tactic| repeat' (first | with_reducible apply B5 | with_reducible apply H9 | with_reducible apply H_ | walk_at "ev1"))
local macro_rules | `(tactic| walk_at "len") => `(tactic| (simp only [aJ, cr, mv]; show _ <= 1000000; omega))
namespace L2
open PySem PySem.Spec PyProof.Rows
section
variable{ρ ρ' ρ2:cn}{st st1 cP:List aq}{fa fe:FE}{fs:FA}{g gh eS:FS}{ws:List W}{w:W}{n i:Nat}{c:Str}{cs:List Str}{P:RS->Prop}{b:Bool}
def NW(c:Str)(I:List aq->Prop):RS->Prop:=fun r=>∃ρ st,r=.ex c ρ st/\I st
theorem zc{N:Nat}{body:FS}(h:kD (NW c fun bp=>∃x,bp=st++x) (body (ws.map some++List.replicate (N-ws.length) none) st)):fW N body ws st=.ex c st:=by
 obtain⟨ρ,bp,e,x,rfl⟩:=h
 unfold fW
 rw[e]
 simp only[qj (st:=st) (x:=x) (ws:=[]) rfl]
theorem B6{N:Nat}{body:FS}(h:kD (Jt fun _ bp=>∃x,bp=st++x) (body (ws.map some++List.replicate (N-ws.length) none) st)):fW N body ws st=.ok .non st:=by
 obtain⟨ρ,bp,e,x,rfl⟩:=h
 unfold fW
 rw[e]
 simp only[qj (st:=st) (x:=x) (ws:=[]) rfl]
theorem uw(h:P (.ex c ρ st)):kD P (xF c ρ st):=h
theorem wg{F:List W->List aq->R W}(h1:fs ρ st=.ok ws st1)(h2:F ws st1=.ex c cP)(hn:ws.length=n):eJ n F fs ρ st=.ex c cP:=by unfold eJ;rw[h1];simp only[R.bind_ok];rw[am hn];exact h2
theorem B8(h:fe ρ st=.ex c st1):dH i fe ρ st=.ex c ρ st1:=by unfold dH;rw[h];rfl
theorem Ad(h:fe ρ st=.ex c st1):iL fe ρ st=.ex c ρ st1:=by unfold iL;rw[h];rfl
theorem xS(h:g ρ st=.ex c ρ' st1)(h2:P (.ex c ρ' st1)):kD P (bG g eS ρ st):=by unfold bG;rw[h];exact h2
theorem B9(h:g ρ st=.nx ρ' st1):xG g cs i gh ρ st=.nx ρ' st1:=by unfold xG;rw[h]
theorem FW{f:Str->Option Bool}(h:fa ρ st=.ok (.loc n) st1)(hc:st1[n]?=some (.exc c))(hf:f c=some b):m9 f fa ρ st=.ok (.bl b) st1:=by
 unfold m9;rw[h];simp only[R.bind_ok,hc,hf]
theorem K2{p q:Bool}(h:(p==q)=b):mV (.bl p) (.bl q) st=.ok (.bl b) st:=by rw[<- h];rfl
theorem B_{zs:List W}{k:Nat}{y:W}(h:st[n]?=some (.lst zs))(hk:k<=zs.length)(hl:zs.length<jQ)(N7:k<1000000):nJ (.loc n) [.int k,y] st=.ok .non (st.set n (.lst (zs.take k++y::zs.drop k))):=by
 unfold nJ;simp only[h,bP];rw[am ⟨by omega,hk,hl,by omega⟩]
theorem kE(I:cn->List aq->Prop)(h:kD (Jt I) (g ρ st))(h2:∀ρ st,I ρ st->kD P (eS ρ st)):kD P (bG g eS ρ st):=by
 obtain⟨ρ',bp,e,hi⟩:=h
 exact ba e (h2 _ _ hi)
end
section
variable{ρ:cn}{st st1:List aq}{fi:FI}{f:FG}{t:FT}{el:FE}{cap:List (Option Nat)}
theorem wj{ck:Option (Nat×List W)}{ρ0:cn}(hc:iM st ck)(T:W->Bool)(Y:W->W):∀(ws fk:List W),(∀w∈ws,∃ρ',f w ρ0=some ρ'/\t ρ' st=.ok (T w) st/\(T w=true->el ρ' st=.ok (Y w) st)) ->
  mq f t el ck ρ0 ws fk st=.ok (fk++(ws.filter T).map Y) st
 |[],fk,_=>by unfold mq;rw[am hc];simp
 |w::ws,fk,h=>by
  obtain⟨ρ',e1,e2,e3⟩:=h w (by simp)
  have ih:=fun fk=>wj hc T Y ws fk fun w' hw'=>h w' (by simp[hw'])
  unfold mq
  rw[am hc,e1]
  simp only[e2]
  cases hT:T w with
  |true=>
   simp only[e3 hT]
   rw[ih]
   simp[i8,hT]
  |false=>
   simp only
   rw[ih]
   simp[i8,hT]
theorem sP{ws:List W}{ck:Option (Nat×List W)}(T:W->Bool)(Y:W->W)(h:fi ρ st=.ok (ws,ck) st1)(hl:ws.length<=jQ)(hc:iM st1 ck)
  (hs:∀w∈ws,∃ρ',f w (qc cap ρ)=some ρ'/\t ρ' st1=.ok (T w) st1/\(T w=true->el ρ' st1=.ok (Y w) st1)):ia cap fi f t el ρ st=.ok (.loc st1.length) (st1++[.lst ((ws.filter T).map Y)]):=by
 unfold ia
 rw[h]
 simp only[R.bind_ok]
 rw[am hl,wj hc T Y ws [] hs]
 simp only[R.bind_ok,fZ,kr]
 rw[am]
 rw[az]
 exact aA (b6 _ _) hl
theorem EN{ws:List W}{ck:Option (Nat×List W)}(Y:W->W)(h:fi ρ st=.ok (ws,ck) st1)(hl:ws.length<=jQ)(hc:iM st1 ck)
  (hs:∀w∈ws,∃ρ',f w (qc cap ρ)=some ρ'/\el ρ' st1=.ok (Y w) st1):ia cap fi f Bq el ρ st=.ok (.loc st1.length) (st1++[.lst (ws.map Y)]):=by
 have:=sP (fi:=fi) (f:=f) (t:=Bq) (el:=el) (cap:=cap) (fun _=>true) Y h hl hc fun w hw=>by
  obtain⟨ρ',e1,e2⟩:=hs w hw
  exact⟨ρ',e1,rfl,fun _=>e2⟩
 rw[jB.mpr (fun _ _=>rfl)]at this
 exact this
theorem nN{q:Nat}{lo:Int}{w:W}(h:w∈dh lo q):∃i:Nat,i<q/\w=.int (lo+i):=by
 unfold dh at h
 obtain⟨i,hi,rfl⟩:=bC.mp h
 exact⟨i,dr.mp hi,rfl⟩
theorem kR{n:Nat}{ws:List W}(h:lstOf st n=some ws):iw [.loc n] st=.ok (.tup ws) st:=by unfold iw;simp only[h,dg]
theorem Ia{ws xs:List W}(h:(ws++xs).length<=jQ):eh (.tup ws) (.tup xs) st=.ok (.tup (ws++xs)) st:=by simp only[eh,nU];rw[am h]
end
open Builtin Builtin.Str
theorem ux{c:Nat}:∀ws:List (List Nat),(∀w∈ws,c∉w)->(jz [c] ws).filter (fun d=>d != c)=ws.flatten
 |[],_=>rfl
 |[x],h=>by
  have hx:c∉x:=h x (by simp)
  show x.filter _=_
  rw[jB.mpr fun d hd=>by simp;rintro rfl;exact hx hd]
  simp
 |x::y::r,h=>by
  have hx:c∉x:=h x (by simp)
  show(x++[c]++jz [c] (y::r)).filter _=_
  rw[List.filter_append,List.filter_append,ux (y::r) fun w hw=>h w (aW _ hw),jB.mpr fun d hd=>by simp;rintro rfl;exact hx hd]
  simp
theorem EO(l:List Nat)(c:Nat):Txt.replace (tx l) (tx [c]) (tx [])=tx (l.filter fun d=>d != c):=by
 obtain⟨f,hg,hfree⟩:=StrLaws.occ_tight (tx l) (tx [c]) (by simp[tx,Str.length])
 obtain⟨f',hc⟩:=StrLaws.occ_chain (tx l) (tx [c]) ((tx l).length+1)
 have pf:=StrLaws.parts_free (tx l) c _ 0 f hg hfree
 have pj:=StrLaws.join_partsFrom (tx l) (tx [c]) _ 0 f' hc
 rw[StrLaws.sub_whole]at pj
 unfold Txt.replace
 rw[StrLaws.partsBetween_eq]
 have pe:(occurrences (tx l) (tx [c]) 0 (tx l).length ((tx l).length+1)).isEmpty=true->StrLaws.partsFrom (tx l) (tx [c]).length 0 (occurrences (tx l) (tx [c]) 0 (tx l).length ((tx l).length+1))=[tx l]:=fun h=>by
  rw[List.isEmpty_iff.mp h]
  show[strSub (tx l) 0 (tx l).length]=_
  rw[StrLaws.sub_whole]
 generalize occurrences (tx l) (tx [c]) 0 (tx l).length ((tx l).length+1)=os at pf pj pe ⊢
 have pf:∀p∈StrLaws.partsFrom (tx l) (tx [c]).length 0 os,c∉p.cps.toList:=pf
 generalize StrLaws.partsFrom (tx l) (tx [c]).length 0 os=ps at pf pj pe ⊢
 have em:ps=(ps.map fun z=>z.cps.toList).map tx:=by
  rw[bb]
  conv=>lhs;rw[<- ij ps]
  exact cw fun z _=>(J9 z).symm
 have fr:∀w∈ps.map (fun z=>z.cps.toList),c∉w:=fun w hw=>by
  obtain⟨p,hp,rfl⟩:=bC.mp hw
  exact pf p hp
 generalize ps.map (fun z=>z.cps.toList)=ws at em fr
 subst em
 have ej:∀sep:List Nat,Str.join (tx sep) (ws.map tx)=tx (jz sep ws):=fun sep=>by
  rw[<- yy sep ws]
  show _=glued _ _
  rw[gc]
 rw[ej]at pj
 have el:jz [c] ws=l:=uO.mp pj
 have hfl:=ux ws fr
 rw[el]at hfl
 split
 ·rename_i h
  rw[show((tx [c]).length==0&&(tx []).length==0)=false from rfl,jd]at h
  have e1:=pe h
  have:ws.flatten=l:=by
   have e2:ws=[l]:=by
    cases ws with
    |nil=>cases e1
    |cons a r=>
     cases r with
     |nil=>simp only[a7,jG,List.cons.injEq,and_true]at e1;rw[uO.mp e1]
     |cons _ _=>simp at e1
   rw[e2];simp
  rw[hfl,this]
 ·rw[gc,ej,lh,hfl]
section
variable{X:Cx}{o e:Expr}{to te:TE}{iy dZ p2:Pos}{j:Nat}
def K3(to te:TE):TE:=fun σ H Q=>to σ H fun x H1=>(∃l,x=.str (tx l))/\te σ H1 fun y H2=>∃l c,x=.str (tx l)/\y=.str (tx [c])/\l.length<=1000000/\Q (.str (tx (l.filter fun d=>d != c))) H2
theorem EQ(ho:PE X o to)(he:PE X e te)
  (jT:attributeBase o "replace" X.env (eval o X.env)=eval o X.env)
  (oJ:((backTo dZ (starEach [e,.Constant (.str (tx [])) j p2] X.env)).all (fun x=>!x.1)&&(backToKw dZ (keywordEach [] X.env)).all (fun x=>x.1.isSome)
   && decide ([e,.Constant (.str (tx [])) j p2].length+([]:List Keyword).length+(if ([]:List Keyword).isEmpty then 0 else 1)<30))=true)
  (lw:(iy.endLine==dZ.line)=true) (hs:starEach [e,.Constant (.str (tx [])) j p2] X.env=(false,eval e X.env)::starEach [.Constant (.str (tx [])) j p2] X.env) :
  PE X (.Call (.Attribute o "replace" iy) [e,.Constant (.str (tx [])) j p2] [] dZ) (K3 to te):=by
 intro ae s σ H Q I h
 refine l9 jT oJ lw rfl (jx (ho ae s σ H _ I h) fun v s1 kt1 ⟨x,H1,I1,r1,ty,q1⟩=>?_)
 obtain⟨h1,h2⟩:=AM I1 r1 (yz ty)
 refine⟨"str",_,F.plainAttrs_str,F.slot_str_replace,F.type_str_replace,h1,h2,?_⟩
 rw[hs]
 refine l_ rfl (jj ?_)
 show wpAny _ _ (spliced ((false,eval e X.env)::backTo dZ (starEach [.Constant (.str (tx [])) j p2] X.env))) _ _ s1
 refine cX (jx (he ae s1 σ H1 _ I1 q1) fun u s2 kt2 ⟨y,H2,I2,r2,l,c,ex,ey,hl,q2⟩=>?_)
 subst ex ey
 obtain⟨t,rfl⟩:=r1.up kt2
 obtain⟨t2,rfl⟩:=r2
 show wpAny _ _ (spliced ((false,eval (.Constant (.str (tx [])) j p2) X.env)::backTo dZ (starEach [] X.env))) _ _ s2
 refine cX (Calls.Constant_str ?_)
 show wpAny _ _ (spliced []) _ _ _
 refine d5 ?_
 obtain⟨p1,p2⟩:=t2.2 rfl
 have n1:t2.1≠0:=du p1
 have n2:s2.toks≠0:=du I2.pos
 have n3:t2.1≠s2.toks:=aK p2
 have e0:(tx []).length=0:=rfl
 have e1:(1000000:Nat)<=sizeLine:=by decide
 refine call_gives F.slot_str_replace (jY _ _ _) F.entry_str_replace (F.args_str_replace_3 _ _ _)
  (gives_str_replace (tx l) (tx [c]) (tx []) t.1 t2.1 s2.toks fun _=>⟨by simp[n1,n2],by simp[n3],rfl,?_⟩) ?_
 ·rw[e0,Nat.mul_zero,jH,gZ]
  unfold tooLong
  exact aP (by omega)
 ·have hq:=EO l c
  unfold Txt.replace at hq
  cases hc:((occurrences (tx l) (tx [c]) 0 (tx l).length ((tx l).length+1)).isEmpty||((tx [c]).length==0&&(tx []).length==0))
  ·rw[hc]at hq
   simp only[bY,cA]at hq ⊢
   rw[hq]
   have I3:=I2.tok (s2.toks+1)
   refine⟨?_,⟨.str _,H2,I3.tok _,I3.tkS,q2⟩⟩
   rw[gZ]
   exact aA (b6 _ _) (aA hl e1)
  ·rw[hc]at hq
   simp only[gD]at hq ⊢
   rw[<- hq]at q2
   exact⟨.str (tx l),H2,I2.tok _,⟨t.up (a8 _),rfl⟩,q2⟩
end
section
variable{X:Cx}{o e:Expr}{fo fe:FE}{iy dZ p2:Pos}{j:Nat}
def Cb:W->W->List aq->R W
 |.str l,.str [c],st=>if l.length<=jQ then .ok (.str (l.filter fun d=>d != c)) st else .bad
 |_,_,_=>.bad
def zd(fo fe:FE):FE:=fun ρ st=>(fo ρ st).bind fun x st=>if um x then(fe ρ st).bind fun y st=>Cb x y st else .bad
theorem Ib{z:Str}(ho:SE X o fo)(he:SE X e fe)(hz:z=tx []:=by first|rfl|decide +kernel)
  (jT:attributeBase o "replace" X.env (eval o X.env)=eval o X.env:=by rfl)
  (oJ:((backTo dZ (starEach [e,.Constant (.str z) j p2] X.env)).all (fun x=>!x.1)&&(backToKw dZ (keywordEach [] X.env)).all (fun x=>x.1.isSome)
   && decide ([e,.Constant (.str z) j p2].length+([]:List Keyword).length+(if ([]:List Keyword).isEmpty then 0 else 1)<30))=true:=by rfl)
  (lw:(iy.endLine==dZ.line)=true:=by rfl) (hs:starEach [e,.Constant (.str z) j p2] X.env=(false,eval e X.env)::starEach [.Constant (.str z) j p2] X.env:=by rfl) :
  SE X (.Call (.Attribute o "replace" iy) [e,.Constant (.str z) j p2] [] dZ) (zd fo fe):=⟨by
 subst hz
 refine(EQ ho.h he.h jT oJ lw hs).imp fun σ H Q h=>?_
 obtain⟨μ,ρ,st,l,h⟩:=h
 refine⟨μ,ρ,st,l,RK.bind h l fun μ1 st1 x v H1 p1 x1 l1 q1 h1=>?_⟩
 cases x with
 |str z=>
  rw[am (show um (W.str z)=true from rfl)]at h1
  refine⟨⟨z,q1.strE⟩,μ1,ρ,st1,l1,RK.bind h1 l1 fun μ2 cP y u H2 p2 x2 l2 q2 h2=>?_⟩
  unfold Cb at h2
  split at h2
  ·rename_i l' c e1
   cases e1
   split at h2
   ·rename_i hl
    exact⟨_,c,q1.strE,q2.strE,hl,h2 μ2 _ H2 (aj _) eV.refl l2.sto .str⟩
   ·exact h2.elim
  ·exact h2.elim
 |_=>exact h1.elim⟩
theorem Ic{ρ:cn}{st st1 cP:List aq}{l:List Nat}{c:Nat}(h1:fo ρ st=.ok (.str l) st1)(h2:fe ρ st1=.ok (.str [c]) cP)(hl:l.length<=jQ):zd fo fe ρ st=.ok (.str (l.filter fun d=>d != c)) cP:=by
 unfold zd
 rw[h1]
 simp only[R.bind_ok]
 rw[am (show um (W.str l)=true from rfl),h2]
 simp only[R.bind_ok]
 unfold Cb
 simp only
 rw[am hl]
end
end L2
namespace P
open PySem L2
open PyProof.Rows (boot_sorted boot_set boot_ord boot_all boot_enumerate boot_int boot_str boot_bool boot_list boot_tuple boot_isinstance boot_max boot_min)
def tP(i:Nat):Stmt:=PySem.Challenge.pw_trunksay_k07_dressed_and_borne.main.body.getD i (.Pass ⟨0,0,0,0⟩)
abbrev Ie:Stmt:=tP 1
abbrev xU:List Str:=["letters"]
abbrev K4:List Str:=["letters"]
theorem K5:ce xU K4 (bg Ie):=tO
abbrev Ig:Stmt:=tP 14
abbrev tQ:List Str:=["tree","place"]
abbrev K6:List Str:=["tree","place"]
theorem K7:ce tQ K6 (bg Ig):=tO
abbrev Ih:Stmt:=tP 16
abbrev xV:List Str:=["tree","letter"]
abbrev K8:List Str:=["tree","letter"]
theorem K9:ce xV K8 (bg Ih):=tO
abbrev Ii:Stmt:=tP 17
abbrev u_:List Str:=["tree","letter","places","chosen","number","dressed","place","marks"]
abbrev K_:List Str:=["tree","letter","places"]
theorem qO:ce u_ K_ (bg Ii):=tO
abbrev Ij:Stmt:=tP 19
abbrev wl:List Str:=["_law_script","_law_k"]
abbrev K':List Str:=["_law_script","_law_k"]
theorem La:ce wl K' (bg Ij):=tO
abbrev Ik:Stmt:=tP 20
abbrev va:List Str:=["_law_cell_here","_law_k","_law_salt","_law_first"]
abbrev Lb:List Str:=["_law_cell_here","_law_k","_law_salt"]
theorem FX:ce va Lb (bg Ik):=tO
abbrev Il:Stmt:=tP 21
abbrev vb:List Str:=["_law_cell_here","_law_many","_law_salt","_law_found","_law_rest","_law_k"]
abbrev Lc:List Str:=["_law_cell_here","_law_many","_law_salt"]
theorem uy:ce vb Lc (bg Il):=tO
abbrev Im:Stmt:=tP 22
abbrev wm:List Str:=["_law_cell_here","_law_salt","_law_most","_law_draws_here","_law_size_here"]
abbrev Ld:List Str:=["_law_cell_here","_law_salt","_law_most"]
theorem Cd:ce wm Ld (bg Im):=tO
abbrev Io:Stmt:=tP 23
abbrev wn:List Str:=["_law_found","_law_due_here","_law_k"]
abbrev Ip:List Str:=["_law_found","_law_due_here"]
theorem FY:ce wn Ip (bg Io):=tO
abbrev Iq:Stmt:=tP 24
abbrev wq:List Str:=["_law_cell_here","_law_many","_law_salt","_law_rest","_law_found","_law_d","_law_at"]
abbrev Lf:List Str:=["_law_cell_here","_law_many","_law_salt"]
theorem sQ:ce wq Lf (bg Iq):=tO
abbrev Ce:Stmt:=tP 25
abbrev vc:List Str:=["_law_pool_here","_law_number"]
abbrev FZ:List Str:=["_law_pool_here","_law_number"]
theorem Ir:ce vc FZ (bg Ce):=tO
abbrev Cf:Stmt:=tP 26
abbrev wt:List Str:=["_law_draws_here","_law_pool_here","_law_most","_law_found","_law_high","_law_d","_law_branches","_law_many"]
abbrev F0:List Str:=["_law_draws_here","_law_pool_here","_law_most"]
theorem kS:ce wt F0 (bg Cf):=tO
abbrev Cg:Stmt:=tP 27
abbrev vd:List Str:=["_law_e","_law_found"]
abbrev F1:List Str:=["_law_e"]
theorem ve:ce vd F1 (bg Cg):=tO
abbrev Ci:Stmt:=tP 28
abbrev oD:List Str:=["_law_at"]
abbrev F2:List Str:=["_law_at"]
theorem Iu:ce oD F2 (bg Ci):=tO
abbrev Cj:Stmt:=tP 29
abbrev sR:List Str:=[]
abbrev Ck:List Str:=[]
theorem Iv:ce sR Ck (bg Cj):=tO
abbrev Cm:Stmt:=tP 30
abbrev tR:List Str:=["_law_tree","_law_cell_here","_law_salt","_law_draws_here","_law_at","_law_marks_here"]
abbrev F3:List Str:=["_law_tree","_law_cell_here","_law_salt"]
theorem vf:ce tR F3 (bg Cm):=tO
abbrev Cn:Stmt:=tP 31
abbrev sT:List Str:=["_law_tree","_law_letter","_law_places","_law_found","_law_e"]
abbrev F4:List Str:=["_law_tree","_law_letter","_law_places"]
theorem xW:ce sT F4 (bg Cn):=tO
abbrev Co:Stmt:=tP 32
abbrev xX:List Str:=["_law_tree","_law_letter","_law_places","_law_found","_law_k","_law_marks_here"]
abbrev F5:List Str:=["_law_tree","_law_letter","_law_places"]
theorem vg:ce xX F5 (bg Co):=tO
abbrev Cp:Stmt:=tP 33
abbrev sU:List Str:=["_law_tree","_law_letter"]
abbrev F6:List Str:=["_law_tree","_law_letter"]
theorem Iw:ce sU F6 (bg Cp):=tO
abbrev Cq:Stmt:=tP 34
abbrev wu:List Str:=["_law_many","_law_draws_here","_law_ways","_law_places"]
abbrev F7:List Str:=["_law_many","_law_draws_here","_law_ways"]
theorem qr:ce wu F7 (bg Cq):=tO
abbrev pH:Stmt:=tP 35
abbrev Lg:List Str:=["_law_script","_law_pool_here","_law_draws_here","_law_tree","_law_ways","_law_letter","_law_places","_law_due_here","_law_borne","_law_bad","_law_found","_law_other"]
abbrev Cr:List Str:=["_law_script"]
theorem i4:ce Lg Cr (bg pH):=tO
structure Bl(mg:Str->Option Value):Prop where
 ValueError:mg "ValueError"=Option.none
 bool:mg "bool"=Option.none
 enumerate:mg "enumerate"=Option.none
 int:mg "int"=Option.none
 isinstance:mg "isinstance"=Option.none
 len:mg "len"=Option.none
 list:mg "list"=Option.none
 range:mg "range"=Option.none
 set:mg "set"=Option.none
 sorted:mg "sorted"=Option.none
 str:mg "str"=Option.none
 tuple:mg "tuple"=Option.none
abbrev n6:List Str:=["TrunkError","NoPlace"]
def jN:Str->Option Bool:=fun c=>if c="TrunkError" then some false else if c="NoPlace" then some false else none
def jO:Str->Option Bool:=fun c=>if c="TrunkError" then some false else if c="NoPlace" then some false else none
def ie:Str->Option Bool:=fun c=>if c="TrunkError" then some false else if c="NoPlace" then some false else none
def i5:Str->Option Bool:=fun c=>if c="TrunkError" then some false else if c="NoPlace" then some true else none
def fE:Str->Option Bool:=fun c=>if c="TrunkError" then some false else if c="NoPlace" then some false else none
def jP:Str->Option Bool:=fun c=>if c="TrunkError" then some false else if c="NoPlace" then some false else none
def fF:Str->Option Bool:=fun c=>if c="TrunkError" then some false else if c="NoPlace" then some false else none
def fG:Str->Option Bool:=fun c=>if c="TrunkError" then some false else if c="NoPlace" then some false else none
def ig:Str->Option Bool:=fun c=>if c="TrunkError" then some false else if c="NoPlace" then some false else none
def f_:Str->Option Bool:=fun c=>if c="TrunkError" then some true else if c="NoPlace" then some true else none
theorem ER:bootBuiltins "ValueError"=some (.type "ValueError"):=by first|rfl|kernel_rfl|decide +kernel
structure Fj(K:Frag)(mg:Str->Option Value):Prop where
 TrunkError:Hw K mg "TrunkError"
 NoPlace:Hw K mg "NoPlace"
 isi_NoLine:∃Ta,mg "NoLine"=some (.ref Ta)/\qh K mg (.ref Ta) jN
 isi_NoName:∃Ta,mg "NoName"=some (.ref Ta)/\qh K mg (.ref Ta) jO
 isi_NoNumber:∃Ta,mg "NoNumber"=some (.ref Ta)/\qh K mg (.ref Ta) ie
 isi_NoPlace:∃Ta,mg "NoPlace"=some (.ref Ta)/\qh K mg (.ref Ta) i5
 isi_NoStatement:∃Ta,mg "NoStatement"=some (.ref Ta)/\qh K mg (.ref Ta) fE
 isi_NoTree:∃Ta,mg "NoTree"=some (.ref Ta)/\qh K mg (.ref Ta) jP
 isi_NothingDone:∃Ta,mg "NothingDone"=some (.ref Ta)/\qh K mg (.ref Ta) fF
 isi_NothingHeld:∃Ta,mg "NothingHeld"=some (.ref Ta)/\qh K mg (.ref Ta) fG
 isi_TooGreat:∃Ta,mg "TooGreat"=some (.ref Ta)/\qh K mg (.ref Ta) ig
 isi_ValueError:qh K mg (.type "ValueError") f_
 catch_TrunkError:Bw K mg "TrunkError" n6
section
variable{P:Program}{w:World}{K:Frag}{mg:Str->Option Value}{base:Heap}{f:Addr}{fd:FuncData}
def M_:FS:=(fN (FD nY (eC (.str [])) (ax (pz (aw 0)) a6)))
def Cs:List W->List aq->R W:=fW 1 M_
theorem Lh(F:nO K "in_order" "in_order" Ie f fd)(B:Bl mg) :gk P w K mg base (mj P w) 1 f fd K4 (nQ K mg 1 Cs):=
 fD (k:=0) F K5 rfl fun gi A outer s H E hr=>(bu (cO (Ep PySem.F.slot_str_join PySem.F.type_str_join q9 mh (ak (zO B.sorted B.set (ao 0)) aH))))
def Iy:FS:=(mZ (A_ (iJ (e2 Ks (aw 1) (eI 0))) (iJ (e2 MY (aw 1) (cT gn (ax (aw 0) a6))))) (xF "NoPlace") fB)
def Ae:List W->List aq->R W:=fW 2 Iy
theorem Li(F:nO K "check_place" "check_place" Ig f fd)(B:Bl mg)(C:Fj K mg) :gk P w K mg base (mj P w) 1 f fd K6 (nQ K mg 2 Ae):=
 fD (k:=0) F K7 rfl fun gi A outer s H E hr=>(bu (fV (xr (yF (da w_lt (ao 1) aM) (uU (da Kt (ao 1) (dN iu B.len dG (ak (ao 0) aH)))))) (bu (Bu C.NoPlace)) er))
def M':FS:=(fN (cT iw (ax (ia [none,none,some 1] (qd (ax (aw 0) a6)) (Kw 2 (m7 (m6 0) (m7 (m6 1) yN))) (iJ (e2 (xy false) (aw 2) (e2 d8 (aw 1) (eI 1)))) (aw 0)) a6)))
def ww:List W->List aq->R W:=fW 2 M'
theorem Lj(F:nO K "borne_by" "borne_by" Ih f fd)(B:Bl mg) :gk P w K mg base (mj P w) 1 f fd K8 (nQ K mg 2 ww):=
 fD (k:=0) F K9 rfl fun gi A outer s H E hr=>(bu (cO (iq jD B.tuple eP (ak (sh (nm:=["number","place","letter"]) (cap:=[none,none,some 1]) (by first|rfl|kernel_rfl) rfl (yP B.enumerate (ak (ao 0) aH)) (fun _ _ _ _ _=>(Bj rfl (pi (sC 0) (pi (sC 1) yO)))) (fun _ _ _ _ _=>(nG (da (Em hr) (ao 2) (eD (ao 1) aM)))) (fun _ _ _ _ _=>(ao 0))) aH))))
def Iz:FS:=(bG (dH 3 FL) (bG (p_ (iN (aw 2)) (m6 4) (bG (iL (eJ 2 Ae (ax (aw 0) (ax (aw 4) a6)))) (En (aw 3) (aw 4) (eC (.bl true)) v8))) (bG (dH 5 (o_ a6)) (bG (p_ (qd (ax (aw 0) a6)) (Kw 2 (m7 (m6 4) (m7 (m6 6) yN))) (bG (dH 7 (zd (e2 d8 (aw 6) (eI 1)) (aw 1))) (bG (mZ (iJ (e2 (zU false) (aw 4) (aw 3))) (dH 7 (eJ 1 Cs (ax (e2 eh (aw 7) (aw 1)) a6))) fB) (iL (xB eQ (aw 5) (ax (mB (ax (e2 d8 (aw 6) (eI 0)) (ax (aw 7) a6))) a6)))))) (fN (cT iw (ax (aw 5) a6)))))))
def vh:List W->List aq->R W:=fW 8 Iz
theorem Lk(F:nO K "dressed_in" "dressed_in" Ii f fd)(B:Bl mg)(Jl:et P w K mg base 1 "check_place" 2 Ae)(Jp:et P w K mg base 1 "in_order" 1 Cs):gk P w K mg base (mj P w) 2 f fd K_ (nQ K mg 3 vh):=
 fD (k:=1) F qO rfl fun gi A outer s H E hr=>(aN (sS 3 qO HJ) (aN (ou (uW (ao 2)) (sG 4 qO) (aN (i_ (dU Jl hr (by omega) (ak (ao 0) (ak (ao 4) aH)))) (bu (Hs (HI hr) xp (ao 3) (ao 4))))) (aN (sS 5 qO (pc aH)) (aN (ou (yP B.enumerate (ak (ao 0) aH)) (Bj rfl (pi (sG 4 qO) (pi (sG 6 qO) yO))) (aN (sS 7 qO (Ib (eD (ao 6) aM) (ao 1))) (aN (fV (da (KJ hr (Em hr)) (ao 4) (ao 3)) (bu (sS 7 qO (dU Jp hr (by omega) (ak (b8 eG (ao 7) (ao 1)) aH)))) er) (bu (i_ (uV PySem.F.slot_list_append PySem.F.type_list_append h_ (ao 5) (ak (nV (ak (eD (ao 6) aM) (ak (ao 7) aH))) aH))))))) (bu (cO (iq jD B.tuple eP (ak (ao 5) aH))))))))
def Na:FS:=(bG (mZ (iJ (e2 mV (cT gn (ax (aw 0) a6)) (eI 0))) (fN (eI 0)) fB) (fN (e2 d8 (aw 0) (e2 gl (aw 1) (cT gn (ax (aw 0) a6))))))
def sV:List W->List aq->R W:=fW 2 Na
theorem Ll(F:nO K "_law_cell" "_law_cell" Ij f fd)(B:Bl mg) :gk P w K mg base (mj P w) 1 f fd K' (nQ K mg 2 sV):=
 fD (k:=0) F La rfl fun gi A outer s H E hr=>(aN (fV (da (mC hr) (dN iu B.len dG (ak (ao 0) aH)) aM) (bu (cO aM)) er) (bu (cO (eD (ao 0) (b8 fA (ao 1) (dN iu B.len dG (ak (ao 0) aH)))))))
def Nb:FS:=(bG (dH 3 (e2 gl (e2 ku (e2 eh (e2 eh (e2 eh (aw 0) (e2 ku (e2 ku (eI 7) (aw 1)) (aw 1))) (e2 ku (eI 13) (aw 1))) (aw 2)) (eI 69621)) (eI 2147483647))) (fN (e2 gl (e2 ku (e2 gl (e2 eh (e2 eh (e2 ku (aw 3) (e2 eh (e2 qH (aw 3) (eI 1009)) (eI 3))) (e2 ku (eI 31) (aw 1))) (aw 2)) (eI 2147483629)) (eI 48271)) (eI 1000000007))))
def Af:List W->List aq->R W:=fW 4 Nb
theorem Lm(F:nO K "_law_mixed" "_law_mixed" Ik f fd)  :gk P w K mg base (mj P w) 1 f fd Lb (nQ K mg 3 Af):=
 fD (k:=0) F FX rfl fun gi A outer s H E hr=>(aN (sS 3 FX (b8 fA (b8 lS (b8 eG (b8 eG (b8 eG (ao 0) (b8 lS (b8 lS aM (ao 1)) (ao 1))) (b8 lS aM (ao 1))) (ao 2)) aM) aM)) (bu (cO (b8 fA (b8 lS (b8 fA (b8 eG (b8 eG (b8 lS (ao 3) (b8 eG (b8 p7 (ao 3) aM) aM)) (b8 lS aM (ao 1))) (ao 2)) aM) aM) aM))))
def Ln:FS:=(bG (dH 3 (o_ a6)) (bG (dH 4 (eI 0)) (bG (mZ (iJ (e2 MY (aw 0) (e2 Ko (eI 10) (eI 18)))) (dH 4 (aw 0)) fB) (bG (p_ (dk (ax (aw 1) a6)) (m6 5) (mZ (iJ (e2 Fw (aw 4) (eI 0))) (bG (iL (xB eQ (aw 3) (ax (e2 gl (aw 4) (eI 64)) a6))) (dH 4 (e2 qH (aw 4) (eI 64)))) (iL (xB eQ (aw 3) (ax (eJ 3 Af (ax (aw 0) (ax (aw 5) (ax (aw 2) a6)))) a6))))) (fN (aw 3))))))
def nR:List W->List aq->R W:=fW 6 Ln
theorem Lo(F:nO K "_law_draws" "_law_draws" Il f fd)(B:Bl mg)(Jn:et P w K mg base 1 "_law_mixed" 3 Af):gk P w K mg base (mj P w) 2 f fd Lc (nQ K mg 3 nR):=
 fD (k:=1) F uy rfl fun gi A outer s H E hr=>(aN (sS 3 uy (pc aH)) (aN (sS 4 uy aM) (aN (fV (da Kt (ao 0) (b8 Kq aM aM)) (bu (sS 4 uy (ao 0))) er) (aN (ou (hZ B.range (ak (ao 1) aH)) (sG 5 uy) (bu (fV (da Bd (ao 4) aM) (aN (i_ (uV PySem.F.slot_list_append PySem.F.type_list_append h_ (ao 3) (ak (b8 fA (ao 4) aM) aH))) (bu (sS 4 uy (b8 p7 (ao 4) aM)))) (bu (i_ (uV PySem.F.slot_list_append PySem.F.type_list_append h_ (ao 3) (ak (dU Jn hr (by omega) (ak (ao 0) (ak (ao 5) (ak (ao 2) aH)))) aH))))))) (bu (cO (ao 3)))))))
def Lp:FS:=(bG (dH 3 (eJ 3 nR (ax (aw 0) (ax (eI 3) (ax (aw 1) a6))))) (bG (dH 4 (e2 gl (e2 eh (e2 d8 (aw 3) (eI 0)) (e2 ku (eI 64) (e2 d8 (aw 3) (eI 1)))) (e2 eh (aw 2) (eI 1)))) (bG (mZ (iJ (e2 mV (e2 gl (e2 d8 (aw 3) (eI 2)) (eI 3)) (eI 0))) (fN (e2 gl (aw 4) (eI 7))) fB) (fN (aw 4)))))
def Ag:List W->List aq->R W:=fW 5 Lp
theorem Lq(F:nO K "_law_size" "_law_size" Im f fd) (pN:et P w K mg base 2 "_law_draws" 3 nR):gk P w K mg base (mj P w) 3 f fd Ld (nQ K mg 3 Ag):=
 fD (k:=2) F Cd rfl fun gi A outer s H E hr=>(aN (sS 3 Cd (dU pN hr (by omega) (ak (ao 0) (ak aM (ak (ao 1) aH))))) (aN (sS 4 Cd (b8 fA (b8 eG (eD (ao 3) aM) (b8 lS aM (eD (ao 3) aM))) (b8 eG (ao 2) aM))) (aN (fV (da (mC hr) (b8 fA (eD (ao 3) aM) aM) aM) (bu (cO (b8 fA (ao 4) aM))) er) (bu (cO (ao 4))))))
def Ct(Nj:List W->List aq->R W):FS:=(bG (mZ (iJ (sw "tuple" (aw 1))) (bG (mZ (A_ (Ef (iJ (sw "tuple" (aw 0)))) (iJ (e2 Bh (cT gn (ax (aw 0) a6)) (cT gn (ax (aw 1) a6))))) (fN (eC (.bl false))) fB) (bG (p_ (dk (ax (cT gn (ax (aw 1) a6)) a6)) (m6 2) (mZ (Ef (iJ (eJ 2 Nj (ax (e2 d8 (aw 0) (aw 2)) (ax (e2 d8 (aw 1) (aw 2)) a6))))) (fN (eC (.bl false))) fB)) (fN (eC (.bl true))))) fB) (bG (mZ (iJ (xu (aw 1))) (fN (xu (aw 0))) fB) (bG (mZ (iJ (sw "bool" (aw 1))) (fN (xt (sw "bool" (aw 0)) (e2 mV (aw 0) (aw 1)))) fB) (bG (mZ (iJ (sw "int" (aw 1))) (fN (xt (sw "int" (aw 0)) (xt (Eg (sw "bool" (aw 0))) (e2 mV (aw 0) (aw 1))))) fB) (fN (xt (sw "str" (aw 0)) (e2 mV (aw 0) (aw 1))))))))
def kT:Nat->List W->List aq->R W
 |0=>fun _ _=>.bad
 |k+1=>fW 3 (Ct (kT k))
theorem Cu{Gi:Addr}{Lz:FuncData}(Ap:nO K "_law_same" "_law_same" Io Gi Lz)(Dg:mg "_law_same"=some (.ref Gi))(B:Bl mg) :∀k:Nat,et P w K mg base (0+k) "_law_same" 2 (kT k)
 |0=>Bt (ps:=Ip) Ap Dg rfl (fun _ _ _ _ _ _ us hl=>match us,hl with|[_,_],_=>rfl)
 |k+1=>by
  have wQ:=Cu Ap Dg B  k
  exact q5 (ps:=Ip) Ap Dg rfl (fun _ _ _ _ _ _ us hl=>match us,hl with|[_,_],_=>rfl) (fD (k:=0+k) Ap FY rfl fun gi A outer s H E hr=>(aN (fV (mU (qL B.isinstance B.tuple eP (ao 1))) (aN (fV (xr (yF (r_ (mU (qL B.isinstance B.tuple eP (ao 0)))) (uU (da (El hr) (dN iu B.len dG (ak (ao 0) aH)) (dN iu B.len dG (ak (ao 1) aH)))))) (bu (cO xp)) er) (aN (ou (hZ B.range (ak (dN iu B.len dG (ak (ao 1) aH)) aH)) (sG 2 FY) (bu (fV (r_ (mU (dU wQ hr (by omega) (ak (eD (ao 0) (ao 2)) (ak (eD (ao 1) (ao 2)) aH))))) (bu (cO xp)) er))) (bu (cO xp)))) er) (aN (fV (Hl (ao 1)) (bu (cO (Kl (ao 0)))) er) (aN (fV (mU (qL B.isinstance B.bool qz (ao 1))) (bu (cO (yH (qL B.isinstance B.bool qz (ao 0)) (yG (vS (mC hr) (ao 0) (ao 1)))))) er) (aN (fV (mU (qL B.isinstance B.int boot_int (ao 1))) (bu (cO (yH (qL B.isinstance B.int boot_int (ao 0)) (yH (Kj (qL B.isinstance B.bool qz (ao 0))) (yG (vS (mC hr) (ao 0) (ao 1))))))) er) (bu (cO (yH (qL B.isinstance B.str boot_str (ao 0)) (yG (vS (mC hr) (ao 0) (ao 1)))))))))))
def Lr:FS:=(bG (dH 3 (eC (.str [65,66,67,68,69,70,71,72,73,74,75,76,77,78,79,80,81,82,83,84,85,86,87,88,89,90,97,98,99,100,101,102,103,104,105,106,107,108,109,110,111,112,113,114,115,116,117,118,119,120,121,122]))) (bG (dH 4 (eC (.str []))) (bG (p_ (iN (eJ 3 nR (ax (aw 0) (ax (aw 1) (ax (aw 2) a6))))) (m6 5) (bG (dH 6 (e2 gl (aw 5) (cT gn (ax (aw 3) a6)))) (bG (dH 4 (e2 eh (aw 4) (e2 d8 (aw 3) (aw 6)))) (dH 3 (e2 eh (Bi (aw 3) nX (mW (aw 6))) (Bi (aw 3) (mW (e2 eh (aw 6) (eI 1))) nX)))))) (fN (aw 4)))))
def Ah:List W->List aq->R W:=fW 7 Lr
theorem Ls(F:nO K "_law_pool" "_law_pool" Iq f fd)(B:Bl mg)(pN:et P w K mg base 2 "_law_draws" 3 nR):gk P w K mg base (mj P w) 3 f fd Lf (nQ K mg 3 Ah):=
 fD (k:=2) F sQ rfl fun gi A outer s H E hr=>(aN (sS 3 sQ mh) (aN (sS 4 sQ mh) (aN (ou (uW (dU pN hr (by omega) (ak (ao 0) (ak (ao 1) (ak (ao 2) aH))))) (sG 5 sQ) (aN (sS 6 sQ (b8 fA (ao 5) (dN iu B.len dG (ak (ao 3) aH)))) (aN (sS 4 sQ (b8 eG (ao 4) (eD (ao 3) (ao 6)))) (bu (sS 3 sQ (b8 eG (zK (ao 3) nE (nF (ao 6))) (zK (ao 3) (nF (b8 eG (ao 6) aM)) nE))))))) (bu (cO (ao 4))))))
def F8:FS:=(fN (FD nY (eC (.str [])) (ax (cT oz (ax (ia [none,some 0,some 1] (dk (ax (cT gn (ax (aw 0) a6)) a6)) (m6 0) (iJ (e2 mV (e2 Bb (e2 Ho (aw 2) (aw 0)) (eI 1)) (eI 1))) (e2 d8 (aw 1) (aw 0))) a6)) a6)))
def wz:List W->List aq->R W:=fW 2 F8
theorem IA(F:nO K "_law_marks" "_law_marks" Ce f fd)(B:Bl mg) :gk P w K mg base (mj P w) 1 f fd FZ (nQ K mg 2 wz):=
 fD (k:=0) F Ir rfl fun gi A outer s H E hr=>(bu (cO (Ep PySem.F.slot_str_join PySem.F.type_str_join q9 mh (ak (dN yS B.sorted boot_sorted (ak (sh (nm:=["_law_k","_law_pool_here","_law_number"]) (cap:=[none,some 0,some 1]) (by first|rfl|kernel_rfl) rfl (hZ B.range (ak (dN iu B.len dG (ak (ao 0) aH)) aH)) (fun _ _ _ _ _=>(sC 0)) (fun _ _ _ _ _=>(nG (da (mC hr) (b8 Hq (b8 Kr (ao 2) (ao 0)) aM) aM))) (fun _ _ _ _ _=>(eD (ao 1) (ao 0)))) aH)) aH))))
def F9:FS:=(bG (dH 3 (o_ a6)) (bG (dH 4 (eI 0)) (bG (p_ (iN (aw 0)) (m6 5) (bG (dH 6 (e2 gl (aw 5) (eI 4))) (bG (mZ (iJ (e2 Fw (e2 qH (e2 eh (aw 6) (eI 1)) (eI 2)) (aw 4))) (dH 6 (eI 0)) fB) (bG (mZ (Ds (iJ (e2 Fw (e2 vT (e2 eh (e2 eh (cT gn (ax (aw 3) a6)) (aw 4)) (eI 1)) (e2 qH (e2 eh (aw 6) (eI 1)) (eI 2))) (aw 2))) (iJ (e2 Fw (aw 4) (eI 1)))) (dH 6 (eI 3)) fB) (bG (dH 7 (e2 qH (e2 eh (aw 6) (eI 1)) (eI 2))) (mZ (iJ (e2 Bs (e2 vT (e2 eh (e2 eh (cT gn (ax (aw 3) a6)) (aw 4)) (eI 1)) (aw 7)) (aw 2))) (bG (iL (xB eQ (aw 3) (ax (mB (ax (aw 6) (ax (eJ 2 wz (ax (aw 1) (ax (e2 gl (e2 qH (aw 5) (eI 4)) (eI 16)) a6))) a6))) a6))) (dH 4 (e2 vT (e2 eh (aw 4) (eI 1)) (aw 7)))) fB)))))) (bG (oy (iJ (e2 Fw (aw 4) (eI 1))) (bG (iL (xB eQ (aw 3) (ax (mB (ax (eI 3) (ax (e2 d8 (e2 d8 (aw 3) (e2 vT (aw 4) (eI 1))) (eI 1)) a6))) a6))) (dH 4 (e2 vT (aw 4) (eI 1))))) (fN (cT iw (ax (aw 3) a6)))))))
def wA:List W->List aq->R W:=fW 8 F9
theorem IC(F:nO K "_law_wood" "_law_wood" Cf f fd)(B:Bl mg)(C6:et P w K mg base 1 "_law_marks" 2 wz):gk P w K mg base (mj P w) 2 f fd F0 (nQ K mg 3 wA):=
 fD (k:=1) F kS rfl fun gi A outer s H E hr=>(aN (sS 3 kS (pc aH)) (aN (sS 4 kS aM) (aN (ou (uW (ao 0)) (sG 5 kS) (aN (sS 6 kS (b8 fA (ao 5) aM)) (aN (fV (da Bd (b8 p7 (b8 eG (ao 6) aM) aM) (ao 4)) (bu (sS 6 kS aM)) er) (aN (fV (xr (xq (da Bd (b8 uj (b8 eG (b8 eG (dN iu B.len dG (ak (ao 3) aH)) (ao 4)) aM) (b8 p7 (b8 eG (ao 6) aM) aM)) (ao 2)) (uT (da Bd (ao 4) aM)))) (bu (sS 6 kS aM)) er) (aN (sS 7 kS (b8 p7 (b8 eG (ao 6) aM) aM)) (bu (fV (da KB (b8 uj (b8 eG (b8 eG (dN iu B.len dG (ak (ao 3) aH)) (ao 4)) aM) (ao 7)) (ao 2)) (aN (i_ (uV PySem.F.slot_list_append PySem.F.type_list_append h_ (ao 3) (ak (nV (ak (ao 6) (ak (dU C6 hr (by omega) (ak (ao 1) (ak (b8 fA (b8 p7 (ao 5) aM) aM) aH))) aH))) aH))) (bu (sS 4 kS (b8 uj (b8 eG (ao 4) aM) (ao 7))))) er))))))) (aN (Bm (da Bd (ao 4) aM) (aN (i_ (uV PySem.F.slot_list_append PySem.F.type_list_append h_ (ao 3) (ak (nV (ak aM (ak (eD (eD (ao 3) (b8 uj (ao 4) aM)) aM) aH))) aH))) (bu (sS 4 kS (b8 uj (ao 4) aM))))) (bu (cO (iq jD B.tuple eP (ak (ao 3) aH))))))))
def F_:FS:=(bG (dH 1 (o_ (ax (m9 f_ (aw 0)) (ax (m9 jP (aw 0)) (ax (m9 fE (aw 0)) a6))))) (bG (dH 1 (e2 eh (aw 1) (o_ (ax (m9 i5 (aw 0)) (ax (m9 ie (aw 0)) (ax (m9 ig (aw 0)) a6)))))) (bG (dH 1 (e2 eh (aw 1) (o_ (ax (m9 jO (aw 0)) (ax (m9 jN (aw 0)) (ax (m9 fF (aw 0)) a6)))))) (bG (iL (xB eQ (aw 1) (ax (m9 fG (aw 0)) a6))) (fN (cT iw (ax (aw 1) a6)))))))
def uz:List W->List aq->R W:=fW 2 F_
theorem ID(F:nO K "_law_kinds" "_law_kinds" Cg f fd)(B:Bl mg)(C:Fj K mg) :n4 P w K mg base (mj P w) 1 f fd F1 (nQ K mg 1 uz):=
 HE (k:=0) F ve rfl fun gi A outer s H E hr=>(aN (sS 1 ve (pc (ak (KF B.isinstance B.ValueError ER C.isi_ValueError (ao 0)) (ak (C.isi_NoTree.elim fun _ h=>pA B.isinstance h.1 h.2 (ao 0)) (ak (C.isi_NoStatement.elim fun _ h=>pA B.isinstance h.1 h.2 (ao 0)) aH))))) (aN (sS 1 ve (b8 eG (ao 1) (pc (ak (C.isi_NoPlace.elim fun _ h=>pA B.isinstance h.1 h.2 (ao 0)) (ak (C.isi_NoNumber.elim fun _ h=>pA B.isinstance h.1 h.2 (ao 0)) (ak (C.isi_TooGreat.elim fun _ h=>pA B.isinstance h.1 h.2 (ao 0)) aH)))))) (aN (sS 1 ve (b8 eG (ao 1) (pc (ak (C.isi_NoName.elim fun _ h=>pA B.isinstance h.1 h.2 (ao 0)) (ak (C.isi_NoLine.elim fun _ h=>pA B.isinstance h.1 h.2 (ao 0)) (ak (C.isi_NothingDone.elim fun _ h=>pA B.isinstance h.1 h.2 (ao 0)) aH)))))) (aN (i_ (uV PySem.F.slot_list_append PySem.F.type_list_append h_ (ao 1) (ak (C.isi_NothingHeld.elim fun _ h=>pA B.isinstance h.1 h.2 (ao 0)) aH))) (bu (cO (iq jD B.tuple eP (ak (ao 1) aH))))))))
def F':FS:=(fN (mB (ax (eC (.str [114,101,102,117,115,101,100])) (ax (cT iw (ax (ia [none,some 0] (dk (ax (eI 10) a6)) (m6 0) Bq (Hk (e2 mV (aw 0) (eI 0)) (e2 mV (aw 0) (aw 1)))) a6)) a6))))
def uA:List W->List aq->R W:=fW 1 F'
theorem IE(F:nO K "_law_due_refusal" "_law_due_refusal" Ci f fd)(B:Bl mg) :gk P w K mg base (mj P w) 1 f fd F2 (nQ K mg 1 uA):=
 fD (k:=0) F Iu rfl fun gi A outer s H E hr=>(bu (cO (nV (ak mh (ak (iq jD B.tuple eP (ak (sh (nm:=["_law_k","_law_at"]) (cap:=[none,some 0]) (by first|rfl|kernel_rfl) rfl (hZ B.range (ak aM aH)) (fun _ _ _ _ _=>(sC 0)) (fun _ _ _ _ _=>Er) (fun _ _ _ _ _=>(MX (vS (mC hr) (ao 0) aM) (yG (vS (mC hr) (ao 0) (ao 1)))))) aH)) aH)))))
def Ga:FS:=(fN (eC (.str [65,66,67,68,69,70,71,72,73,74,75,76,77,78,79,80,81,82,83,84,85,86,87,88,89,90,97,98,99,100,101,102,103,104,105,106,107,108,109,110,111,112,113,114,115,116,117,118,119,120,121,122])))
def sW:List W->List aq->R W:=fW 0 Ga
theorem IF(F:nO K "_law_letters" "_law_letters" Cj f fd)  :gk P w K mg base (mj P w) 1 f fd Ck (nQ K mg 0 sW):=
 fD (k:=0) F Iv rfl fun gi A outer s H E hr=>(bu (cO mh))
def Gb:FS:=(bG (dH 3 (eJ 3 nR (ax (aw 1) (ax (eI 55) (ax (aw 2) a6))))) (bG (mZ (A_ (iJ (e2 mV (cT gn (ax (aw 0) a6)) (eI 0))) (iJ (e2 Bh (e2 gl (e2 d8 (aw 3) (eI 0)) (eI 8)) (eI 3)))) (fN (aw 0)) fB) (bG (dH 4 (e2 gl (e2 eh (e2 d8 (aw 3) (eI 1)) (e2 ku (eI 64) (e2 d8 (aw 3) (eI 2)))) (cT gn (ax (aw 0) a6)))) (bG (dH 5 (FD nY (eC (.str [])) (ax (ia [none,some 3] (dk (ax (eI 52) a6)) (m6 0) (iJ (e2 mV (e2 gl (e2 d8 (aw 1) (e2 eh (eI 3) (aw 0))) (eI 2)) (eI 1))) (e2 d8 (eJ 0 sW a6) (aw 0))) a6))) (fN (e2 eh (e2 eh (Bi (aw 0) nX (mW (aw 4))) (mB (ax (mB (ax (e2 d8 (e2 d8 (aw 0) (aw 4)) (eI 0)) (ax (aw 5) a6))) a6))) (Bi (aw 0) (mW (e2 eh (aw 4) (eI 1))) nX)))))))
def wB:List W->List aq->R W:=fW 6 Gb
theorem IG(F:nO K "_law_marked" "_law_marked" Cm f fd)(B:Bl mg)(pN:et P w K mg base 2 "_law_draws" 3 nR)(C3:et P w K mg base 1 "_law_letters" 0 sW):gk P w K mg base (mj P w) 3 f fd F3 (nQ K mg 3 wB):=
 fD (k:=2) F vf rfl fun gi A outer s H E hr=>(aN (sS 3 vf (dU pN hr (by omega) (ak (ao 1) (ak aM (ak (ao 2) aH))))) (aN (fV (xr (yF (da (mC hr) (dN iu B.len dG (ak (ao 0) aH)) aM) (uU (da (El hr) (b8 fA (eD (ao 3) aM) aM) aM)))) (bu (cO (ao 0))) er) (aN (sS 4 vf (b8 fA (b8 eG (eD (ao 3) aM) (b8 lS aM (eD (ao 3) aM))) (dN iu B.len dG (ak (ao 0) aH)))) (aN (sS 5 vf (Ep PySem.F.slot_str_join PySem.F.type_str_join q9 mh (ak (sh (nm:=["_law_k","_law_draws_here"]) (cap:=[none,some 3]) (by first|rfl|kernel_rfl) rfl (hZ B.range (ak aM aH)) (fun _ _ _ _ _=>(sC 0)) (fun _ _ _ _ _=>(nG (da (mC hr) (b8 fA (eD (ao 1) (b8 eG aM (ao 0))) aM) aM))) (fun _ _ _ _ _=>(eD (Hu C3 hr (by omega)) (ao 0)))) aH))) (bu (cO (b8 eG (b8 eG (zK (ao 0) nE (nF (ao 4))) (nV (ak (nV (ak (eD (eD (ao 0) (ao 4)) aM) (ak (ao 5) aH))) aH))) (zK (ao 0) (nF (b8 eG (ao 4) aM)) nE))))))))
def Cv:FS:=(bG (xG (dH 3 (eJ 3 vh (ax (aw 0) (ax (aw 1) (ax (aw 2) a6))))) n6 4 (fN (mB (ax (eC (.str [114,101,102,117,115,101,100])) (ax (eJ 1 uz (ax (aw 4) a6)) a6))))) (fN (mB (ax (eC (.str [116,111,108,100])) (ax (aw 3) a6)))))
def uB:List W->List aq->R W:=fW 5 Cv
theorem IH(F:nO K "_law_dressed" "_law_dressed" Cn f fd)(C:Fj K mg)(C9:v0 P w K mg base 1 "_law_kinds" 1 uz)(Jg:et P w K mg base 2 "dressed_in" 3 vh):gk P w K mg base (mj P w) 3 f fd F4 (nQ K mg 3 uB):=
 fD (k:=2) F xW rfl fun gi A outer s H E hr=>(aN (Hz (i:=4) C.catch_TrunkError xW.nd rfl (Or.inl rfl) (fun _ _=>(bu (sS 3 xW (dU Jg hr (by omega) (ak (ao 0) (ak (ao 1) (ak (ao 2) aH))))))) (fun _=>(bu (cO (nV (ak mh (ak (HD C9 (hr.h _) (by omega) (ak (ao 4) aH)) aH))))))) (bu (cO (nV (ak mh (ak (ao 3) aH))))))
def Gc:FS:=(bG (dH 3 (o_ a6)) (bG (p_ (dk (ax (cT gn (ax (aw 0) a6)) a6)) (m6 4) (bG (Bk (ia [none,some 1] (iN (e2 d8 (e2 d8 (aw 0) (aw 4)) (eI 1))) (m6 0) (iJ (e2 Bh (aw 0) (aw 1))) (aw 0)) (m6 5)) (bG (mZ (iJ (e2 (xy false) (aw 4) (aw 2))) (iL (xB eQ (aw 5) (ax (aw 1) a6))) fB) (iL (xB eQ (aw 3) (ax (mB (ax (e2 d8 (e2 d8 (aw 0) (aw 4)) (eI 0)) (ax (FD nY (eC (.str [])) (ax (cT oz (ax (aw 5) a6)) a6)) a6))) a6)))))) (fN (cT iw (ax (aw 3) a6)))))
def wC:List W->List aq->R W:=fW 6 Gc
theorem II(F:nO K "_law_due" "_law_due" Co f fd)(B:Bl mg) :gk P w K mg base (mj P w) 1 f fd F5 (nQ K mg 3 wC):=
 fD (k:=0) F vg rfl fun gi A outer s H E hr=>(aN (sS 3 vg (pc aH)) (aN (ou (hZ B.range (ak (dN iu B.len dG (ak (ao 0) aH)) aH)) (sG 4 vg) (aN (si (sG 5 vg) (nm:=["_law_sign","_law_letter"]) (cap:=[none,some 1]) (by first|rfl|kernel_rfl) rfl (uW (eD (eD (ao 0) (ao 4)) aM)) (fun _ _ _ _ _=>(sC 0)) (fun _ _ _ _ _=>(nG (da (El hr) (ao 0) (ao 1)))) (fun _ _ _ _ _=>(ao 0))) (aN (fV (da (Em hr) (ao 4) (ao 2)) (bu (i_ (uV PySem.F.slot_list_append PySem.F.type_list_append h_ (ao 5) (ak (ao 1) aH)))) er) (bu (i_ (uV PySem.F.slot_list_append PySem.F.type_list_append h_ (ao 3) (ak (nV (ak (eD (eD (ao 0) (ao 4)) aM) (ak (Ep PySem.F.slot_str_join PySem.F.type_str_join q9 mh (ak (dN yS B.sorted boot_sorted (ak (ao 5) aH)) aH)) aH))) aH))))))) (bu (cO (iq jD B.tuple eP (ak (ao 3) aH))))))
def Lu:FS:=(fN (cT iw (ax (ia [none,some 1,some 0] (dk (ax (cT gn (ax (aw 0) a6)) a6)) (m6 0) (iJ (e2 (xy false) (aw 1) (e2 d8 (e2 d8 (aw 2) (aw 0)) (eI 1)))) (aw 0)) a6)))
def uC:List W->List aq->R W:=fW 2 Lu
theorem IJ(F:nO K "_law_bearing" "_law_bearing" Cp f fd)(B:Bl mg) :gk P w K mg base (mj P w) 1 f fd F6 (nQ K mg 2 uC):=
 fD (k:=0) F Iw rfl fun gi A outer s H E hr=>(bu (cO (iq jD B.tuple eP (ak (sh (nm:=["_law_k","_law_letter","_law_tree"]) (cap:=[none,some 1,some 0]) (by first|rfl|kernel_rfl) rfl (hZ B.range (ak (dN iu B.len dG (ak (ao 0) aH)) aH)) (fun _ _ _ _ _=>(sC 0)) (fun _ _ _ _ _=>(nG (da (Em hr) (ao 1) (eD (eD (ao 2) (ao 0)) aM)))) (fun _ _ _ _ _=>(ao 0))) aH))))
def Gd:FS:=(bG (Bk (ia [none,some 1] (dk (ax (aw 0) a6)) (m6 0) (iJ (e2 mV (e2 gl (e2 d8 (aw 1) (aw 0)) (eI 2)) (eI 1))) (aw 0)) (m6 3)) (bG (mZ (iJ (e2 mV (e2 gl (e2 d8 (aw 2) (eI 0)) (eI 4)) (eI 1))) (dH 3 (v7 (aw 3))) fB) (bG (mZ (iJ (e2 mV (e2 gl (e2 d8 (aw 2) (eI 1)) (eI 4)) (eI 1))) (dH 3 (e2 eh (Bi (aw 3) nX (mW (e2 gl (e2 d8 (aw 2) (eI 2)) (eI 5)))) (aw 3))) fB) (bG (mZ (iJ (e2 mV (e2 gl (e2 d8 (aw 2) (eI 1)) (eI 4)) (eI 2))) (dH 3 (e2 eh (aw 3) (v7 (aw 3)))) fB) (bG (mZ (Ds (iJ (e2 mV (e2 gl (e2 d8 (aw 2) (eI 1)) (eI 4)) (eI 3))) (iJ (e2 mV (e2 gl (e2 d8 (aw 2) (eI 2)) (eI 4)) (eI 3)))) (dH 3 (cT sE (ax (aw 0) a6))) fB) (fN (aw 3)))))))
def wD:List W->List aq->R W:=fW 4 Gd
theorem IK(F:nO K "_law_some" "_law_some" Cq f fd)(B:Bl mg) :gk P w K mg base (mj P w) 1 f fd F7 (nQ K mg 3 wD):=
 fD (k:=0) F qr rfl fun gi A outer s H E hr=>(aN (si (sG 3 qr) (nm:=["_law_k","_law_draws_here"]) (cap:=[none,some 1]) (by first|rfl|kernel_rfl) rfl (hZ B.range (ak (ao 0) aH)) (fun _ _ _ _ _=>(sC 0)) (fun _ _ _ _ _=>(nG (da (mC hr) (b8 fA (eD (ao 1) (ao 0)) aM) aM))) (fun _ _ _ _ _=>(ao 0))) (aN (fV (da (mC hr) (b8 fA (eD (ao 2) aM) aM) aM) (bu (sS 3 qr (BD (ao 3)))) er) (aN (fV (da (mC hr) (b8 fA (eD (ao 2) aM) aM) aM) (bu (sS 3 qr (b8 eG (zK (ao 3) nE (nF (b8 fA (eD (ao 2) aM) aM))) (ao 3)))) er) (aN (fV (da (mC hr) (b8 fA (eD (ao 2) aM) aM) aM) (bu (sS 3 qr (b8 eG (ao 3) (BD (ao 3))))) er) (aN (fV (xr (xq (da (mC hr) (b8 fA (eD (ao 2) aM) aM) aM) (uT (da (mC hr) (b8 fA (eD (ao 2) aM) aM) aM)))) (bu (sS 3 qr (ED hr B.list B.range (ak (ao 0) aH)))) er) (bu (cO (ao 3))))))))
def Ge:FS:=(bG (dH 1 (eJ 3 Ah (ax (eJ 2 sV (ax (aw 0) (ax (eI 0) a6))) (ax (eI 5) (ax (eI 100003) a6))))) (bG (dH 2 (eJ 3 nR (ax (eJ 2 sV (ax (aw 0) (ax (eI 1) a6))) (ax (eJ 3 Ag (ax (eJ 2 sV (ax (aw 0) (ax (eI 2) a6))) (ax (eI 200017) (ax (eI 100) a6)))) (ax (eI 300007) a6))))) (bG (dH 3 (eJ 3 wB (ax (eJ 3 wA (ax (aw 2) (ax (Bi (aw 1) nX (mW (eI 4))) (ax (eI 100) a6)))) (ax (eJ 2 sV (ax (aw 0) (ax (eI 5) a6))) (ax (eI 600011) a6))))) (bG (dH 4 (eJ 3 nR (ax (eJ 2 sV (ax (aw 0) (ax (eI 3) a6))) (ax (eI 8) (ax (eI 400009) a6))))) (bG (dH 5 (e2 d8 (aw 1) (e2 d8 (o_ (ax (eI 4) (ax (e2 gl (e2 d8 (aw 4) (eI 3)) (eI 4)) a6))) (e2 gl (e2 d8 (aw 4) (eI 4)) (eI 2))))) (bG (dH 6 (eJ 3 wD (ax (cT gn (ax (aw 3) a6)) (ax (eJ 3 nR (ax (eJ 2 sV (ax (aw 0) (ax (eI 4) a6))) (ax (cT gn (ax (aw 3) a6)) (ax (eI 500009) a6)))) (ax (aw 4) a6))))) (bG (dH 7 (mB (ax (eC (.str [116,111,108,100])) (ax (eJ 3 wC (ax (aw 3) (ax (aw 5) (ax (aw 6) a6)))) a6)))) (bG (dH 8 (cT iw (ax (SI.eSortI (aw 6)) a6))) (bG (mZ (iJ (e2 mV (e2 gl (e2 d8 (aw 4) (eI 5)) (eI 4)) (eI 1))) (bG (dH 9 (e2 d8 (o_ (ax (xD (eI 1)) (ax (cT gn (ax (aw 3) a6)) (ax (e2 eh (cT gn (ax (aw 3) a6)) (e2 d8 (aw 4) (eI 6))) (ax (e2 vT (xD (eI 1)) (e2 d8 (aw 4) (eI 6))) a6))))) (e2 gl (e2 d8 (aw 4) (eI 7)) (eI 4)))) (bG (iL (xB nJ (aw 6) (ax (e2 gl (e2 d8 (aw 4) (eI 6)) (e2 eh (cT gn (ax (aw 6) a6)) (eI 1))) (ax (aw 9) a6)))) (dH 7 (eJ 1 uA (ax (eI 3) a6))))) fB) (bG (dH 10 (eJ 3 uB (ax (aw 3) (ax (aw 5) (ax (cT iw (ax (aw 6) a6)) a6))))) (bG (mZ (A_ (Ef (iJ (eJ 2 (kT 40) (ax (aw 10) (ax (aw 7) a6))))) (Ef (iJ (eJ 2 (kT 40) (ax (eJ 2 ww (ax (aw 3) (ax (aw 5) a6))) (ax (eJ 2 uC (ax (aw 3) (ax (aw 5) a6))) a6)))))) (fN (eC (.bl false))) fB) (bG (mZ (iJ (e2 mV (e2 d8 (aw 10) (eI 0)) (eC (.str [114,101,102,117,115,101,100])))) (fN (eC (.bl true))) fB) (bG (dH 11 (e2 d8 (aw 1) (e2 gl (e2 d8 (aw 4) (eI 6)) (eI 4)))) (bG (mZ (Ds (iJ (e2 Bh (aw 11) (aw 5))) (Ef (iJ (eJ 2 (kT 40) (ax (eJ 2 ww (ax (e2 d8 (aw 10) (eI 1)) (ax (aw 11) a6))) (ax (eJ 2 uC (ax (aw 3) (ax (aw 11) a6))) a6)))))) (fN (eC (.bl false))) fB) (fN (eJ 2 (kT 40) (ax (eJ 2 ww (ax (e2 d8 (aw 10) (eI 1)) (ax (aw 5) a6))) (ax (aw 8) a6))))))))))))))))))
def f_q20:List W->List aq->R W:=fW 12 Ge
theorem IL(F:nO K "law" "law" pH f fd)(B:Bl mg)(zj:et P w K mg base 1 "_law_bearing" 2 uC)(wL:et P w K mg base 1 "_law_cell" 2 sV)(pN:et P w K mg base 2 "_law_draws" 3 nR)(Dk:et P w K mg base 3 "_law_dressed" 3 uB)(C5:et P w K mg base 1 "_law_due" 3 wC)(C_:et P w K mg base 1 "_law_due_refusal" 1 uA)(Do:et P w K mg base 3 "_law_marked" 3 wB)(Jc:et P w K mg base 3 "_law_pool" 3 Ah)(wQ:et P w K mg base 40 "_law_same" 2 (kT 40))(Je:et P w K mg base 3 "_law_size" 3 Ag)(Dj:et P w K mg base 1 "_law_some" 3 wD)(C1:et P w K mg base 2 "_law_wood" 3 wA)(C2:et P w K mg base 1 "borne_by" 2 ww):gk P w K mg base (mj P w) 41 f fd Cr (nQ K mg 1 f_q20):=
 fD (k:=40) F i4 rfl fun gi A outer s H E hr=>(aN (sS 1 i4 (dU Jc hr (by omega) (ak (dU wL hr (by omega) (ak (ao 0) (ak aM aH))) (ak aM (ak aM aH))))) (aN (sS 2 i4 (dU pN hr (by omega) (ak (dU wL hr (by omega) (ak (ao 0) (ak aM aH))) (ak (dU Je hr (by omega) (ak (dU wL hr (by omega) (ak (ao 0) (ak aM aH))) (ak aM (ak aM aH)))) (ak aM aH))))) (aN (sS 3 i4 (dU Do hr (by omega) (ak (dU C1 hr (by omega) (ak (ao 2) (ak (zK (ao 1) nE (nF aM)) (ak aM aH)))) (ak (dU wL hr (by omega) (ak (ao 0) (ak aM aH))) (ak aM aH))))) (aN (sS 4 i4 (dU pN hr (by omega) (ak (dU wL hr (by omega) (ak (ao 0) (ak aM aH))) (ak aM (ak aM aH))))) (aN (sS 5 i4 (eD (ao 1) (eD (pc (ak aM (ak (b8 fA (eD (ao 4) aM) aM) aH))) (b8 fA (eD (ao 4) aM) aM)))) (aN (sS 6 i4 (dU Dj hr (by omega) (ak (dN iu B.len dG (ak (ao 3) aH)) (ak (dU pN hr (by omega) (ak (dU wL hr (by omega) (ak (ao 0) (ak aM aH))) (ak (dN iu B.len dG (ak (ao 3) aH)) (ak aM aH)))) (ak (ao 4) aH))))) (aN (sS 7 i4 (nV (ak mh (ak (dU C5 hr (by omega) (ak (ao 3) (ak (ao 5) (ak (ao 6) aH)))) aH)))) (aN (sS 8 i4 (iq jD B.tuple eP (ak (SI.s_sortI B.sorted B.set (ao 6)) aH))) (aN (fV (da (mC hr) (b8 fA (eD (ao 4) aM) aM) aM) (aN (sS 9 i4 (eD (pc (ak (FH aM) (ak (dN iu B.len dG (ak (ao 3) aH)) (ak (b8 eG (dN iu B.len dG (ak (ao 3) aH)) (eD (ao 4) aM)) (ak (b8 uj (FH aM) (eD (ao 4) aM)) aH))))) (b8 fA (eD (ao 4) aM) aM))) (aN (i_ (uV PySem.F.slot_list_insert PySem.F.type_list_insert zR (ao 6) (ak (b8 fA (eD (ao 4) aM) (b8 eG (dN iu B.len dG (ak (ao 6) aH)) aM)) (ak (ao 9) aH)))) (bu (sS 7 i4 (dU C_ hr (by omega) (ak aM aH)))))) er) (aN (sS 10 i4 (dU Dk hr (by omega) (ak (ao 3) (ak (ao 5) (ak (iq jD B.tuple eP (ak (ao 6) aH)) aH))))) (aN (fV (xr (yF (r_ (mU (dU wQ hr (by omega) (ak (ao 10) (ak (ao 7) aH))))) (uU (r_ (mU (dU wQ hr (by omega) (ak (dU C2 hr (by omega) (ak (ao 3) (ak (ao 5) aH))) (ak (dU zj hr (by omega) (ak (ao 3) (ak (ao 5) aH))) aH)))))))) (bu (cO xp)) er) (aN (fV (da (mC hr) (eD (ao 10) aM) mh) (bu (cO xp)) er) (aN (sS 11 i4 (eD (ao 1) (b8 fA (eD (ao 4) aM) aM))) (aN (fV (xr (xq (da (El hr) (ao 11) (ao 5)) (uT (r_ (mU (dU wQ hr (by omega) (ak (dU C2 hr (by omega) (ak (eD (ao 10) aM) (ak (ao 11) aH))) (ak (dU zj hr (by omega) (ak (ao 3) (ak (ao 11) aH))) aH)))))))) (bu (cO xp)) er) (bu (cO (dU wQ hr (by omega) (ak (dU C2 hr (by omega) (ak (eD (ao 10) aM) (ak (ao 5) aH))) (ak (ao 8) aH)))))))))))))))))))
end
abbrev iO(q:Int):Option W:=some (.int q)
theorem IM{α:Type}(ns:List α)(hl:0<ns.length)(k:Int):∃c∈ns,qS ns (k%((ns.length:Nat):Int))=some c:=by
 have h0:0<=k%((ns.length:Nat):Int):=gX _ (by omega)
 have h1:k%((ns.length:Nat):Int)<ns.length:=kg _ (by omega)
 obtain⟨m,hm⟩:=lF h0
 rw[hm]at h1 ⊢
 have h2:m<ns.length:=by omega
 exact⟨ns[m],bU _,jo (by simp[h2])⟩
theorem ES{n:Nat}{st:List aq}{ns:List Int}(h:st[n]?=some (.ro (ns.map W.int)))(k:Int):∃c,sV [.loc n,.int k] st=.ok (.int c) st:=by
 by_cases hn:ns=[]
 ·subst hn
  refine⟨0,?_⟩
  apply qm;apply u8;apply u6
  ·(repeat' (first|with_reducible exact sO (rA h)|walk_at "ev1"))
  ·(walk_at "evs")
 ·have hl:0<ns.length:=List.length_pos_iff.mpr hn
  obtain⟨c,hc,e⟩:=IM (ns.map W.int) (by simpa using hl) k
  obtain⟨c,_,rfl⟩:=bC.mp hc
  refine⟨c,?_⟩
  apply qm;apply FR
  ·apply u7
   ·(repeat' (first|with_reducible exact sO (rA h)|walk_at "ev1"))
    rw[cQ,az];omega
   ·(walk_at "evs")
  ·(repeat' (first|with_reducible exact sO (rA h)|with_reducible exact jR (rA h) e|walk_at "ev1"))
   rw[az];omega
theorem Cw(c k s:Int)(hk:-(2^64)<k/\k<2^64)(st:List aq):∃r,0<=r/\Af [.int c,.int k,.int s] st=.ok (.int r) st:=by
 have big:∀q:Int,0<=q%2147483647/\q%2147483647<2147483647:=fun q=>⟨gX _ (by decide),kg _ (by decide)⟩
 refine⟨(((c+7*k*k+13*k+s)*69621%2147483647*((c+7*k*k+13*k+s)*69621%2147483647/1009+3)+31*k+s)%2147483629*48271)%1000000007,gX _ (by decide),?_⟩
 apply qm;apply FR
 ·(walk_at "evs")<;>first|exact .inl (by decide)|exact .inr (by decide)|exact .inr hk
 ·(walk_at "evs")<;>first|exact .inl (by decide)|exact .inr (by decide)|exact .inl (by have:=big ((c+7*k*k+13*k+s)*69621);omega)
theorem lu(c s:Int)(m:Nat)(hm:m<=1000)(st:List aq):∃ds:List Int,ds.length=m/\(∀d∈ds,0<=d)/\nR [.int c,.int m,.int s] st=.ok (.loc st.length) (st++[.lst (ds.map W.int)]):=by
 suffices hh:kD (Du fun w bp=>∃j x,w=.loc (st.length+j)/\bp=st++x/\j=0/\∃ds:List Int,x=[.lst (ds.map W.int)]/\ds.length=m/\∀d∈ds,0<=d) (Ln ([W.int c,.int m,.int s].map some++List.replicate (6-3) none) st) by
  obtain⟨j,x,⟨rfl,ds,rfl,h1,h2⟩,e⟩:=zb hh
  exact⟨ds,h1,h2,e⟩
 apply ba
 ·(walk_at "evs")
 apply ba
 ·(walk_at "evs")
 have main:∀r0:Int,kD (Du fun w bp=>∃j x,w=.loc (st.length+j)/\bp=st++x/\j=0/\∃ds:List Int,x=[.lst (ds.map W.int)]/\ds.length=m/\∀d∈ds,0<=d)
   (bG (p_ (dk (ax (aw 1) a6)) (m6 5) (mZ (iJ (e2 Fw (aw 4) (eI 0))) (bG (iL (xB eQ (aw 3) (ax (e2 gl (aw 4) (eI 64)) a6))) (dH 4 (e2 qH (aw 4) (eI 64)))) (iL (xB eQ (aw 3) (ax (eJ 3 Af (ax (aw 0) (ax (aw 5) (ax (aw 2) a6)))) a6))))) (fN (aw 3))
   [some (.int c),some (.int m),some (.int s),some (.loc st.length),some (.int r0),none] (st++[.lst []])):=by
  intro r0
  refine lV (fun i ρ bp=>∃(r:Int) (o:Option W) (ds:List Int),ρ=[some (.int c),some (.int m),some (.int s),some (.loc st.length),some (.int r),o]/\bp=st++[.lst (ds.map W.int)]/\ds.length=i/\∀d∈ds,0<=d) (jS (by(walk_at "evs");rfl) (by omega))
   ⟨r0,none,[],rfl,rfl,rfl,by simp⟩ (fun _ _ _ _=>trivial) ?_ ?_
  ·rintro i w ρ bp hw ⟨r,o,ds,rfl,rfl,hd,h⟩
   obtain⟨hi,rfl⟩:=qp hw
   refine⟨_,rfl,?_⟩
   have eU:(st++[aq.lst (ds.map W.int)])[st.length]?=some (.lst (ds.map W.int)):=by rw[cY];rfl
   have hsh:(ds.map W.int).length<jQ:=by rw[az,hd];show i<1000000;omega
   by_cases hr:0<r
   ·apply ms
    ·(walk_at "evs");simpa using hr
    apply ba
    ·(repeat' (first|with_reducible exact jE eU|with_reducible exact qN eU hsh|walk_at "ev1"))
    rw[ib]
    apply dm
    ·(walk_at "evs")
    ·refine⟨_,_,rfl,r/64,_,ds++[r%64],rfl,by simp,by simp[hd],fun d hd'=>?_⟩
     rcases aZ.mp hd' with hd'|hd'
     ·exact h d hd'
     ·rw[aG.mp hd'];exact gX _ (by decide)
   ·obtain⟨q,hq,e⟩:=Cw c (0+i) s (by omega) (st++[aq.lst (ds.map W.int)])
    apply lr
    ·(walk_at "evs");simpa using hr
    apply dm
    ·(repeat' (first|with_reducible exact jE eU|with_reducible exact qN eU hsh|with_reducible exact e|walk_at "ev1"))
    ·refine⟨_,_,rfl,r,_,ds++[q],rfl,by rw[ib];simp,by simp[hd],fun d hd'=>?_⟩
     rcases aZ.mp hd' with hd'|hd'
     ·exact h d hd'
     ·rw[aG.mp hd'];exact hq
  ·rintro ρ bp ⟨r,o,ds,rfl,rfl,hd,h⟩
   apply eA
   ·(walk_at "evs")
   ·exact⟨_,_,rfl,0,_,rfl,rfl,rfl,ds,rfl,by rw[hd];simpa using fO 0 m,h⟩
 by_cases hc:(10:Int)^18<=c
 ·apply ba
  ·apply u6
   ·(walk_at "evs")<;>simpa using hc
   ·(walk_at "evs")
  ·exact main c
 ·apply ba
  ·apply u7
   ·(walk_at "evs")<;>simpa using hc
   ·(walk_at "evs")
  ·exact main 0
abbrev LL:List Nat:=[65,66,67,68,69,70,71,72,73,74,75,76,77,78,79,80,81,82,83,84,85,86,87,88,89,90,97,98,99,100,101,102,103,104,105,106,107,108,109,110,111,112,113,114,115,116,117,118,119,120,121,122]
theorem ET(c s:Int)(m:Nat)(hm:m<=52)(st:List aq):∃l:List Nat,l.length=m/\l.Nodup/\(∀d∈l,d∈LL)/\Ah [.int c,.int m,.int s] st=.ok (.str l) st:=by
 suffices hh:kD (Du fun w bp=>(∃x,bp=st++x)/\undWs st.length [w]=true/\∃l:List Nat,w=.str l/\l.length=m/\l.Nodup/\∀d∈l,d∈LL) (Lr ([W.int c,.int m,.int s].map some++List.replicate (7-3) none) st) by
  obtain⟨w,⟨l,rfl,h1,h2,h3⟩,e⟩:=rB hh
  exact⟨l,h1,h2,h3,e⟩
 obtain⟨ds,h1,h2,e⟩:=lu c s m (by omega) st
 apply ba
 ·(walk_at "evs")
 apply ba
 ·(walk_at "evs")
 have eU:lstOf (st++[aq.lst (ds.map W.int)]) st.length=some (ds.map W.int):=bR (by rw[cY];rfl)
 refine lV (fun i ρ bp=>∃(r f:List Nat) (o o2:Option W),ρ=[iO c,iO m,iO s,some (.str r),some (.str f),o,o2]/\bp=st++[.lst (ds.map W.int)]/\f.length=i/\r.length+i=52/\(f++r).Perm LL) (za (by(repeat' (first|with_reducible exact e|walk_at "ev1"))) eU)
  ⟨LL,[],none,none,rfl,rfl,rfl,rfl,.refl _⟩ (fun i ρ bp h=>?_) ?_ ?_
 ·obtain⟨r,f,o,o2,rfl,rfl,_⟩:=h
  exact eU
 ·rintro i w ρ bp hw ⟨r,f,o,o2,rfl,rfl,hf,hr,hfl⟩
  obtain⟨d,hd,rfl⟩:∃d,ds[i]?=some d/\w=.int d:=by
   simp only[aL,cM]at hw
   obtain⟨d,h1,rfl⟩:=hw
   exact⟨d,h1,rfl⟩
  have hi:i<m:=by rw[<- h1];exact(al.mp hd).1
  obtain⟨q,hq,eq⟩:=nM (q:=d) (n:=r.length) (by omega)
  have hL:r.length<=jQ:=by show _<=1000000;omega
  have hLf:f.length<=jQ:=by show _<=1000000;omega
  have hat:qS r (d%(r.length:Int))=some r[q]:=by rw[eq];exact jo (by simp[hq])
  refine⟨_,rfl,?_⟩
  apply ba
  ·(repeat' (first|with_reducible exact B3 hL|walk_at "ev1"))
   show 0<(r.length:Int);omega
  apply ba
  ·have ha:f.length+[r[q]].length<=jQ:=by show _+1<=1000000;omega
   (repeat' (first|with_reducible exact y9 hL hat|with_reducible exact xQ ha|walk_at "ev1"))
  apply dm
  ·(repeat' (first|with_reducible exact FV hL|walk_at "ev1"))
   rw[eq,pG (by omega),show((q:Int)+1)=((q+1:Nat):Int)from rfl,rC (by omega),aQ,bO]
   show _<=1000000;omega
  ·refine⟨_,_,rfl,_,_,_,_,rfl,rfl,by simp[hf],?_,?_⟩
   ·rw[eq,pG (by omega),show((q:Int)+1)=((q+1:Nat):Int)from rfl,rC (by omega),aJ,aQ,bO]
    omega
   ·rw[eq,pG (by omega),show((q:Int)+1)=((q+1:Nat):Int)from rfl,rC (by omega)]
    refine List.Perm.trans ?_ hfl
    rw[aY]
    refine mL f ?_
    have e:r=r.take q++r[q]::r.drop (q+1):=by rw[<- cb hq,gf]
    have e2:(r[q]::(r.take q++r.drop (q+1))).Perm r:=(List.perm_middle.symm).trans (by rw[<- e])
    exact e2
 ·rintro ρ bp ⟨r,f,o,o2,rfl,rfl,hf,hr,hfl⟩
  apply eA
  ·(walk_at "evs")
  ·exact⟨_,_,rfl,⟨_,rfl⟩,rfl,f,rfl,by rw[hf];simpa using h1,(iC.mp (hfl.nodup_iff.mpr (by decide))).1,fun d hd=>hfl.mem_iff.mp (cZ _ hd)⟩
structure Pl where
 b:Nat
 m:List Nat
def Pl.w(p:Pl):W:=.tup [.int p.b,.str p.m]
def gg(t:List Pl):W:=.tup (t.map Pl.w)
inductive St(n:Nat):List Nat->Nat->List Nat->Nat->Option Nat×Option Nat->Prop
 |z {S:List Nat}:St n S 0 (1::S) 1 (none,none)
 |l {a:Nat} {S:List Nat}:St n (a::S) 1 ((1+a)::S) (1+a) (some (n-1),none)
 |r {a:Nat} {S:List Nat}:St n (a::S) 2 ((1+a)::S) (1+a) (none,some (n-1))
 |b {c a:Nat} {S:List Nat}:St n (c::a::S) 3 ((1+c+a)::S) (1+c+a) (some (n-1-c),some (n-1))
inductive Gr:List Pl->List Nat->List Nat->List (Option Nat×Option Nat)->Prop
 |nil:Gr [] [] [] []
 |snoc {ps:List Pl} {S S' sz:List Nat} {lk:List (Option Nat×Option Nat)} {b k:Nat} {m:List Nat} {x:Option Nat×Option Nat}:Gr ps S sz lk->St ps.length S b S' k x->Gr (ps++[⟨b,m⟩]) S' (sz++[k]) (lk++[x])
def At(sz:List Nat):List Nat->Nat->Prop
 |[],n=>n=0
 |a::S,n=>sz[n-1]?=some a/\a<=n/\1<=a/\At sz S (n-a)
theorem At.app{sz x:List Nat}:∀{S:List Nat} {n:Nat},n<=sz.length->At sz S n->At (sz++x) S n
 |[],_,_,h=>h
 |a::S,n,hn,⟨h1,h2,h3,h4⟩=>⟨by rw[bw (by omega)];exact h1,h2,h3,At.app (by omega) h4⟩
theorem St.at'{n:Nat}{sz S S':List Nat}{b k:Nat}{x:Option Nat×Option Nat}(h:St n S b S' k x)(hn:sz.length=n)(ha:At sz S n):At (sz++[k]) S' (n+1):=by
 have hk:(sz++[k])[n+1-1]?=some k:=by rw[ke,<- hn];simp
 cases h with
 |z=>exact⟨hk,by omega,by omega,by rw[ke];exact ha.app (by omega)⟩
 |@l a S=>exact⟨hk,by have:=ha.2.1;omega,by omega,by rw[show n+1-(1+a)=n-a by omega];exact ha.2.2.2.app (by omega)⟩
 |@r a S=>exact⟨hk,by have:=ha.2.1;omega,by omega,by rw[show n+1-(1+a)=n-a by omega];exact ha.2.2.2.app (by omega)⟩
 |@b c a S=>exact⟨hk,by have:=ha.2.1;have:=ha.2.2.2.2.1;omega,by omega,by rw[show n+1-(1+c+a)=n-c-a by omega];exact ha.2.2.2.2.2.2.app (by omega)⟩
theorem Gr.ok{ps:List Pl}{S sz:List Nat}{lk:List (Option Nat×Option Nat)}(h:Gr ps S sz lk):sz.length=ps.length/\lk.length=ps.length/\At sz S ps.length:=by
 induction h with
 |nil=>exact⟨rfl,rfl,rfl⟩
 |snoc _ hs ih=>
  obtain⟨h1,h2,h3⟩:=ih
  exact⟨by simp[h1],by simp[h2],by rw[aJ];exact hs.at' h1 h3⟩
theorem dD{s:List aq}{c:aq}:(s++[c])[s.length]?=some c:=by rw[cY];rfl
theorem Cy{st:List aq}{n:Nat}{ls:List (List Nat)}(h:lstOf st n=some (ls.map W.str))(hl:ls.length<64):oz [.loc n] st=.ok (.loc st.length) (st++[.lst ((jh ls).map W.str)]):=by
 show nH [.loc n] st=_
 unfold nH
 simp only[h,dg,uo]
 rw[am hl]
theorem wE{a b:List (List Nat)}(h:a.Perm b):(a.map List.length).sum=(b.map List.length).sum:=by
 induction h with
 |nil=>rfl
 |cons x _ ih=>simp only[a7,k_,ih]
 |swap x y l=>simp only[a7,k_];omega
 |trans _ _ ih1 ih2=>rw[ih1,ih2]
theorem sZ(l:List Nat):(((l.map fun c=>[c])).map List.length).sum=l.length:=by
 induction l with
 |nil=>rfl
 |cons a r ih=>simp only[a7,k_,cr,ih,mv];omega
def Ax(l:List Nat):List Nat:=jz [] (jh (l.map fun c=>[c]))
theorem EU(l:List Nat):(Ax l).length=l.length:=by
 unfold Ax;rw[lh,List.length_flatten,wE (gp _),sZ]
theorem Cz(l:List Nat):(Ax l).Perm l:=by
 unfold Ax;rw[lh]
 have h:(jh (l.map fun c=>[c])).flatten.Perm (l.map fun c=>[c]).flatten:=(gp _).flatten
 refine h.trans (.of_eq ?_)
 induction l with
 |nil=>rfl
 |cons a r ih=>
  have ih':=ih ((gp _).flatten)
  simp only[a7,kL,ih',List.cons_append,fZ]
section
variable{ρ:cn}{st:List aq}{fs:FA}{el:FE}{cap:List (Option Nat)}
theorem ze{fe:FE}{ρ:cn}{st s1:List aq}{n:Nat}{l:List Nat}(h:fe ρ st=.ok (.loc n) s1)(hc:lstOf s1 n=some ((l.map fun c=>[c]).map W.str))(hl:l.length<64) :
  FD nY (eC (.str [])) (ax (cT oz (ax fe a6)) a6) ρ st=.ok (.str (Ax l)) (s1++[.lst ((jh (l.map fun c=>[c])).map W.str)]):=by
 have hs:=Cy hc (by simpa using hl)
 have hcell2:lstOf (s1++[aq.lst ((jh (l.map fun c=>[c])).map W.str)]) s1.length=some ((jh (l.map fun c=>[c])).map W.str):=bR dD
 have hj:=xR (sep:=[]) hcell2 (by rw[wE (gp _),sZ];show _<=1000000;simp;omega)
 exact EM dR rfl (aE (eu (aE h b9) hs) b9) hj
def nW(l:List Nat):List W:=l.map fun k=>W.int (k:Nat)
theorem zf{cap:List (Option Nat)}{ρ:cn}{st:List aq}{t:FT}{fs:FA}{n:Nat}(Pb:Nat->Bool)(hr:fs ρ st=.ok [.int n] st)(hn:n<=100000)(h0:0<cap.length)(h:∀i:Nat,i<n->t ((qc cap ρ).set 0 (some (.int i))) st=.ok (Pb i) st) :
  ia cap (dk fs) (m6 0) t (aw 0) ρ st=.ok (.loc st.length) (st++[.lst (nW ((List.range n).filter Pb))]):=by
 have ir:dk fs ρ st=.ok (dh 0 n,none) st:=by
  have:=jS hr (by omega)
  rw[bP]at this
  exact this
 rw[sP (fi:=dk fs) (f:=m6 0) (t:=t) (el:=aw 0) (cap:=cap) (ρ:=ρ) (fun w=>match w with|.int z=>Pb z.toNat|_=>false) id ir (by rw[fO];show _<=1000000;omega) trivial fun w hw=>by
  obtain⟨i,hi,rfl⟩:=nN hw
  rw[show((0:Int)+(i:Int))=(i:Int) by omega]
  exact⟨_,rfl,h i hi,fun _=>gF (by rw[bM (by simp[qc];exact h0)];rfl)⟩]
 congr 4
 unfold dh nW
 rw[jw,bb]
 have e:((fun w=>match w with|W.int z=>Pb z.toNat|_=>false)∘fun k:Nat=>W.int (0+(k:Int)))=Pb:=by
  funext k
  show Pb (0+(k:Int)).toNat=Pb k
  congr 1;omega
 rw[e]
 refine cw fun k _=>?_
 show W.int (0+(k:Int))=_
 rw[jJ]
theorem Gf{fe:FE}{f:FG}{ρ ρ':cn}{st st1:List aq}{w:W}(h:fe ρ st=.ok w st1)(h2:f w ρ=some ρ'):Bk fe f ρ st=.nx ρ' st1:=by
 unfold Bk;rw[h];simp only[R.stmt_ok];rw[h2]
end
theorem Gg{c:Nat}{l:List Nat}{st:List aq}:xy false (.str [c]) (.str l) st=.ok (.bl (decide (c∈l))) st:=rfl
theorem EV{fe:FE}{ρ:cn}{st st1:List aq}{l:List Nat}(h:fe ρ st=.ok (.str l) st1):iN fe ρ st=.ok (jn l,none) st1:=by unfold iN;rw[h];rfl
theorem Ai(l:List Nat):(jn l).length=l.length:=by simp[jn]
theorem qv{α:Type}{l:List α}{i:Nat}{c:α}(h:l[i]?=some c):l.take (i+1)=l.take i++[c]:=by
 rw[List.take_succ,h];rfl
theorem s9(l:List Nat)(k:Nat)(st:List aq):kT (k+1) [.str l,.str l] st=.ok (.bl true) st:=by
 refine gI (N:=3) (ws:=[.str l,.str l]) (body:=Ct (kT k)) ?_ rfl
 (walk_at "go")
 apply eA
 ·apply rq
  ·(walk_at "evs")
  ·(walk_at "evs")
 ·exact⟨_,_,rfl,by simp,[],by simp⟩
theorem lv{ws:List W}{k:Nat}{st:List aq}(hl:ws.length<=1000)(h:∀w∈ws,kT k [w,w] st=.ok (.bl true) st):kT (k+1) [.tup ws,.tup ws] st=.ok (.bl true) st:=by
 refine gI (N:=3) (ws:=[.tup ws,.tup ws]) (body:=Ct (kT k)) ?_ rfl
 apply f9
 ·(walk_at "evs")
 apply nL
 apply dI
 ·apply kC
  ·(walk_at "evs")
  ·(walk_at "evs")
   simp
 apply eK
 apply nL
 refine lV (fun i ρ bp=>∃o,ρ=[some (.tup ws),some (.tup ws),o]/\bp=st) (jS (by(walk_at "evs")) (by omega)) ⟨none,rfl,rfl⟩ (fun _ _ _ _=>trivial) ?_ ?_
 ·rintro i w ρ bp hw ⟨o,rfl,rfl⟩
  obtain⟨hi,rfl⟩:=qp hw
  refine⟨_,rfl,?_⟩
  have hi':i<ws.length:=by simpa using hi
  have hat:d8 (.tup ws) (.int (0+(i:Int))) bp=.ok ws[i] bp:=wf (by rw[jJ];exact jo (by simp[hi']))
  have hs:=h ws[i] (bU _)
  apply lr
  ·(walk_at "evs")
  apply dm
  ·(walk_at "evs")
  ·exact⟨_,_,rfl,_,rfl,rfl⟩
 ·rintro ρ bp ⟨o,rfl,rfl⟩
  apply fK
  ·(walk_at "evs")
  ·exact⟨_,_,rfl,rfl,[],by simp⟩
theorem Aj(b:Bool)(k:Nat)(st:List aq):kT (k+1) [.bl b,.bl b] st=.ok (.bl true) st:=by
 have hb:mV (.bl b) (.bl b) st=.ok (.bl true) st:=K2 (by simp)
 refine gI (N:=3) (ws:=[.bl b,.bl b]) (body:=Ct (kT k)) ?_ rfl
 apply dI
 ·(walk_at "evs")
 apply eK
 apply dI
 ·(walk_at "evs")
 apply eK
 apply f9
 ·(walk_at "evs")
 apply fK
 ·apply rq
  ·(walk_at "evs")
  ·(walk_at "evs")
 ·exact⟨_,_,rfl,rfl,[],by simp⟩
theorem wF(z:Int)(k:Nat)(st:List aq):kT (k+1) [.int z,.int z] st=.ok (.bl true) st:=by
 have hb:mV (.int z) (.int z) st=.ok (.bl true) st:=ic (by simp)
 refine gI (N:=3) (ws:=[.int z,.int z]) (body:=Ct (kT k)) ?_ rfl
 apply dI
 ·(walk_at "evs")
 apply eK
 apply dI
 ·(walk_at "evs")
 apply eK
 apply dI
 ·(walk_at "evs")
 apply eK
 apply f9
 ·(walk_at "evs")
 apply fK
 ·apply rq
  ·(walk_at "evs")
  ·apply rq
   ·(walk_at "evs")
   ·(walk_at "evs")
 ·exact⟨_,_,rfl,by simp,[],by simp⟩
theorem CA{fs:FA}{ρ:cn}{st st1:List aq}{ws:List W}(h:fs ρ st=.ok [.tup ws] st1):qd fs ρ st=.ok (qK ws,none) st1:=by unfold qd;rw[h];rfl
theorem EW{α:Type}{l:List α}{i:Nat}{x d:α}(h:l[i]?=some x):l.getD i d=x:=by rw[aI,h];rfl
theorem s_(t:List Pl)(n:Nat):(gg t).und n=true:=by
 unfold gg W.und
 induction t with
 |nil=>rfl
 |cons x r ih=>simp only[a7,undWs,ih,gQ];simp[Pl.w,W.und,undWs]
theorem lW(a:List Pl)(st:List aq):gn [gg a] st=.ok (.int a.length) st:=by
 unfold gg
 rw[B2,az]
theorem CB{a:List Pl}{q:Nat}{p:Pl}(h:a[q]?=some p)(st:List aq):d8 (gg a) (.int q) st=.ok p.w st:=wf (jo (by simp[h]))
theorem CC(p:Pl)(st:List aq):d8 p.w (.int 1) st=.ok (.str p.m) st:=rfl
theorem IN(p:Pl)(st:List aq):d8 p.w (.int 0) st=.ok (.int p.b) st:=rfl
theorem CD(a b:List Pl)(h:(a++b).length<=100000)(st:List aq):eh (gg a) (gg b) st=.ok (gg (a++b)) st:=by
 unfold gg
 rw[Ia (by rw[<- bH,az];show _<=1000000;omega),<- bH]
theorem IP{a:List Pl}{q:Nat}(h:q<=a.length)(st:List aq):wV (gg a) none (some (q:Int)) st=.ok (gg (a.take q)) st:=by
 unfold gg;rw[B4,pG (by simpa using h),List.map_take]
theorem IQ{a:List Pl}{q:Nat}(h:q<=a.length)(st:List aq):wV (gg a) (some (q:Int)) none st=.ok (gg (a.drop q)) st:=by
 unfold gg;rw[B4,rC (by simpa using h),List.map_drop]
theorem Ak{α β:Type}(l:List α)(d:α)(f:α->β):(List.range l.length).map (fun i=>f (l.getD i d))=l.map f:=by
 refine e_ fun i=>?_
 rw[aL,aL]
 by_cases h:i<l.length
 ·rw[gJ h,af h]
  show some (f (l.getD i d))=_
  rw[aI,af h];rfl
 ·rw[bd (by simpa using h),bd (by omega)];rfl
theorem CF{α:Type}{l:List α}{i:Nat}(d:α)(h:i<l.length):l[i]?=some (l.getD i d):=by
 rw[aI,af h];rfl
theorem St.ex{n b:Nat}{S:List Nat}(hb:b<=3)(h:(b+1)/2<=S.length):∃S' k x,St n S b S' k x/\S'.length+(b+1)/2=S.length+1:=by
 obtain rfl|rfl|rfl|rfl:b=0\/b=1\/b=2\/b=3:=by omega
 ·exact⟨_,_,_,.z,by simp⟩
 ·match S,h with
  |a::S,_=>exact⟨_,_,_,.l,by simp⟩
 ·match S,h with
  |a::S,_=>exact⟨_,_,_,.r,by simp⟩
 ·match S,h with
  |c::a::S,_=>exact⟨_,_,_,.b,by simp⟩
  |[_],hz=>simp at hz
  |[],hz=>simp at hz
def uD(d:Int)(i:Nat):Bool:=Builtin.bitAnd (d/2^i) 1==1
def ng(pool:List Nat)(d:Int):List Nat:=((List.range pool.length).filter (uD d)).map fun i=>pool.getD i 0
theorem lX(pool:List Nat)(d:Int):(ng pool d).Sublist pool:=by
 unfold ng
 have:((List.range pool.length).map fun i=>pool.getD i 0)=pool:=by
  have:=Ak pool 0 (fun x=>x)
  rw[List.map_id']at this;exact this
 conv=>rhs;rw[<- this]
 exact List.Sublist.map _ List.filter_sublist
def ji:W->Nat
 |.int i=>i.toNat
 |_=>0
theorem Al(pool:List Nat)(hp:pool.length<=50)(d:Int)(st:List aq):wz [.str pool,.int d] st=.ok (.str (Ax (ng pool d))) st:=by
 have hL:pool.length<=jQ:=by show _<=1000000;omega
 have hc:=sP (fi:=dk (ax (cT gn (ax (aw 0) a6)) a6)) (f:=m6 0) (t:=iJ (e2 mV (e2 Bb (e2 Ho (aw 2) (aw 0)) (eI 1)) (eI 1))) (el:=e2 d8 (aw 1) (aw 0)) (cap:=[none,some 0,some 1]) (ρ:=[some (.str pool),iO d]) (st:=st) (st1:=st) (ws:=dh 0 pool.length) (ck:=none) (fun w=>uD d (ji w)) (fun w=>.str [pool.getD (ji w) 0])
   (by
    have:=jS (fs:=ax (cT gn (ax (aw 0) a6)) a6) (ρ:=[some (.str pool),iO d]) (st:=st) (st1:=st) (q:=(pool.length:Int)) (aE (eu kn (B3 hL)) b9) (by omega)
    rw[bP]at this
    exact this) (by rw[fO];show _<=1000000;omega) trivial fun w hw=>by
   obtain⟨i,hi,rfl⟩:=nN hw
   refine⟨[iO (0+(i:Int)),some (.str pool),iO d],rfl,?_,fun _=>?_⟩
   ·have h0:(0:Int)<=0+(i:Int):=by omega
    have hk:(Builtin.bitAnd (d/2^(0+(i:Int)).toNat) 1==1)=uD d (ji (.int (0+(i:Int)))):=rfl
    exact dW (dM (dM (dM kv kv (jF h0)) dR (jF trivial)) dR (ic hk))
   ·refine dM kv kv ?_
    rw[show((0:Int)+(i:Int))=(i:Int) by omega]
    have e2:qS pool (i:Int)=some (pool.getD i 0):=jo (CF 0 hi)
    rw[y9 hL e2]
    simp[ji]
 have e:((dh 0 pool.length).filter fun w=>uD d (ji w)).map (fun w=>W.str [pool.getD (ji w) 0])=((ng pool d).map fun c=>[c]).map W.str:=by
  unfold dh ng
  rw[jw,bb,bb,bb]
  have e1:((fun w=>uD d (ji w))∘fun k:Nat=>W.int (0+(k:Int)))=uD d:=by funext k;simp[ji]
  rw[e1]
  refine cw fun k _=>?_
  simp[ji]
 rw[e]at hc
 have hl:(ng pool d).length<=50:=aA (lX pool d).length_le hp
 refine gI (N:=2) (ws:=[.str pool,.int d]) (body:=F8) ?_ rfl
 apply eA
 ·exact ze hc (bR dD) (by omega)
 ·exact⟨_,_,rfl,rfl,_,by rw[aY]⟩
theorem qw(l:List Nat):jz [] (l.map fun c=>[c])=l:=by
 rw[lh]
 induction l with
 |nil=>rfl
 |cons a r ih=>simp only[a7,kL,ih];rfl
theorem qx{l:List Nat}(h:l.Nodup):Ax l=ix l:=by
 have hp:(ix l).Perm l:=(gB ((lq l).imp fun h=>aK h) h).mpr fun d=>jL
 have e:jh (l.map fun c=>[c])=(ix l).map fun c=>[c]:=by
  refine q_ (sm _) ?_ ((gp _).trans (hp.map _).symm)
  refine iI.mpr ((lq l).imp fun{a b} h=>?_)
  intro z
  rcases List.cons_lt_cons_iff.mp z with y|⟨y,_⟩<;>omega
 unfold Ax
 rw[e,qw]
def CG(pool m:List Nat):Prop:=m.length<=50/\(∀d∈m,d∈pool)/\(pool.Nodup->m.Pairwise (· < ·))
theorem Lv{pool:List Nat}(hp:pool.length<=50)(d:Int):CG pool (Ax (ng pool d)):=
 ⟨by rw[EU];exact aA (lX pool d).length_le hp,fun c hc=>(lX pool d).subset ((Cz _).mem_iff.mp hc),fun h=>by rw[qx ((lX pool d).nodup h)];exact lq _⟩
theorem CH{l:List Nat}(hl:l.length<4000)(h:∀c∈l,c∈LL)(st:List aq):Cs [.str l] st=.ok (.str (ix l)) st:=by
 have hs:(ix l).length<64:=by
  have:(ix l).length<=LL.length:=kP ((lq l).imp fun h=>aK h) fun c hc=>h c (jL.mp hc)
  have e:LL.length=52:=by decide
  omega
 have e1:pz (aw 0) [some (.str l)] st=.ok (.loc st.length) (st++[.lst (jn (ix l))]):=by
  unfold pz
  rw[gF (w:=.str l) rfl]
  simp only[R.bind_ok,sv,dg]
  rw[am ⟨hl,hs⟩]
 have hj:=xR (sep:=[]) (ls:=(ix l).map fun c=>[c]) (st:=st++[.lst (jn (ix l))]) (n:=st.length) (bR (by rw[dD];unfold jn;rw[bb];rfl)) (by
  rw[sZ];show _<=1000000;simp;omega)
 rw[qw]at hj
 exact gI (eA (EM dR rfl (aE e1 b9) hj) ⟨_,_,rfl,rfl,_,rfl⟩) rfl
theorem xY{l:List Nat}(h:l.Pairwise (· < ·)):ix l=l:=sk (lq l) h fun _=>jL
theorem CI{p q:List Nat}{k:Bool}{st:List aq}(h:(!(p==q))=k):Bh (.str p) (.str q) st=.ok (.bl k) st:=by rw[<- h];rfl
section
variable{ρ:cn}{st st1:List aq}{fi:FI}{f:FG}{t:FT}{el:FE}{cap:List (Option Nat)}{α:Type}
theorem zg{ck:Option (Nat×List W)}{ρ0:cn}(hc:iM st ck)(F:α->W)(T:α->Bool)(Y:α->W):∀(L:List α) (fk:List W),(∀a∈L,∃ρ',f (F a) ρ0=some ρ'/\t ρ' st=.ok (T a) st/\(T a=true->el ρ' st=.ok (Y a) st)) ->
  mq f t el ck ρ0 (L.map F) fk st=.ok (fk++(L.filter T).map Y) st
 |[],fk,_=>by rw[jG];unfold mq;rw[am hc];simp
 |a::L,fk,h=>by
  obtain⟨ρ',e1,e2,e3⟩:=h a (by simp)
  have ih:=fun fk=>zg hc F T Y L fk fun w' hw'=>h w' (by simp[hw'])
  rw[a7]
  unfold mq
  rw[am hc,e1]
  simp only[e2]
  cases hT:T a with
  |true=>
   simp only[e3 hT]
   rw[ih]
   simp[i8,hT]
  |false=>
   simp only
   rw[ih]
   simp[i8,hT]
theorem EX{ck:Option (Nat×List W)}(L:List α)(F:α->W)(T:α->Bool)(Y:α->W)(h:fi ρ st=.ok (L.map F,ck) st1)(hl:L.length<=1000000)(hc:iM st1 ck)
  (hs:∀a∈L,∃ρ',f (F a) (qc cap ρ)=some ρ'/\t ρ' st1=.ok (T a) st1/\(T a=true->el ρ' st1=.ok (Y a) st1)):ia cap fi f t el ρ st=.ok (.loc st1.length) (st1++[.lst ((L.filter T).map Y)]):=by
 have hl':(L.map F).length<=jQ:=by rw[az];exact hl
 unfold ia
 rw[h]
 simp only[R.bind_ok]
 rw[am hl',zg hc F T Y L [] hs]
 simp only[R.bind_ok,fZ,kr]
 rw[am]
 rw[az]
 exact aA (b6 _ _) hl
end
theorem CJ{kvs:List (DK×W)}{k k':DK}{v:W}(h:k'≠k):lT (kvs.map fun p=>if p.1=k then(p.1,v)else p) k'=lT kvs k':=by
 unfold lT
 induction kvs with
 |nil=>rfl
 |cons p r ih=>
  rw[a7,cK,cK]
  by_cases e:p.1=k
  ·rw[am e,aP (fun z=>h (by rw[<- z,e]))]
   exact ih
  ·rw[au e]
   by_cases e2:p.1=k'
   ·rw[a9 e2]
   ·rw[aP e2];exact ih
theorem CK{kvs:List (DK×W)}{k k':DK}{v:W}:lT (qW kvs k v) k'=if k'=k then some v else lT kvs k':=by
 by_cases e:k'=k
 ·subst e
  rw[am rfl]
  unfold qW
  by_cases h:(kvs.any fun p=>decide (p.1=k'))=true
  ·rw[am h]
   unfold lT
   induction kvs with
   |nil=>simp at h
   |cons p r ih=>
    rw[a7,cK]
    by_cases e:p.1=k'
    ·rw[am e,a9 e];rfl
    ·rw[au e,aP e]
     refine ih ?_
     rw[kZ,aP e,k6]at h
     exact h
  ·rw[au h]
   unfold lT
   rw[List.find?_append]
   have:kvs.find? (fun p=>decide (p.1=k'))=none:=by
    rw[List.find?_eq_none]
    intro p hp z
    exact h (List.any_eq_true.mpr ⟨p,hp,z⟩)
   rw[this]
   simp
 ·rw[au e]
  unfold qW
  split
  ·exact CJ e
  ·unfold lT
   rw[List.find?_append]
   cases hf:kvs.find? (fun p=>decide (p.1=k'))with
   |some p=>rfl
   |none=>simp[Ne.symm e]
theorem wG{kvs:List (DK×W)}{k:DK}{v:W}:(qW kvs k v).length<=kvs.length+1:=by
 unfold qW;split<;>simp
def Nz(ps:List Pl)(j:Nat):List Nat:=(ps[j]?.map Pl.m).getD []
def AP(ps:List Pl)(c j:Nat):Bool:=decide (c∈Nz ps j)
theorem zh{ps:List Pl}{j:Nat}{p:Pl}(h:ps[j]?=some p)(c:Nat):AP ps c j=decide (c∈p.m):=by unfold AP Nz;rw[h];rfl
def Ay(ps:List Pl)(c:Nat):List Nat:=(List.range ps.length).filter (AP ps c)
theorem CL(l:List Nat)(n:Nat):undWs n (nW l)=true:=by
 unfold nW
 induction l with
 |nil=>rfl
 |cons x r ih=>simp[undWs,W.und,ih]
section
variable{ps:List Pl}{S sz:List Nat}{lk:List (Option Nat×Option Nat)}
theorem tf(hn:ps.length<=100)(c:Nat)(st:List aq):ww [gg ps,.str [c]] st=.ok (.tup (nW (Ay ps c))) st:=by
 have hc:=EX (fi:=qd (ax (aw 0) a6)) (f:=Kw 2 (m7 (m6 0) (m7 (m6 1) yN))) (t:=iJ (e2 (xy false) (aw 2) (e2 d8 (aw 1) (eI 1)))) (el:=aw 0) (cap:=[none,none,some 1]) (ρ:=[some (gg ps),some (.str [c])]) (st:=st) (st1:=st) (ck:=none) (List.range ps.length) (fun i=>W.tup [.int (i:Nat),(ps.map Pl.w).getD i .non]) (AP ps c) (fun i=>.int (i:Nat))
  (by
   have:=CA (fs:=ax (aw 0) a6) (ρ:=[some (gg ps),some (.str [c])]) (st:=st) (st1:=st) (ws:=ps.map Pl.w) kn
   unfold qK at this
   rw[az]at this
   exact this) (by rw[dw];omega) trivial fun i hi=>by
  rw[dr]at hi
  obtain⟨p,hp⟩:∃p,ps[i]?=some p:=⟨_,af hi⟩
  have e:(ps.map Pl.w).getD i .non=p.w:=EW (by rw[aL,hp];rfl)
  rw[e]
  refine⟨[some (.int (i:Nat)),some p.w,some (.str [c])],rfl,?_,fun _=>gF rfl⟩
  rw[zh hp]
  exact dW (dM kv (dM kv dR (CC p st)) Gg)
 refine gI (eA (eu (aE hc b9) (kR (bR dD))) ⟨_,_,rfl,rfl,_,rfl⟩) ?_
 simp only[undWs,W.und,gQ]
 exact CL (Ay ps c) _
theorem wH{q:Nat}(h:q<ps.length)(st:List aq):Ae [gg ps,.int q] st=.ok .non st:=by
 refine B6 (N:=2) (ws:=[gg ps,.int q]) (body:=Iy) ?_
 exact lr (kC (dW (dM kv dR (B0 (aP (by omega))))) (dW (dM kv (eu kn (lW ps st)) (B0 (aP (by omega)))))) (dm oB ⟨_,_,rfl,[],(cI _).symm⟩)
theorem CM{z:Int}(h:z<0\/(ps.length:Int)<=z)(st:List aq):Ae [gg ps,.int z] st=.ex "NoPlace" st:=by
 have hl:=lW ps st
 refine zc (N:=2) (ws:=[gg ps,.int z]) (body:=Iy) ?_
 by_cases h0:z<0
 ·have d1:decide (z<0)=true:=a9 h0
  apply ms
  ·apply rl
   (walk_at "evs")
  apply uw
  exact⟨_,_,rfl,[],by simp⟩
 ·have d1:decide (z<0)=false:=aP h0
  have d2:decide ((ps.length:Int)<=z)=true:=a9 (by omega)
  apply ms
  ·apply kC
   ·(walk_at "evs")
   ·(walk_at "evs")
  apply uw
  exact⟨_,_,rfl,[],by simp⟩
theorem EY{st:List aq}{n:Nat}{kvs:List (DK×W)}(h:st[n]?=some (.dct kvs)):uv st (.loc n)=some (n,kvs):=by simp only[uv,h]
theorem IR{st:List aq}{n:Nat}{kvs:List (DK×W)}(h:st[n]?=some (.dct kvs)):zT st (.loc n)=some (n,kvs):=by simp only[zT,h]
theorem Lw{st:List aq}{n q:Nat}{kvs:List (DK×W)}{b:Bool}(h:st[n]?=some (.dct kvs))(hb:(lT kvs (.i q)).isSome=b):zU false (.int q) (.loc n) st=.ok (.bl b) st:=by
 rw[<- hb];simp only[zU,EY h,keyOf];rfl
theorem CN{st:List aq}{n q:Nat}{kvs:List (DK×W)}{v:W}(h:st[n]?=some (.dct kvs))(hl:kvs.length<jQ):v8 (.loc n) (.int q) v st=some (st.set n (.dct (qW kvs (.i q) v))):=by
 simp only[v8,IR h,keyOf];rw[am hl]
def EZ(c:Nat)(x:Nat->Bool)(j:Nat)(p:Pl):Pl:=⟨p.b,if x j=true then ix ((p.m.filter fun d=>d != c)++[c])else p.m.filter fun d=>d != c⟩
def qX(ps:List Pl)(c:Nat)(x:Nat->Bool):List Pl:=ps.mapIdx fun j p=>EZ c x j p
def NA(ps:List Pl):Prop:=∀p∈ps,p.m.length<=60/\∀d∈p.m,d∈LL
theorem pI(ps:List Pl)(c:Nat)(x:Nat->Bool):(qX ps c x).length=ps.length:=List.length_mapIdx
theorem xZ{ps:List Pl}{j:Nat}{p:Pl}(h:ps[j]?=some p)(c:Nat)(x:Nat->Bool):(qX ps c x)[j]?=some (EZ c x j p):=by
 unfold qX;rw[List.getElem?_mapIdx,h];rfl
theorem E0(c:Nat)(x:Nat->Bool)(j:Nat)(p:Pl)(d:Nat):d∈(EZ c x j p).m↔if d=c then x j=true else d∈p.m:=by
 unfold EZ
 simp only
 by_cases hb:x j=true
 ·rw[am hb,jL,aZ,dB,aG]
  by_cases e:d=c
  ·rw[am e];exact⟨fun _=>hb,fun _=>.inr e⟩
  ·rw[au e];exact⟨fun z=>(z.resolve_right e).1,fun z=>.inl ⟨z,by simpa using e⟩⟩
 ·rw[au hb,dB]
  by_cases e:d=c
  ·rw[am e];exact⟨fun z=>absurd z.2 (by simp[e]),fun z=>absurd z hb⟩
  ·rw[au e];exact⟨fun z=>z.1,fun z=>⟨z,by simpa using e⟩⟩
theorem x5(hn:ps.length<=100)(hg:NA ps){c:Nat}(hc:c∈LL){L:List Nat}{x:Nat->Bool}(hL:∀q,q∈L↔q<ps.length/\x q=true)(NZ:L.length<=1000)(st:List aq):vh [gg ps,.str [c],.tup (nW L)] st=.ok (gg (qX ps c x)) st:=by
 refine gI (N:=8) (body:=Iz) (ws:=[gg ps,.str [c],.tup (nW L)]) ?_ (by simp only[undWs,gQ];exact s_ _ _)
 refine ba (eT (w:=.loc st.length) (st1:=st++[.dct []]) rfl) ?_
 refine lV (fun i ρ s=>∃(kvs:List (DK×W)) (o4:Option W),ρ=[some (gg ps),some (.str [c]),some (.tup (nW L)),some (.loc st.length),o4,none,none,none]/\s=st++[.dct kvs]/\kvs.length<=i/\i<=L.length/\∀q:Nat,(lT kvs (.i q)).isSome=decide (q∈L.take i))
  (y_ (st1:=st++[.dct []]) kv) ⟨[],none,rfl,rfl,ah _,br _,fun q=>by rw[j9];rfl⟩ (fun _ _ _ _=>trivial) ?_ ?_
 ·rintro i w ρ s hw ⟨kvs,o4,rfl,rfl,hk,hi,hd⟩
  obtain⟨q,hq,rfl⟩:∃q,L[i]?=some q/\w=.int (q:Nat):=by
   have hw:(nW L)[i]?=some w:=hw
   simp only[nW,aL,cM]at hw
   obtain⟨q,h1,rfl⟩:=hw
   exact⟨q,h1,rfl⟩
  have hi':i<L.length:=(al.mp hq).1
  have hqn:=((hL q).mp (bV hq)).1
  have eU:(st++[aq.dct kvs])[st.length]?=some (.dct kvs):=dD
  refine⟨_,rfl,ba (m_ (dA (aE kv kn) (wH hqn _) rfl)) (dm (BY dR kv kv (CN eU (by show _<1000000;omega))) ⟨_,_,rfl,qW kvs (.i q) (.bl true),_,rfl,ib _ _ _,?_,by omega,fun q'=>?_⟩)⟩
  ·have:=wG (kvs:=kvs) (k:=.i q) (v:=.bl true);omega
  ·rw[CK,qv hq]
   by_cases e:q'=q
   ·subst e;rw[am rfl];simp
   ·rw[au (fun z=>e (by injection z with z;omega)),hd q']
    rw[gY,hU,hU,aZ,aG]
    exact⟨.inl,fun z=>z.resolve_right e⟩
 ·rintro ρ s ⟨kvs,o4,rfl,rfl,hk,hi,hd⟩
  rw[show(nW L,(none:Option (Nat×List W))).1.length=L.length by simp[nW],List.take_length]at hd
  refine ba (eT (qM b9 (by decide))) ?_
  rw[aY,show(st++[aq.dct kvs]).length=st.length+1 by simp]
  refine lV (fun i ρ s=>∃(o4 o6 o7:Option W),ρ=[some (gg ps),some (.str [c]),some (.tup (nW L)),some (.loc st.length),o4,some (.loc (st.length+1)),o6,o7]/\s=st++[.dct kvs,.lst (((qX ps c x).take i).map Pl.w)])
   (CA (st1:=st++[.dct kvs,.lst []]) (ws:=ps.map Pl.w) kn) ⟨o4,none,none,rfl,by rw[j9];rfl⟩ (fun _ _ _ _=>trivial) ?_ ?_
  ·rintro i w ρ s hw ⟨o4,o6,o7,rfl,rfl⟩
   obtain⟨y,hy,rfl⟩:=ur hw
   obtain⟨p,hp,rfl⟩:∃p,ps[i]?=some p/\y=p.w:=by
    simp only[aL,cM]at hy
    obtain⟨p,h1,rfl⟩:=hy
    exact⟨p,h1,rfl⟩
   obtain⟨g1,g2⟩:=hg p (bV hp)
   have hip:i<ps.length:=(al.mp hp).1
   obtain⟨s,hs⟩:∃s,s=st++[aq.dct kvs,.lst (((qX ps c x).take i).map Pl.w)]:=⟨_,rfl⟩
   rw[<- hs]
   have tD:s[st.length]?=some (.dct kvs):=by rw[hs,cY];rfl
   have kh:s[st.length+1]?=some (.lst (((qX ps c x).take i).map Pl.w)):=by rw[hs,rj];rfl
   refine⟨_,rfl,ba (eT (Ic (dM kv dR (CC p s)) kv (by show _<=1000000;omega))) ?_⟩
   have hin:=Lw (q:=i) tD (hd i)
   have hfl:(p.m.filter fun d=>d != c).length<=60:=aA (b6 _ _) g1
   have ho:=CH (l:=(p.m.filter fun d=>d != c)++[c]) (by simp;omega) (fun d hd=>by
    rcases aZ.mp hd with z|z
    ·exact g2 d (dB.mp z).1
    ·rw[aG.mp z];exact hc) s
   have hsm:((((qX ps c x).take i).map Pl.w)).length<jQ:=by rw[az];have:=List.length_take_le i (qX ps c x);show _<1000000;omega
   have fin:∀m:List Nat,(EZ c x i p)=⟨p.b,m⟩->kD (Jt fun ρ bp=>∃(o4 o6 o7:Option W),ρ=[some (gg ps),some (.str [c]),some (.tup (nW L)),some (.loc st.length),o4,some (.loc (st.length+1)),o6,o7]/\bp=st++[.dct kvs,.lst (((qX ps c x).take (i+1)).map Pl.w)]) (iL (xB eQ (aw 5) (ax (mB (ax (e2 d8 (aw 6) (eI 0)) (ax (aw 7) a6))) a6)) [some (gg ps),some (.str [c]),some (.tup (nW L)),some (.loc st.length),some (.int (i:Int)),some (.loc (st.length+1)),some p.w,some (.str m)] s):=fun m hm=>by
    refine dm (m_ (Ab kv (jE kh) (aE (pE (aE (dM kv dR (IN p s)) kn) (aU rfl)) b9) (qN kh hsm))) ⟨_,_,rfl,_,_,_,rfl,?_⟩
    rw[hs,sM,qv (xZ hp c x),bH,hm]
    rfl
   by_cases hb:x i=true
   ·rw[a9 ((hL i).mpr ⟨hip,hb⟩)]at hin
    refine f9 (dW (dM kv kv hin)) (ba (eT (dA (aE (dM kv kv (xQ (by show _<=1000000;simp;omega))) b9) ho rfl)) (fin _ ?_))
    unfold EZ;rw[am hb]
   ·rw[aP (fun z=>hb ((hL i).mp z).2)]at hin
    refine dI (dW (dM kv kv hin)) (eK (fin _ ?_))
    unfold EZ;rw[au hb]
  ·rintro ρ s ⟨o4,o6,o7,rfl,rfl⟩
   rw[show(qK (ps.map Pl.w),(none:Option (Nat×List W))).1.length=ps.length by rw[ut,az],cf (by rw[pI];exact ah _)]
   have kh:(st++[aq.dct kvs,.lst ((qX ps c x).map Pl.w)])[st.length+1]?=some (.lst ((qX ps c x).map Pl.w)):=by rw[rj];rfl
   exact eA (eu kn (kR (bR kh))) ⟨_,_,rfl,rfl,_,rfl⟩
end
theorem At.le{sz:List Nat}:∀{S:List Nat} {n:Nat},At sz S n->S.length<=n
 |[],_,_=>br _
 |a::S,n,⟨_,h2,h3,h4⟩=>by have:=At.le h4;simp;omega
theorem E1{st:List aq}{nd:Nat}{ds:List Int}{pool:List Nat}(hd:st[nd]?=some (.lst (ds.map W.int)))(Az:∀d∈ds,0<=d)(hp:pool.length<=50) :
  ∃(ps:List Pl) (S sz:List Nat) (lk:List (Option Nat×Option Nat)),Gr ps S sz lk/\ps.length<=100/\S.length<=1/\(∀p∈ps,CG pool p.m)/\wA [.loc nd,.str pool,.int 100] st=.ok (gg ps) st:=by
 suffices hh:kD (Du fun w bp=>(∃x,bp=st++x)/\undWs st.length [w]=true/\∃(ps:List Pl) (S sz:List Nat) (lk:List (Option Nat×Option Nat)),w=gg ps/\Gr ps S sz lk/\ps.length<=100/\S.length<=1/\∀p∈ps,CG pool p.m) (F9 ([W.loc nd,.str pool,.int 100].map some++List.replicate (8-3) none) st) by
  obtain⟨w,⟨ps,S,sz,lk,rfl,h1,h2,h3,h4⟩,e⟩:=rB hh
  exact⟨ps,S,sz,lk,h1,h2,h3,h4,e⟩
 apply ba
 ·(walk_at "evs")
 apply ba
 ·(walk_at "evs")
 have eU:∀A:List W,lstOf (st++[aq.lst A]) nd=some (ds.map W.int):=fun A=>bR (dF hd)
 refine lV (fun i ρ bp=>∃(ps:List Pl) (S sz:List Nat) (lk:List (Option Nat×Option Nat)) (o5 o6 o7:Option W),ρ=[some (.loc nd),some (.str pool),some (.int 100),some (.loc st.length),some (.int S.length),o5,o6,o7]/\bp=st++[.lst (ps.map Pl.w)]/\Gr ps S sz lk/\ps.length+S.length<=101/\∀p∈ps,CG pool p.m) (za (st1:=st++[aq.lst []]) (by(walk_at "evs")) (eU []))
  ⟨[],[],[],[],none,none,none,rfl,rfl,.nil,by simp,by simp⟩ (fun i ρ bp h=>?_) ?_ ?_
 ·obtain⟨ps,S,sz,lk,o5,o6,o7,rfl,rfl,_⟩:=h
  exact eU _
 ·rintro i w ρ bp hw ⟨ps,S,sz,lk,o5,o6,o7,rfl,rfl,hg,iR,hmm⟩
  obtain⟨d,hdd,rfl⟩:∃d,ds[i]?=some d/\w=.int d:=by
   simp only[aL,cM]at hw
   obtain⟨d,h1,rfl⟩:=hw
   exact⟨d,h1,rfl⟩
  have hd0:=Az d (bV hdd)
  refine⟨_,rfl,?_⟩
  have hc:(st++[aq.lst (ps.map Pl.w)])[st.length]?=some (.lst (ps.map Pl.w)):=by rw[cY];rfl
  have eZ:=sO (bR hc)
  rw[az]at eZ
  obtain⟨b0,hb0,eb0⟩:=nM (q:=d) (n:=4) (by omega)
  have eb0:d%4=(b0:Int):=eb0
  apply ba
  ·(walk_at "evs")
  rw[eb0]
  refine kE (fun ρ bp=>∃b:Nat,b<=3/\(b+1)/2<=S.length/\ρ=[some (.loc nd),some (.str pool),some (.int 100),some (.loc st.length),some (.int S.length),some (.int d),some (.int b),o7]/\bp=st++[.lst (ps.map Pl.w)]) ?_ ?_
  ·by_cases h1:S.length<(b0+1)/2
   ·have t1:decide ((S.length:Int)<((b0:Int)+1)/2)=true:=a9 (by omega)
    apply ms
    ·(walk_at "evs")
    apply dm
    ·(walk_at "evs")
    ·exact⟨_,_,rfl,0,by omega,by omega,rfl,rfl⟩
   ·have t1:decide ((S.length:Int)<((b0:Int)+1)/2)=false:=aP (by omega)
    apply lr
    ·(walk_at "evs")
    apply dm
    ·(walk_at "evs")
    ·exact⟨_,_,rfl,b0,by omega,by omega,rfl,rfl⟩
  rintro ρ bp ⟨b1,Me,hs1,rfl,rfl⟩
  refine kE (fun ρ bp=>∃b:Nat,b<=3/\(b+1)/2<=S.length/\ρ=[some (.loc nd),some (.str pool),some (.int 100),some (.loc st.length),some (.int S.length),some (.int d),some (.int b),o7]/\bp=st++[.lst (ps.map Pl.w)]) ?_ ?_
  ·by_cases h1:(100:Int)<(ps.length:Int)+(S.length:Int)+1-((b1:Int)+1)/2
   ·have t1:decide ((100:Int)<(ps.length:Int)+(S.length:Int)+1-((b1:Int)+1)/2)=true:=a9 h1
    by_cases h2:1<S.length
    ·have t2:decide ((1:Int)<(S.length:Int))=true:=a9 (by omega)
     apply ms
     ·apply pF
      ·(walk_at "evs")
      ·(walk_at "evs")
     apply dm
     ·(walk_at "evs")
     ·exact⟨_,_,rfl,3,by omega,by omega,rfl,rfl⟩
    ·have t2:decide ((1:Int)<(S.length:Int))=false:=aP (by omega)
     apply lr
     ·apply pF
      ·(walk_at "evs")
      ·(walk_at "evs")
     apply dm
     ·(walk_at "evs")
     ·exact⟨_,_,rfl,b1,Me,hs1,rfl,rfl⟩
   ·have t1:decide ((100:Int)<(ps.length:Int)+(S.length:Int)+1-((b1:Int)+1)/2)=false:=aP h1
    apply lr
    ·apply rk
     (walk_at "evs")
    apply dm
    ·(walk_at "evs")
    ·exact⟨_,_,rfl,b1,Me,hs1,rfl,rfl⟩
  rintro ρ bp ⟨b2,hb2,hs2,rfl,rfl⟩
  apply ba
  ·(walk_at "evs")
  obtain⟨S',k,x,jq,hlen'⟩:=St.ex (n:=ps.length) hb2 hs2
  by_cases h1:(ps.length:Int)+(S.length:Int)+1-((b2:Int)+1)/2<=100
  ·have t1:decide ((ps.length:Int)+(S.length:Int)+1-((b2:Int)+1)/2<=100)=true:=a9 h1
   have em:=Al pool hp (d/4%16) (st++[aq.lst (ps.map Pl.w)])
   have hm:=Lv hp (d/4%16)
   generalize Ax (ng pool (d/4%16))=m at em hm
   have ap:=qN (y:=(Pl.mk b2 m).w) hc (by rw[az];show _<1000000;omega)
   rw[ib]at ap
   have ap:eQ (.loc st.length) [.tup [.int b2,.str m]] (st++[aq.lst (ps.map Pl.w)])=_:=ap
   have isl:=jE hc
   apply ms
   ·(walk_at "evs")
   apply ba
   ·(walk_at "evs")
   apply dm
   ·(walk_at "evs")
   ·rw[show(S.length:Int)+1-((b2:Int)+1)/2=(S'.length:Int) by omega]
    exact⟨_,_,rfl,ps++[⟨b2,m⟩],S',sz++[k],lk++[x],_,_,_,rfl,by simp,.snoc hg jq,by simp;omega,fun p hp'=>(aZ.mp hp').elim (hmm p) fun q=>by rw[aG.mp q];exact hm⟩
  ·have t1:decide ((ps.length:Int)+(S.length:Int)+1-((b2:Int)+1)/2<=100)=false:=aP h1
   apply lr
   ·(walk_at "evs")
   apply dm
   ·(walk_at "evs")
   ·exact⟨_,_,rfl,ps,S,sz,lk,_,_,_,rfl,rfl,hg,iR,hmm⟩
 ·rintro ρ bp ⟨ps,S,sz,lk,o5,o6,o7,rfl,rfl,hg,iR,hmm⟩
  refine Ac (fun n ρ bp=>∃(ps:List Pl) (S sz:List Nat) (lk:List (Option Nat×Option Nat)),ρ=[some (.loc nd),some (.str pool),some (.int 100),some (.loc st.length),some (.int S.length),o5,o6,o7]/\bp=st++[.lst (ps.map Pl.w)]/\Gr ps S sz lk/\ps.length+S.length<=101/\S.length=n/\∀p∈ps,CG pool p.m) S.length ⟨ps,S,sz,lk,rfl,rfl,hg,iR,rfl,hmm⟩ ?_ ?_
  ·rintro n ρ bp ⟨ps,S,sz,lk,rfl,rfl,hg,iR,rfl,hmm⟩
   by_cases h1:1<S.length
   ·refine .inr ?_
    have t1:decide ((1:Int)<(S.length:Int))=true:=a9 (by omega)
    constructor
    ·(walk_at "evs")
    obtain⟨l1,l2,ha⟩:=hg.ok
    have hSle:=ha.le
    obtain⟨S',k,x,jq,hlen'⟩:=St.ex (n:=ps.length) (b:=3) (S:=S) (by omega) (by omega)
    have hc:(st++[aq.lst (ps.map Pl.w)])[st.length]?=some (.lst (ps.map Pl.w)):=by rw[cY];rfl
    obtain⟨p,hpp⟩:∃p,ps[S.length-1]?=some p:=⟨ps[S.length-1]'(by omega),by simp⟩
    have i1:d8 (.loc st.length) (.int ((S.length:Int)-1)) (st++[aq.lst (ps.map Pl.w)])=.ok p.w (st++[aq.lst (ps.map Pl.w)]):=by
     rw[show(S.length:Int)-1=((S.length-1:Nat):Int) by omega]
     exact jR (bR hc) (jo (by simp[hpp]))
    have i2:=CC p (st++[aq.lst (ps.map Pl.w)])
    have ap:=qN (y:=(Pl.mk 3 p.m).w) hc (by rw[az];show _<1000000;omega)
    rw[ib]at ap
    have ap:eQ (.loc st.length) [.tup [.int 3,.str p.m]] (st++[aq.lst (ps.map Pl.w)])=_:=ap
    have isl:=jE hc
    apply ba
    ·(walk_at "evs")
    apply dm
    ·(walk_at "evs")
    ·rw[show(S.length:Int)-1=(S'.length:Int) by omega]
     exact⟨_,_,rfl,S'.length,by omega,ps++[⟨3,p.m⟩],S',sz++[k],lk++[x],rfl,by simp,.snoc hg jq,by simp;omega,rfl,fun p' hp'=>(aZ.mp hp').elim (hmm p') fun q=>by rw[aG.mp q];exact hmm p (bV hpp)⟩
   ·refine .inl ?_
    have t1:decide ((1:Int)<(S.length:Int))=false:=aP (by omega)
    (walk_at "evs")
  ·rintro n ρ bp ⟨ps,S,sz,lk,rfl,rfl,hg,iR,rfl,hmm⟩ ht
   have hS1:S.length<=1:=by
    by_cases h1:1<S.length
    ·exfalso
     have t1:decide ((1:Int)<(S.length:Int))=true:=a9 (by omega)
     have:iJ (e2 Fw (aw 4) (eI 1)) [some (.loc nd),some (.str pool),some (.int 100),some (.loc st.length),some (.int S.length),o5,o6,o7] (st++[.lst (ps.map Pl.w)])=.ok true (st++[.lst (ps.map Pl.w)]):=by(walk_at "evs")
     rw[this]at ht;cases ht
    ·omega
   obtain⟨l1,l2,ha⟩:=hg.ok
   have hc:(st++[aq.lst (ps.map Pl.w)])[st.length]?=some (.lst (ps.map Pl.w)):=by rw[cY];rfl
   have h100:ps.length<=100:=by
    cases S with
    |nil=>have:ps.length=0:=ha;omega
    |cons a S=>simp at iR;omega
   apply eA
   ·(repeat' (first|with_reducible exact kR (bR hc)|walk_at "ev1"))
   ·exact⟨_,_,rfl,⟨_,rfl⟩,by simp only[undWs,gQ];exact s_ ps _,ps,S,sz,lk,rfl,hg,h100,hS1,hmm⟩
abbrev NB:List Nat:=[114,101,102,117,115,101,100]
abbrev Mb:List Nat:=[116,111,108,100]
def CO(a b:Bool):W:=.tup [.bl true,.bl false,.bl false,.bl a,.bl false,.bl b,.bl false,.bl false,.bl false,.bl false]
def CP(a b:Bool):W:=.tup [.str NB,CO a b]
theorem CQ{ρ ρ':cn}{st st1 cP:List aq}{g gh:FS}{cs:List Str}{i:Nat}{c:Str}{w:W}(h:g ρ st=.ex c ρ' st1)(hc:c∈cs)(h2:gh (ρ'.set i (some (.loc st1.length))) (st1++[.exc c])=.rt w cP):xG g cs i gh ρ st=.rt w cP:=by
 unfold xG;rw[h];simp only;rw[am hc,h2];rfl
theorem CS{st:List aq}{n:Nat}{c:Str}{a b:Bool}(h:st[n]?=some (.exc c))(hv:f_ c=some true)(h1:jP c=some false)(h2:fE c=some false)(h3:i5 c=some a)(h4:ie c=some false)(h5:ig c=some b)(h6:jO c=some false)(h7:jN c=some false)(h8:fF c=some false)(h9:fG c=some false) :
  uz [.loc n] st=.ok (CO a b) st:=by
 refine gI (N:=2) (ws:=[.loc n]) (body:=F_) ?_ rfl
 have iE:∀{f:Str->Option Bool} {k:Bool} {ρ:cn} {x:List aq},ρ[0]?=some (some (.loc n))->f c=some k->m9 f (aw 0) ρ (st++x)=.ok (.bl k) (st++x):=fun h' hf=>FW (gF h') (dF h) hf
 have iE0:∀{f:Str->Option Bool} {k:Bool} {ρ:cn},ρ[0]?=some (some (.loc n))->f c=some k->m9 f (aw 0) ρ st=.ok (.bl k) st:=fun h' hf=>FW (gF h') h hf
 apply ba
 ·exact eT (qM (aE (iE0 rfl hv) (aE (iE0 rfl h1) (aE (iE0 rfl h2) b9))) (aU rfl))
 have c1:(st++[aq.lst [.bl true,.bl false,.bl false]]++[aq.lst [.bl a,.bl false,.bl b]])[st.length]?=some (.lst [.bl true,.bl false,.bl false]):=dF (by rw[cY];rfl)
 have c2:(st++[aq.lst [.bl true,.bl false,.bl false]]++[aq.lst [.bl a,.bl false,.bl b]])[(st++[aq.lst [.bl true,.bl false,.bl false]]).length]?=some (.lst [.bl a,.bl false,.bl b]):=by rw[cY];rfl
 have a1:=u9 c1 c2 (aU rfl)
 apply ba
 ·exact eT (dM kv (qM (aE (iE rfl h3) (aE (iE rfl h4) (aE (iE rfl h5) b9))) (aU rfl)) a1)
 obtain⟨G,hG⟩:∃G,st++[aq.lst [.bl true,.bl false,.bl false]]++[aq.lst [.bl a,.bl false,.bl b]]++[aq.lst ([.bl true,.bl false,.bl false]++[.bl a,.bl false,.bl b])]=st++G:=⟨[aq.lst [.bl true,.bl false,.bl false],aq.lst [.bl a,.bl false,.bl b],aq.lst ([.bl true,.bl false,.bl false]++[.bl a,.bl false,.bl b])],by simp⟩
 have cG:(st++G)[(st++[aq.lst [.bl true,.bl false,.bl false]]++[aq.lst [.bl a,.bl false,.bl b]]).length]?=some (.lst [.bl true,.bl false,.bl false,.bl a,.bl false,.bl b]):=by rw[<- hG,cY];rfl
 rw[hG]
 generalize (st++[aq.lst [W.bl true,.bl false,.bl false]]++[aq.lst [.bl a,.bl false,.bl b]]).length=N1 at cG
 have c3:(st++G++[aq.lst [.bl false,.bl false,.bl false]])[N1]?=some (.lst [.bl true,.bl false,.bl false,.bl a,.bl false,.bl b]):=dF cG
 have c4:(st++G++[aq.lst [.bl false,.bl false,.bl false]])[(st++G).length]?=some (.lst [.bl false,.bl false,.bl false]):=by rw[cY];rfl
 have a2:=u9 c3 c4 (aU rfl)
 apply ba
 ·exact eT (dM kv (qM (aE (iE rfl h6) (aE (iE rfl h7) (aE (iE rfl h8) b9))) (aU rfl)) a2)
 have c5:(st++G++[aq.lst [.bl false,.bl false,.bl false]]++[aq.lst ([.bl true,.bl false,.bl false,.bl a,.bl false,.bl b]++[.bl false,.bl false,.bl false])])[(st++G++[aq.lst [W.bl false,.bl false,.bl false]]).length]?=some (.lst [.bl true,.bl false,.bl false,.bl a,.bl false,.bl b,.bl false,.bl false,.bl false]):=by rw[cY];rfl
 obtain⟨G2,hG2⟩:∃G2,st++G++[aq.lst [.bl false,.bl false,.bl false]]++[aq.lst ([.bl true,.bl false,.bl false,.bl a,.bl false,.bl b]++[.bl false,.bl false,.bl false])]=st++G2:=⟨G++[aq.lst [.bl false,.bl false,.bl false],aq.lst ([.bl true,.bl false,.bl false,.bl a,.bl false,.bl b]++[.bl false,.bl false,.bl false])],by simp⟩
 rw[hG2]at c5 ⊢
 have hge:st.length<=(st++G++[aq.lst [W.bl false,.bl false,.bl false]]).length:=by simp<;>omega
 generalize (st++G++[aq.lst [W.bl false,.bl false,.bl false]]).length=N2 at c5 hge
 obtain⟨j,rfl⟩:∃j,N2=st.length+j:=⟨N2-st.length,by omega⟩
 have ap:=qN (y:=.bl false) c5 (by show _<1000000;simp)
 rw[sM]at ap
 have hj:j<G2.length:=by have:=(al.mp c5).1;simp at this;omega
 have c6:(st++G2.set j (.lst ([.bl true,.bl false,.bl false,.bl a,.bl false,.bl b,.bl false,.bl false,.bl false]++[.bl false])))[st.length+j]?=some (.lst [.bl true,.bl false,.bl false,.bl a,.bl false,.bl b,.bl false,.bl false,.bl false,.bl false]):=by rw[rj];simp[hj]
 apply ba
 ·exact m_ (Ab kv (jE c5) (aE (iE rfl h9) b9) ap)
 apply eA
 ·exact eu kn (kR (bR c6))
 ·exact⟨_,_,rfl,rfl,_,rfl⟩
theorem x6(a:Nat)(st:List aq):uA [.int a] st=.ok (.tup [.str NB,.tup ((dh 0 10).map fun w=>.bl (ji w==0||ji w==a))]) st:=by
 have hc:ia [none,some 0] (dk (ax (eI 10) a6)) (m6 0) Bq (Hk (e2 mV (aw 0) (eI 0)) (e2 mV (aw 0) (aw 1))) [some (.int a)] st=.ok (.loc st.length) (st++[.lst ((dh 0 10).map fun w=>.bl (ji w==0||ji w==a))]):=by
  refine EN (ws:=dh 0 10) (ck:=none) (fun w=>.bl (ji w==0||ji w==a)) (jS (q:=10) (aE dR b9) (by omega)) (by rw[fO];decide) trivial fun w hw=>?_
  obtain⟨i,hi,rfl⟩:=nN hw
  refine⟨[some (.int (0+(i:Int))),some (.int a)],rfl,?_⟩
  have e1:(0+(i:Int)==0)=(i==0):=by rw[gY,dv,dv];omega
  have e2:(0+(i:Int)==(a:Int))=(i==a):=by rw[gY,dv,dv];omega
  have ei:ji (.int (0+(i:Int)))=i:=by simp[ji]
  simp only[ei]
  cases h0:(i==0)with
  |true=>exact HY (dM kv dR (ic (by rw[e1,h0])))
  |false=>
   rw[k6]
   exact HX (dM kv dR (ic (by rw[e1,h0]))) (dM kv kv (ic e2))
 refine gI (N:=1) (ws:=[.int a]) (body:=F') ?_ rfl
 apply eA
 ·exact pE (aE dR (aE (eu (aE hc b9) (kR (bR (by rw[cY];rfl)))) b9)) (aU rfl)
 ·exact⟨_,_,rfl,rfl,_,rfl⟩
theorem uE{f:FG}{body:FS}{ck:Option (Nat×List W)}(I:Nat->cn->List aq->Prop){Pr:RS->Prop}:∀{ws:List W} {ρ:cn} {st:List aq} (i0 k:Nat) (w:W),ws[k]?=some w->I i0 ρ st->(∀i ρ st,I i ρ st->iM st ck) ->
  (∀i w ρ st,i<k->ws[i]?=some w->I (i0+i) ρ st->∃ρ' ρ2 cP,f w ρ=some ρ'/\body ρ' st=.nx ρ2 cP/\I (i0+i+1) ρ2 cP) ->
  (∀ρ st,I (i0+k) ρ st->∃ρ',f w ρ=some ρ'/\((∃v s,body ρ' st=.rt v s/\Pr (.rt v s))\/(∃c r s,body ρ' st=.ex c r s/\Pr (.ex c r s))\/∃r s,body ρ' st=.bk r s/\Pr (.nx r s))) ->
  Pr (pq f body ck ws ρ st)
 |[],ρ,st,i0,k,w,hw,h0,hc,hs,hx=>by simp at hw
 |x::ws,ρ,st,i0,0,w,hw,h0,hc,hs,hx=>by
  have:x=w:=by simpa using hw
  subst this
  obtain⟨ρ',e1,h⟩:=hx ρ st h0
  unfold pq
  rw[am (hc _ _ _ h0),e1]
  rcases h with⟨v,s,e,p⟩|⟨c,r,s,e,p⟩|⟨r,s,e,p⟩<;>simp only[e]<;>exact p
 |x::ws,ρ,st,i0,k+1,w,hw,h0,hc,hs,hx=>by
  obtain⟨ρ',ρ2,cP,e1,e2,h1⟩:=hs 0 x ρ st (Nat.succ_pos _) rfl h0
  have:=uE I (Pr:=Pr) (ws:=ws) (ρ:=ρ2) (st:=cP) (i0+1) k w (by simpa using hw) h1 hc (fun i w ρ st hi hw hI=>by
   obtain⟨a,b,c,d,e,g⟩:=hs (i+1) w ρ st (by omega) (by simpa using hw) (by rw[show i0+(i+1)=i0+1+i by omega];exact hI)
   exact⟨a,b,c,d,e,by rw[show i0+1+i+1=i0+(i+1)+1 by omega];exact g⟩) (fun ρ st hI=>hx ρ st (by rw[show i0+(k+1)=i0+1+k by omega];exact hI))
  unfold pq
  rw[am (hc _ _ _ h0),e1]
  simp only[e2]
  exact this
theorem CT{ρ:cn}{st st1:List aq}{P:RS->Prop}{eS:FS}{fi:FI}{f:FG}{body:FS}{kw:zL}(I:Nat->cn->List aq->Prop)(k:Nat)(w:W)(h:fi ρ st=.ok kw st1)(hw:kw.1[k]?=some w)(h0:I 0 ρ st1)(hc:∀i ρ st,I i ρ st->iM st kw.2)
  (hs:∀i w ρ st,i<k->kw.1[i]?=some w->I i ρ st->∃ρ',f w ρ=some ρ'/\kD (Jt (I (i+1))) (body ρ' st))
  (hx:∀ρ st,I k ρ st->∃ρ',f w ρ=some ρ'/\((∃v s,body ρ' st=.rt v s/\P (.rt v s))\/(∃c r s,body ρ' st=.ex c r s/\P (.ex c r s))\/∃r s,body ρ' st=.bk r s/\kD P (eS r s))):kD P (bG (p_ fi f body) eS ρ st):=by
 have:=uE (f:=f) (body:=body) (ck:=kw.2) I (Pr:=fun r=>(∃v s,r=.rt v s/\P (.rt v s))\/(∃c q s,r=.ex c q s/\P (.ex c q s))\/∃q s,r=.nx q s/\kD P (eS q s)) (ws:=kw.1) (ρ:=ρ) (st:=st1) 0 k w hw h0 hc (fun i w ρ st hi hw hI=>by
  rw[fT]at hI ⊢
  obtain⟨ρ',e1,ρ2,cP,e2,h2⟩:=hs i w ρ st hi hw hI
  exact⟨ρ',ρ2,cP,e1,e2,h2⟩) (fun ρ st hI=>by
  rw[fT]at hI
  obtain⟨ρ',e1,h⟩:=hx ρ st hI
  refine⟨ρ',e1,?_⟩
  rcases h with⟨v,s,e,p⟩|⟨c,r,s,e,p⟩|⟨r,s,e,p⟩
  ·exact .inl ⟨v,s,e,.inl ⟨_,_,rfl,p⟩⟩
  ·exact .inr (.inl ⟨c,r,s,e,.inr (.inl ⟨_,_,_,rfl,p⟩)⟩)
  ·exact .inr (.inr ⟨r,s,e,.inr (.inr ⟨_,_,rfl,p⟩)⟩))
 rw[<- y6 h]at this
 rcases this with⟨v,s,e,p⟩|⟨c,r,s,e,p⟩|⟨r,s,e,p⟩
 ·rw[u8 e];exact p
 ·exact xS e p
 ·exact ba e p
theorem CU(c s:Int)(m:Nat)(hm:m<=1000)(st:List aq):∃q:Nat,q<=m+7/\Ag [.int c,.int s,.int m] st=.ok (.int q) st:=by
 suffices hh:kD (Du fun w bp=>(∃x,bp=st++x)/\undWs st.length [w]=true/\∃q:Nat,w=.int q/\q<=m+7) (Lp ([W.int c,.int s,.int m].map some++List.replicate (5-3) none) st) by
  obtain⟨w,⟨q,rfl,h1⟩,e⟩:=rB hh
  exact⟨q,h1,e⟩
 obtain⟨ds,hl,hp,e1⟩:=lu c s 3 (by omega) st
 have e1:nR [.int c,.int 3,.int s] st=_:=e1
 obtain⟨d0,d1,d2,rfl⟩:∃d0 d1 d2,ds=[d0,d1,d2]:=by
  match ds,hl with
  |[d0,d1,d2],_=>exact⟨_,_,_,rfl⟩
 have hc:(st++[aq.lst ([d0,d1,d2].map W.int)])[st.length]?=some (.lst ([d0,d1,d2].map W.int)):=by rw[cY];rfl
 have i0:d8 (.loc st.length) (.int 0) (st++[aq.lst ([d0,d1,d2].map W.int)])=.ok (.int d0) (st++[aq.lst ([d0,d1,d2].map W.int)]):=jR (bR hc) rfl
 have i1:d8 (.loc st.length) (.int 1) (st++[aq.lst ([d0,d1,d2].map W.int)])=.ok (.int d1) (st++[aq.lst ([d0,d1,d2].map W.int)]):=jR (bR hc) rfl
 have i2:d8 (.loc st.length) (.int 2) (st++[aq.lst ([d0,d1,d2].map W.int)])=.ok (.int d2) (st++[aq.lst ([d0,d1,d2].map W.int)]):=jR (bR hc) rfl
 apply ba
 ·(walk_at "evs")
 obtain⟨q,hq,eq⟩:=nM (q:=d0+64*d1) (n:=m+1) (by omega)
 have eq:(d0+64*d1)%((m:Int)+1)=(q:Int):=eq
 have pm:(0:Int)<(m:Int)+1:=by omega
 have mm:Eh 64 d1:=.inl (by decide)
 apply ba
 ·(walk_at "evs")
  all_goals first|exact mm|exact pm
 rw[eq]
 by_cases h3:d2%3=0
 ·have t3:(d2%3==0)=true:=dv.mpr h3
  obtain⟨q7,hq7,eq7⟩:=nM (q:=(q:Int)) (n:=7) (by omega)
  have eq7:(q:Int)%7=(q7:Int):=eq7
  apply f9
  ·(walk_at "evs")
  apply fK
  ·(walk_at "evs")
  ·exact⟨_,_,rfl,⟨_,rfl⟩,rfl,q7,by rw[eq7],by omega⟩
 ·have t3:(d2%3==0)=false:=cQ.mpr h3
  apply dI
  ·(walk_at "evs")
  apply eK
  apply eA
  ·(walk_at "evs")
  ·exact⟨_,_,rfl,⟨_,rfl⟩,rfl,q,rfl,by omega⟩
theorem x8(st:List aq):sW [] st=.ok (.str LL) st:=by
 refine gI (N:=0) (ws:=[]) (body:=Ga) ?_ rfl
 apply eA
 ·exact dR
 ·exact⟨_,_,rfl,rfl,[],by simp⟩
def Ex(st z:List aq):Prop:=∃x,z=st++x
theorem Ex.app{st z y:List aq}(h:Ex st z):Ex st (z++y):=by
 obtain⟨x,rfl⟩:=h
 exact⟨x++y,aY _ _ _⟩
theorem IS{fb fm:FE}{v:Nat}{ρ:cn}{z:List aq}{t:List Pl}{q b:Nat}{m:List Nat}(h0:ρ[0]?=some (some (gg t)))(hv:ρ[v]?=some (some (.int (q:Nat))))(hq:q<t.length)(hl:t.length<=100)(hb:fb ρ z=.ok (.int (b:Nat)) z)(hm:fm ρ z=.ok (.str m) z) :
  e2 eh (e2 eh (Bi (aw 0) nX (mW (aw v))) (mB (ax (mB (ax fb (ax fm a6))) a6))) (Bi (aw 0) (mW (e2 eh (aw v) (eI 1))) nX) ρ z=.ok (gg (t.take q++[⟨b,m⟩]++t.drop (q+1))) z:=by
 have s1:=IP (a:=t) (q:=q) (by omega) z
 have s2:=IQ (a:=t) (q:=q+1) (by omega) z
 have hx:mB (ax (mB (ax fb (ax fm a6))) a6) ρ z=.ok (gg [⟨b,m⟩]) z:=pE (aE (pE (aE hb (aE hm b9)) (aU rfl)) b9) (aU rfl)
 exact dM (dM (BX (gF h0) BV (BW (gF hv)) s1) hx (CD _ _ (by simp;omega) z)) (BX (gF h0) (BW (dM (gF hv) dR qo)) BV s2) (CD _ _ (by simp;omega) z)
theorem Lx(t:List Pl)(n:Nat):undWs n [gg t]=true:=by unfold undWs;rw[s_];rfl
theorem E2{fe:FE}{t:FT}{cap:List (Option Nat)}{ρ:cn}{st st1:List aq}{l:List Nat}(T:Nat->Bool)(h:fe ρ st=.ok (.str l) st1)(hl:l.length<=10000)(h0:0<cap.length)
  (ht:∀c∈l,t ((qc cap ρ).set 0 (some (.str [c]))) st1=.ok (T c) st1) :
  ia cap (iN fe) (m6 0) t (aw 0) ρ st=.ok (.loc st1.length) (st1++[.lst (((l.filter T).map fun c=>[c]).map W.str)]):=by
 have cg:=sP (cap:=cap) (ρ:=ρ) (st:=st) (st1:=st1) (f:=m6 0) (t:=t) (el:=aw 0) (fun w=>match w with|.str [c]=>T c|_=>false) id (EV h) (by rw[Ai];show _<=1000000;omega) trivial fun w hw=>by
  obtain⟨c,hc,rfl⟩:=bC.mp hw
  exact⟨_,rfl,ht c hc,fun _=>gF (by rw[bM (by simp[qc];exact h0)];rfl)⟩
 have e:((jn l).filter (fun w=>match w with|.str [c]=>T c|_=>false)).map id=((l.filter T).map fun c=>[c]).map W.str:=by
  rw[ij]
  unfold jn
  rw[jw,bb];rfl
 rwa[e]at cg
theorem CV{fa:FE}{n:Nat}{ws:List W}(h:fa ρ st=.ok (.loc n) st1)(h1:lstOf st1 n=some ws)(hl:ws.length<=jQ):v7 fa ρ st=.ok (.loc st1.length) (st1++[.lst ws.reverse]):=by
 unfold v7;rw[h];simp only[R.bind_ok,h1,kr];rw[am (by rw[fz];exact hl)]
abbrev Ju(m:List Nat):Prop:=m.Pairwise (· < ·)/\∀d∈m,d∈LL
theorem Ju.size{m:List Nat}(h:Ju m):m.length<=52:=kP (h.1.imp fun h=>aK h) h.2
def Wm(t:List Pl):Prop:=t.length<=100/\∀p∈t,Ju p.m
theorem Wm.gd{t:List Pl}(h:Wm t):NA t:=fun p hp=>⟨by have:=(h.2 p hp).size;omega,(h.2 p hp).2⟩
theorem Wm.put{t:List Pl}{q b:Nat}{m:List Nat}(h:Wm t)(hq:q<t.length)(hm:Ju m):Wm (t.take q++[⟨b,m⟩]++t.drop (q+1)):=by
 refine⟨?_,fun p hp=>?_⟩
 ·have:=h.1
  simp only[aJ,aQ,bO,eR];omega
 ·rcases aZ.mp hp with hp|hp
  ·rcases aZ.mp hp with hp|hp
   ·exact h.2 p (gA hp)
   ·rw[aG.mp hp];exact hm
  ·exact h.2 p (fj hp)
theorem IT(T:W->Bool):Ju (jz [] (((dh 0 52).filter T).map fun w=>[LL.getD (ji w) 0])):=by
 have e:(((dh 0 52).filter T).map fun w=>[LL.getD (ji w) 0])=(((List.range 52).filter fun i:Nat=>T (.int (0+(i:Int)))).map fun i=>LL.getD i 0).map fun c=>[c]:=by
  unfold dh
  rw[jw,bb,bb]
  refine cw fun k _=>?_
  simp[ji]
 rw[e,qw]
 have hs:(((List.range 52).filter fun i:Nat=>T (.int (0+(i:Int)))).map fun i=>LL.getD i 0).Sublist LL:=by
  have h:((List.range 52).map fun i=>LL.getD i 0)=LL:=by decide
  conv=>rhs;rw[<- h]
  exact List.Sublist.map _ List.filter_sublist
 exact⟨iX hs (by decide),fun d hd=>hs.subset hd⟩
theorem Am{t:List Pl}(h:Wm t)(c s:Int)(st:List aq):∃t',Wm t'/\wB [gg t,.int c,.int s] st=.ok (gg t') st:=by
 suffices hh:kD (Du fun w bp=>(∃x,bp=st++x)/\undWs st.length [w]=true/\∃t',w=gg t'/\Wm t') (Gb ([gg t,.int c,.int s].map some++List.replicate (6-3) none) st) by
  obtain⟨w,⟨t',rfl,h1⟩,e⟩:=rB hh
  exact⟨t',h1,e⟩
 have hl:=h.1
 obtain⟨ds,dl,hp,e1⟩:=lu c s 55 (by omega) st
 have e1:nR [.int c,.int 55,.int s] st=_:=e1
 apply ba
 ·(walk_at "evs")
 obtain⟨z,hz⟩:∃z,z=st++[aq.lst (ds.map W.int)]:=⟨_,rfl⟩
 have hc:z[st.length]?=some (.lst (ds.map W.int)):=by rw[hz,cY];rfl
 rw[<- hz]
 have Az:∀i:Nat,i<55->d8 (.loc st.length) (.int i) z=.ok (.int (ds.getD i 0)) z:=fun i hi=>jR (bR hc) (jo (by rw[aL,af (by omega),aI,af (by omega)];rfl))
 have i0:d8 (.loc st.length) (.int 0) z=_:=Az 0 (by omega)
 have i1:d8 (.loc st.length) (.int 1) z=_:=Az 1 (by omega)
 have i2:d8 (.loc st.length) (.int 2) z=_:=Az 2 (by omega)
 have ln:=lW t z
 have stay:∀w,w=gg t->(Du fun w bp=>(∃x,bp=st++x)/\undWs st.length [w]=true/\∃t',w=gg t'/\Wm t') (.rt w z):=by
  rintro w rfl
  exact⟨_,_,rfl,⟨_,hz⟩,Lx _ _,t,rfl,h⟩
 by_cases h0:t.length=0
 ·have t1:((t.length:Int)==0)=true:=dv.mpr (by omega)
  apply f9
  ·exact rl (dW (dM (eu kn ln) dR (ic t1)))
  apply fK
  ·exact gF rfl
  ·exact stay _ rfl
 have t1:((t.length:Int)==0)=false:=cQ.mpr (by omega)
 have tt:∀k,(ds.getD 0 0%8 != 3)=k->A_ (iJ (e2 mV (cT gn (ax (aw 0) a6)) (eI 0))) (iJ (e2 Bh (e2 gl (e2 d8 (aw 3) (eI 0)) (eI 8)) (eI 3))) [some (gg t),some (.int c),some (.int s),some (.loc st.length),none,none] z=.ok k z:=fun k hk=>
  kC (dW (dM (eu kn ln) dR (ic t1))) (dW (dM (dM (dM kv dR i0) dR (jF (by decide))) dR (FU hk)))
 cases h8:(ds.getD 0 0%8 != 3)with
 |true=>
  apply f9
  ·exact tt _ h8
  apply fK
  ·exact gF rfl
  ·exact stay _ rfl
 |false=>
  apply dI
  ·exact tt _ h8
  apply eK
  obtain⟨q,hq,eq⟩:=nM (q:=ds.getD 1 0+64*ds.getD 2 0) (n:=t.length) (by omega)
  apply ba
  ·exact eT (dM (dM (dM kv dR i1) (dM dR (dM kv dR i2) (BZ (.inl (by decide)))) qo) (eu kn ln) (jF (by show(0:Int)<_;omega)))
  rw[eq]
  obtain⟨p,hpp⟩:∃p,t[q]?=some p:=⟨_,af hq⟩
  let T:W->Bool:=fun w=>ds.getD (3+ji w) 0%2==1
  let yl:W->List Nat:=fun w=>[LL.getD (ji w) 0]
  obtain⟨ls,hls⟩:∃ls,ls=((dh 0 52).filter T).map yl:=⟨_,rfl⟩
  have eZ:ls.length<=52:=by
   rw[hls,az]
   refine aA (b6 _ _) ?_
   rw[fO];exact ah _
  have hone:∀x∈ls,x.length=1:=by
   rw[hls];intro x hx
   obtain⟨w,_,rfl⟩:=bC.mp hx;rfl
  have hsum:∀l:List (List Nat),(∀x∈l,x.length=1)->(l.map List.length).sum=l.length:=by
   intro l
   induction l with
   |nil=>intro;rfl
   |cons x r ih=>
    intro h
    simp only[a7,k_,cr]
    rw[h x (by simp),ih fun y hy=>h y (by simp[hy])];omega
  have hss:=hsum ls hone
  have hcm:ia [none,some 3] (dk (ax (eI 52) a6)) (m6 0) (iJ (e2 mV (e2 gl (e2 d8 (aw 1) (e2 eh (eI 3) (aw 0))) (eI 2)) (eI 1))) (e2 d8 (eJ 0 sW a6) (aw 0)) [some (gg t),some (.int c),some (.int s),some (.loc st.length),some (.int q),none] z=.ok (.loc z.length) (z++[.lst (ls.map W.str)]):=by
   have:=sP (fi:=dk (ax (eI 52) a6)) (f:=m6 0) (t:=iJ (e2 mV (e2 gl (e2 d8 (aw 1) (e2 eh (eI 3) (aw 0))) (eI 2)) (eI 1))) (el:=e2 d8 (eJ 0 sW a6) (aw 0)) (cap:=[none,some 3]) (ρ:=[some (gg t),some (.int c),some (.int s),some (.loc st.length),some (.int q),none]) (st:=z) (st1:=z) (ws:=dh 0 52) (ck:=none) T (fun w=>.str (yl w))
    (jS (q:=52) (aE dR b9) (by decide)) (by rw[fO];exact aU rfl) trivial ?_
   ·rw[this,hls,bb];rfl
   ·intro w hw
    obtain⟨i,hi,rfl⟩:=nN hw
    have ei:ji (.int (0+(i:Int)))=i:=by simp[ji]
    have g:d8 (.loc st.length) (.int (3+(0+(i:Int)))) z=.ok (.int (ds.getD (3+i) 0)) z:=by
     have:=Az (3+i) (by omega)
     rw[show((3+i:Nat):Int)=3+(0+(i:Int)) by omega]at this
     exact this
    refine⟨[some (.int (0+(i:Int))),some (.loc st.length)],rfl,?_,fun _=>?_⟩
    ·exact dW (dM (dM (dM kv (dM dR kv qo) g) dR (jF (by decide))) dR (ic (by show _=(ds.getD (3+ji (.int (0+(i:Int)))) 0%2==1);rw[ei])))
    ·refine dM (dA (ws:=[]) b9 (x8 z) rfl) kv ?_
     rw[show((0:Int)+(i:Int))=(i:Int) by omega]
     have e2:qS LL (i:Int)=some (LL.getD i 0):=jo (by rw[aI,af (show i<LL.length from hi)];rfl)
     rw[y9 (aU rfl) e2]
     simp[yl,ji]
  have eU:lstOf (z++[aq.lst (ls.map W.str)]) z.length=some (ls.map W.str):=bR (by rw[cY];rfl)
  have hj:=xR (sep:=[]) eU (by rw[hss];show _<=1000000;simp;omega)
  apply ba
  ·exact eT (EM dR rfl (aE hcm b9) hj)
  apply eA
  ·exact IS (b:=p.b) rfl rfl hq hl (dM (dM kv kv (CB hpp _)) dR (IN p _)) kv
  ·exact⟨_,_,rfl,⟨_,by rw[hz,aY]⟩,Lx _ _,_,rfl,h.put hq (by rw[hls];exact IT T)⟩
theorem CW(q:Nat):∀L:List Nat,p9 (.int q) (nW L)=some (decide (q∈L))
 |[]=>rfl
 |a::r=>by
  show p9 (.int q) (.int (a:Nat)::nW r)=_
  unfold p9
  rw[CW q r]
  show some (((a:Int)==(q:Int))||decide (q∈r))=_
  congr 1
  by_cases h1:(a:Int)=(q:Int)
  ·have h2:a=q:=by omega
   subst h2
   rw[beq_self_eq_true,Bool.true_or,a9 (bX ..)]
  ·rw[cQ.mpr h1,k6]
   exact decide_eq_decide.mpr ⟨aW _,fun z=>(aC.mp z).resolve_left fun e=>h1 (by rw[e])⟩
theorem CY:∀L:List Nat,depWs (nW L)<=63
 |[]=>by show depWs []<=63;unfold depWs;exact br _
 |a::r=>by
  have:=CY r
  show depWs (.int (a:Nat)::nW r)<=63
  unfold depWs W.dep
  omega
theorem Gh{st:List aq}{n q:Nat}{L:List Nat}(h:st[n]?=some (.lst (nW L))):xy false (.int q) (.loc n) st=.ok (.bl (decide (q∈L))) st:=by
 unfold xy
 simp only[h,CW]
 rw[am (CY L)];rfl
theorem E3{m:List Nat}(h:Ju m)(c:Nat)(b:Bool):Ax (if b=true then(m.filter fun d=>d != c)++[c]else m.filter fun d=>d != c)=if b=true then ix ((m.filter fun d=>d != c)++[c])else m.filter fun d=>d != c:=by
 have h1:(m.filter fun d=>d != c).Pairwise (· < ·):=h.1.filter _
 cases b with
 |false=>
  simp only[bY,cA]
  rw[qx (h1.imp fun h=>aK h),xY h1]
 |true=>
  simp only[gD]
  refine qx (iC.mpr ⟨h1.imp fun h=>aK h,by simp,fun d hd e he=>?_⟩)
  rw[aG.mp he]
  exact bne_iff_ne.mp (dB.mp hd).2
theorem IU{t:List Pl}(h:Wm t){c L:Nat}{pl:List Nat}{st:List aq}(hL:st[L]?=some (.lst (nW pl))):wC [gg t,.str [c],.loc L] st=.ok (gg (qX t c fun j=>decide (j∈pl))) st:=by
 refine gI (N:=6) (ws:=[gg t,.str [c],.loc L]) (body:=Gc) ?_ (by simp only[undWs,gQ];exact s_ _ _)
 have hl:=h.1
 apply ba
 ·exact eT (qM b9 (by decide))
 refine lV (fun i ρ s=>∃(o4 o5:Option W),ρ=[some (gg t),some (.str [c]),some (.loc L),some (.loc st.length),o4,o5]/\∃x,s=st++.lst (((qX t c fun j=>decide (j∈pl)).take i).map Pl.w)::x)
  (jS (q:=(t.length:Int)) (st1:=st++[.lst []]) (aE (eu kn (lW t _)) b9) (by omega)) ⟨none,none,rfl,[],by rw[j9];rfl⟩ (fun _ _ _ _=>trivial) ?_ ?_
 ·rintro i w ρ s hw ⟨o4,o5,rfl,x,rfl⟩
  obtain⟨hi,rfl⟩:=qp hw
  have hi:i<t.length:=by simpa using hi
  obtain⟨p,hp⟩:∃p,t[i]?=some p:=⟨_,af hi⟩
  have hm:=h.2 p (bV hp)
  have hsz:=hm.size
  rw[jJ]
  refine⟨_,rfl,?_⟩
  generalize hs:st++.lst (((qX t c fun j=>decide (j∈pl)).take i).map Pl.w)::x=s
  have hix:=CB hp
  have em:=E2 (fe:=e2 d8 (e2 d8 (aw 0) (aw 4)) (eI 1)) (t:=iJ (e2 Bh (aw 0) (aw 1))) (cap:=[none,some 1]) (ρ:=[some (gg t),some (.str [c]),some (.loc L),some (.loc st.length),some (.int (i:Nat)),o5]) (st:=s) (st1:=s) (l:=p.m) (fun d=>d != c)
   (dM (dM kv kv (hix s)) dR (CC p s)) (by omega) (by decide) (fun d _=>dW (dM kv kv (CI (by
    show(!([d]==[c]))=(d != c)
    rw[gY];simp))))
  apply ba
  ·exact Gf em rfl
  generalize hs1:s++[aq.lst (((p.m.filter fun d=>d != c).map fun c=>[c]).map W.str)]=s1
  have hc1:s1[s.length]?=some (.lst (((p.m.filter fun d=>d != c).map fun c=>[c]).map W.str)):=by rw[<- hs1];exact dD
  have hLs:s1[L]?=some (.lst (nW pl)):=by rw[<- hs1,<- hs];exact dF (dF hL)
  have hfl:(p.m.filter fun d=>d != c).length<=52:=aA (b6 _ _) hsz
  refine kE (fun ρ s2=>ρ=[some (gg t),some (.str [c]),some (.loc L),some (.loc st.length),some (.int (i:Nat)),some (.loc s.length)]/\s2=s++[aq.lst (((if decide (i∈pl)=true then(p.m.filter fun d=>d != c)++[c]else p.m.filter fun d=>d != c).map fun c=>[c]).map W.str)]) ?_ ?_
  ·by_cases hb:i∈pl
   ·have ap:=qN (y:=.str [c]) hc1 (by rw[az,az];show _<1000000;omega)
    apply ms
    ·exact dW (dM kv kv (by rw[Gh hLs,a9 hb]))
    apply dm
    ·exact m_ (Ab kv (jE hc1) kn ap)
    ·refine⟨_,_,rfl,rfl,?_⟩
     rw[<- hs1,ib,am (a9 hb),bH,bH];rfl
   ·apply lr
    ·exact dW (dM kv kv (by rw[Gh hLs,aP hb]))
    apply dm
    ·exact oB
    ·refine⟨_,_,rfl,rfl,?_⟩
     rw[au (fun z=>hb (gj z)),hs1]
  rintro ρ s2 ⟨rfl,rfl⟩
  have eZ:(if decide (i∈pl)=true then(p.m.filter fun d=>d != c)++[c]else p.m.filter fun d=>d != c).length<64:=by
   split
   ·rw[aJ,eR];omega
   ·omega
  have hdr:(qX t c fun j=>decide (j∈pl))[i]?=some (EZ c (fun j=>decide (j∈pl)) i p):=xZ hp c _
  have hpm:EZ c (fun j=>decide (j∈pl)) i p=⟨p.b,Ax (if decide (i∈pl)=true then(p.m.filter fun d=>d != c)++[c]else p.m.filter fun d=>d != c)⟩:=by rw[E3 hm];rfl
  generalize (if decide (i∈pl)=true then(p.m.filter fun d=>d != c)++[c]else p.m.filter fun d=>d != c)=ml at eZ hpm ⊢
  have ej:=ze (fe:=aw 5) (ρ:=[some (gg t),some (.str [c]),some (.loc L),some (.loc st.length),some (.int (i:Nat)),some (.loc s.length)]) (st:=s++[aq.lst ((ml.map fun c=>[c]).map W.str)]) kv (bR dD) eZ
  obtain⟨z,hz⟩:∃z,z=s++[aq.lst ((ml.map fun c=>[c]).map W.str)]++[aq.lst ((jh (ml.map fun c=>[c])).map W.str)]:=⟨_,rfl⟩
  rw[<- hz]at ej
  obtain⟨y,hy⟩:∃y,z=st++.lst (((qX t c fun j=>decide (j∈pl)).take i).map Pl.w)::y:=⟨x++[aq.lst ((ml.map fun c=>[c]).map W.str),aq.lst ((jh (ml.map fun c=>[c])).map W.str)],by rw[hz,<- hs];simp⟩
  have hcz:z[st.length]?=some (.lst (((qX t c fun j=>decide (j∈pl)).take i).map Pl.w)):=by rw[hy,cY];rfl
  have hsm:((((qX t c fun j=>decide (j∈pl)).take i).map Pl.w)).length<jQ:=by rw[az];have:=List.length_take_le i (qX t c fun j=>decide (j∈pl));show _<1000000;omega
  have hcs:(s++[aq.lst ((ml.map fun c=>[c]).map W.str)])[st.length]?=some (.lst (((qX t c fun j=>decide (j∈pl)).take i).map Pl.w)):=by rw[<- hs];exact dF (by rw[cY];rfl)
  apply dm
  ·exact m_ (Ab kv (jE hcs) (aE (pE (aE (dM (dM kv kv (hix _)) dR (IN p _)) (aE ej b9)) (aU rfl)) b9) (qN hcz hsm))
  ·refine⟨_,_,rfl,_,_,rfl,y,?_⟩
   rw[hy,ib,List.set_cons_zero,qv hdr,bH,hpm]
   rfl
 ·rintro ρ s ⟨o4,o5,rfl,x,rfl⟩
  rw[show(dh 0 (t.length:Int).toNat,(none:Option (Nat×List W))).1.length=t.length by rw[fO];simp,cf (by rw[pI];exact ah _)]
  apply eA
  ·exact eu kn (kR (bR (by rw[cY];rfl)))
  ·exact⟨_,_,rfl,rfl,_,rfl⟩
theorem oE{t:List Pl}(h:t.length<=100)(c:Nat)(st:List aq):uC [gg t,.str [c]] st=.ok (.tup (nW (Ay t c))) st:=by
 have hc:=zf (fs:=ax (cT gn (ax (aw 0) a6)) a6) (t:=iJ (e2 (xy false) (aw 1) (e2 d8 (e2 d8 (aw 2) (aw 0)) (eI 1)))) (cap:=[none,some 1,some 0]) (ρ:=[some (gg t),some (.str [c])]) (st:=st) (n:=t.length) (AP t c)
  (aE (eu kn (lW t st)) b9) (by omega) (by decide) fun i hi=>by
   obtain⟨p,hp⟩:∃p,t[i]?=some p:=⟨_,af hi⟩
   rw[zh hp]
   exact dW (dM kv (dM (dM kv kv (CB hp st)) dR (CC p st)) Gg)
 refine gI (eA (eu (aE hc b9) (kR (bR dD))) ⟨_,_,rfl,rfl,_,rfl⟩) ?_
 simp only[undWs,W.und,gQ]
 exact CL (Ay t c) _
theorem IV(l:List Nat)(lo hi:Option Int):iZ (nW l) lo hi=nW (iZ l lo hi):=by
 unfold iZ nW
 rw[az,List.map_take,List.map_drop]
theorem E4{l:List Nat}{lo hi:Option Int}{q:Nat}(h:q∈iZ l lo hi):q∈l:=fj (gA h)
theorem IW(l:List Nat)(lo hi:Option Int):(iZ l lo hi).length<=l.length:=by
 unfold iZ;rw[aQ,bO];omega
theorem IY(n:Nat):dh 0 n=nW (List.range n):=by
 unfold dh nW
 exact cw fun k _=>by rw[jJ]
theorem kU(l:List Nat):(nW l).length=l.length:=by unfold nW;rw[az]
def Ly(st:List aq)(n a b B:Nat)(ρ:cn)(s:List aq):Prop:=∃(L:Nat) (pl:List Nat),ρ=[some (.int (n:Nat)),some (.loc a),some (.loc b),some (.loc L)]/\Ex st s/\st.length<=L/\s[L]?=some (.lst (nW pl))/\(∀q∈pl,q<n)/\pl.length<=B
theorem E5{st:List aq}{n a b:Nat}{ds ws:List Int}(hn:n<=100)(ha:st[a]?=some (.lst (ds.map W.int)))(hd:ds.length=n)(hb:st[b]?=some (.lst (ws.map W.int)))(hw:ws.length=8) :
  ∃j x,(∃pl,(st++x)[st.length+j]?=some (.lst (nW pl))/\(∀q∈pl,q<n)/\pl.length<=1000)/\wD [.int (n:Nat),.loc a,.loc b] st=.ok (.loc (st.length+j)) (st++x):=by
 refine zb (N:=4) (ws:=[.int (n:Nat),.loc a,.loc b]) (body:=Gd) ?_
 have wy:∀(k:Nat) {s:List aq},k<8->Ex st s->d8 (.loc b) (.int (k:Nat)) s=.ok (.int (ws.getD k 0)) s:=fun k s hk ⟨x,e⟩=>by
  subst e
  exact jR (bR (dF hb)) (jo (by rw[aL,af (by omega),aI,af (by omega)];rfl))
 have w0:∀{s:List aq},Ex st s->d8 (.loc b) (.int 0) s=.ok (.int (ws.getD 0 0)) s:=fun h=>wy 0 (by omega) h
 have w1:∀{s:List aq},Ex st s->d8 (.loc b) (.int 1) s=.ok (.int (ws.getD 1 0)) s:=fun h=>wy 1 (by omega) h
 have w2:∀{s:List aq},Ex st s->d8 (.loc b) (.int 2) s=.ok (.int (ws.getD 2 0)) s:=fun h=>wy 2 (by omega) h
 have hc:=zf (fs:=ax (aw 0) a6) (t:=iJ (e2 mV (e2 gl (e2 d8 (aw 1) (aw 0)) (eI 2)) (eI 1))) (cap:=[none,some 1]) (ρ:=[some (.int (n:Nat)),some (.loc a),some (.loc b),none]) (st:=st) (n:=n) (fun i=>ds.getD i 0%2==1)
  kn (by omega) (by decide) fun i hi=>by
   exact dW (dM (dM (dM kv kv (jR (bR ha) (jo (by rw[aL,af (by omega)];rfl)))) dR (jF (by decide))) dR (ic (by rw[aI,af (by omega)];rfl)))
 refine kE (Ly st n a b 100) (dm (Gf hc rfl) ⟨_,_,rfl,_,_,rfl,⟨_,rfl⟩,ah _,dD,fun q hq=>by have:=(dB.mp hq).1;rw[dr]at this;exact this,?_⟩) ?_
 ·refine aA (b6 _ _) ?_
  rw[dw];exact hn
 rintro ρ s ⟨L,pl,rfl,hE,hL,kh,hq,hB⟩
 refine kE (Ly st n a b 100) ?_ ?_
 ·cases hk:(ws.getD 0 0%4==1)with
  |true=>
   apply ms
   ·exact dW (dM (dM (dM kv dR (w0 hE)) dR (jF (by decide))) dR (ic hk))
   apply dm
   ·exact eT (CV kv (bR kh) (by rw[kU];show _<=1000000;omega))
   ·obtain⟨x,rfl⟩:=hE
    refine⟨_,_,rfl,_,pl.reverse,rfl,⟨_,by rw[aY]⟩,by simp,by rw[dD];unfold nW;rw[List.map_reverse],fun q h=>hq q (lI.mp h),by rw[fz];exact hB⟩
  |false=>
   apply lr
   ·exact dW (dM (dM (dM kv dR (w0 hE)) dR (jF (by decide))) dR (ic hk))
   apply dm
   ·exact oB
   ·exact⟨_,_,rfl,L,pl,rfl,hE,hL,kh,hq,hB⟩
 clear kh hL hE hq hB
 rintro ρ s ⟨L,pl,rfl,hE,hL,kh,hq,hB⟩
 refine kE (Ly st n a b 200) ?_ ?_
 ·cases hk:(ws.getD 1 0%4==1)with
  |true=>
   apply ms
   ·exact dW (dM (dM (dM kv dR (w1 hE)) dR (jF (by decide))) dR (ic hk))
   have e1:wV (.loc L) none (some (ws.getD 2 0%5)) s=.ok (.loc s.length) (s++[.lst (nW (iZ pl none (some (ws.getD 2 0%5))))]):=by rw[K1 (bR kh),IV]
   have hcl2:(s++[aq.lst (nW (iZ pl none (some (ws.getD 2 0%5))))])[L]?=some (.lst (nW pl)):=dF kh
   have iR:=IW pl none (some (ws.getD 2 0%5))
   have e2':=u9 (dD (s:=s) (c:=aq.lst (nW (iZ pl none (some (ws.getD 2 0%5)))))) hcl2 (by rw[aJ,kU,kU];show _<=1000000;omega)
   apply dm
   ·exact eT (dM (BX kv BV (BW (dM (dM kv dR (w2 hE)) dR (jF (by decide)))) e1) kv e2')
   ·obtain⟨x,rfl⟩:=hE
    refine⟨_,_,rfl,_,iZ pl none (some (ws.getD 2 0%5))++pl,rfl,⟨_,by rw[aY,aY]⟩,by simp,by rw[dD];unfold nW;rw[bH],fun q h=>(aZ.mp h).elim (fun h=>hq q (E4 h)) (hq q),by rw[aJ];omega⟩
  |false=>
   apply lr
   ·exact dW (dM (dM (dM kv dR (w1 hE)) dR (jF (by decide))) dR (ic hk))
   apply dm
   ·exact oB
   ·exact⟨_,_,rfl,L,pl,rfl,hE,hL,kh,hq,by omega⟩
 clear kh hL hE hq hB
 rintro ρ s ⟨L,pl,rfl,hE,hL,kh,hq,hB⟩
 refine kE (Ly st n a b 400) ?_ ?_
 ·cases hk:(ws.getD 1 0%4==2)with
  |true=>
   apply ms
   ·exact dW (dM (dM (dM kv dR (w1 hE)) dR (jF (by decide))) dR (ic hk))
   have hcl2:(s++[aq.lst (nW pl).reverse])[L]?=some (.lst (nW pl)):=dF kh
   have e2':=u9 hcl2 (dD (s:=s) (c:=aq.lst (nW pl).reverse)) (by rw[aJ,fz,kU];show _<=1000000;omega)
   apply dm
   ·exact eT (dM kv (CV kv (bR kh) (by rw[kU];show _<=1000000;omega)) e2')
   ·obtain⟨x,rfl⟩:=hE
    refine⟨_,_,rfl,_,pl++pl.reverse,rfl,⟨_,by rw[aY,aY]⟩,by simp,by rw[dD];unfold nW;rw[bH,List.map_reverse],fun q h=>(aZ.mp h).elim (hq q) (fun h=>hq q (lI.mp h)),by rw[aJ,fz];omega⟩
  |false=>
   apply lr
   ·exact dW (dM (dM (dM kv dR (w1 hE)) dR (jF (by decide))) dR (ic hk))
   apply dm
   ·exact oB
   ·exact⟨_,_,rfl,L,pl,rfl,hE,hL,kh,hq,by omega⟩
 clear kh hL hE hq hB
 rintro ρ s ⟨L,pl,rfl,hE,hL,kh,hq,hB⟩
 refine kE (Ly st n a b 400) ?_ ?_
 ·have tt:Ds (iJ (e2 mV (e2 gl (e2 d8 (aw 2) (eI 1)) (eI 4)) (eI 3))) (iJ (e2 mV (e2 gl (e2 d8 (aw 2) (eI 2)) (eI 4)) (eI 3))) [some (.int (n:Nat)),some (.loc a),some (.loc b),some (.loc L)] s=.ok ((ws.getD 1 0%4==3)&&(ws.getD 2 0%4==3)) s:=
   B5 (dW (dM (dM (dM kv dR (w1 hE)) dR (jF (by decide))) dR (ic rfl))) (dW (dM (dM (dM kv dR (w2 hE)) dR (jF (by decide))) dR (ic rfl)))
  cases hk:((ws.getD 1 0%4==3)&&(ws.getD 2 0%4==3))with
  |true=>
   rw[hk]at tt
   have el:sE [.int (n:Nat)] s=.ok (.loc s.length) (s++[.lst (nW (List.range n))]):=by
    unfold sE
    dsimp only
    rw[am ⟨by omega,by omega⟩,bP,IY]
   apply ms
   ·exact tt
   apply dm
   ·exact eT (eu kn el)
   ·obtain⟨x,rfl⟩:=hE
    exact⟨_,_,rfl,_,List.range n,rfl,⟨_,by rw[aY]⟩,by simp,dD,fun q h=>dr.mp h,by rw[dw];omega⟩
  |false=>
   rw[hk]at tt
   apply lr
   ·exact tt
   apply dm
   ·exact oB
   ·exact⟨_,_,rfl,L,pl,rfl,hE,hL,kh,hq,hB⟩
 clear kh hL hE hq hB
 rintro ρ s ⟨L,pl,rfl,⟨x,rfl⟩,hL,kh,hq,hB⟩
 apply eA
 ·exact gF rfl
 ·exact⟨_,_,rfl,L-st.length,x,by rw[show st.length+(L-st.length)=L by omega],rfl,pl,by rw[show st.length+(L-st.length)=L by omega];exact kh,hq,by omega⟩
theorem E6{pl:List Nat}{n:Nat}(h:∀q∈pl,q<n):SI.sortD (pl.map fun k:Nat=>(k:Int))=((List.range n).filter fun j=>decide (j∈pl)).map fun k:Nat=>(k:Int):=by
 refine(PySem.W.eq_sortI ?_ ?_).symm
 ·refine(gB ?_ (SI.dedI_nodup _)).mpr fun x=>?_
  ·refine iI.mpr ((List.nodup_range.filter _).imp fun{a b} hab e=>hab (by omega))
  ·rw[SI.mem_dedI,bC,bC]
   constructor
   ·rintro⟨k,hk,rfl⟩
    exact⟨k,gj (dB.mp hk).2,rfl⟩
   ·rintro⟨k,hk,rfl⟩
    exact⟨k,dB.mpr ⟨dr.mpr (h k hk),a9 hk⟩,rfl⟩
 ·exact iI.mpr ((List.pairwise_lt_range.filter _).imp fun{a b} hab=>by omega)
theorem E7{fe:FE}{ρ:cn}{st s1:List aq}{L n:Nat}{pl:List Nat}(h:fe ρ st=.ok (.loc L) s1)(hc:s1[L]?=some (.lst (nW pl)))(hq:∀q∈pl,q<n)(hl:pl.length<=1000) :
  SI.eSortI fe ρ st=.ok (.loc s1.length) (s1++[.lst (nW ((List.range n).filter fun j=>decide (j∈pl)))]):=by
 have e:nW pl=(pl.map fun k:Nat=>(k:Int)).map W.int:=by unfold nW;rw[bb];rfl
 have e2':pB (nW pl)=some (pl.map fun k:Nat=>(k:Int)):=by
  rw[e]
  generalize (pl.map fun k:Nat=>(k:Int))=l
  induction l with
  |nil=>rfl
  |cons a r ih=>show(pB (r.map W.int)).map (a :: ·)=_;rw[ih];rfl
 unfold SI.eSortI
 rw[h]
 simp only[R.bind_ok,bR hc,dg,e2']
 rw[am (by rw[az];omega),E6 hq,bb]
 rfl
theorem IZ{g g':FS}{ρ ρ':cn}{st st1:List aq}{c:Str}(h:g ρ st=.ex c ρ' st1):bG g g' ρ st=.ex c ρ' st1:=by unfold bG;rw[h]
theorem x9{ps:List Pl}{c:Nat}{L:List Nat}(hL:∀q∈L,q<ps.length)(NZ:L.length<=1000){k:Nat}(hk:k<=L.length){z:Int}(hz:z<0\/(ps.length:Int)<=z)(st:List aq) :
  vh [gg ps,.str [c],.tup ((nW L).take k++.int z::(nW L).drop k)] st=.ex "NoPlace" st:=by
 refine zc (N:=8) (body:=Iz) (ws:=[gg ps,.str [c],.tup ((nW L).take k++.int z::(nW L).drop k)]) ?_
 refine ba (eT (w:=.loc st.length) (st1:=st++[.dct []]) rfl) ?_
 have hlk:((nW L).take k).length=k:=by rw[aQ,kU];omega
 refine CT (fun i ρ s=>∃(kvs:List (DK×W)) (o4:Option W),ρ=[some (gg ps),some (.str [c]),some (.tup ((nW L).take k++.int z::(nW L).drop k)),some (.loc st.length),o4,none,none,none]/\s=st++[.dct kvs]/\kvs.length<=i/\i<=k) k (.int z)
  (y_ (st1:=st++[.dct []]) kv) (by rw[cE (by omega),hlk,me];rfl) ⟨[],none,rfl,rfl,ah _,br _⟩ (fun _ _ _ _=>trivial) ?_ ?_
 ·rintro i w ρ s hi hw ⟨kvs,o4,rfl,rfl,hl,_⟩
  obtain⟨q,hq,rfl⟩:∃q,L[i]?=some q/\w=.int (q:Nat):=by
   have hw:((nW L).take k++.int z::(nW L).drop k)[i]?=some w:=hw
   rw[bw (by omega),bZ hi]at hw
   simp only[nW,aL,cM]at hw
   obtain⟨q,h1,rfl⟩:=hw
   exact⟨q,h1,rfl⟩
  have hqn:=hL q (bV hq)
  have eU:(st++[aq.dct kvs])[st.length]?=some (.dct kvs):=dD
  refine⟨_,rfl,ba (m_ (dA (aE kv kn) (wH hqn _) rfl)) (dm (BY dR kv kv (CN eU (by show _<1000000;omega))) ⟨_,_,rfl,qW kvs (.i q) (.bl true),_,rfl,ib _ _ _,?_,by omega⟩)⟩
  have:=wG (kvs:=kvs) (k:=.i q) (v:=.bl true);omega
 ·rintro ρ s ⟨kvs,o4,rfl,rfl,hl,_⟩
  refine⟨_,rfl,.inr (.inl ⟨_,_,_,IZ (Ad (wg (aE kv kn) (CM hz _) rfl)),_,_,rfl,_,rfl⟩)⟩
theorem x_{t r:List Pl}{c:Nat}{w:W}{st:List aq}(h:vh [gg t,.str [c],w] st=.ok (gg r) st):uB [gg t,.str [c],w] st=.ok (.tup [.str Mb,gg r]) st:=by
 refine gI (N:=5) (ws:=[gg t,.str [c],w]) (body:=Cv) ?_ (by simp[undWs,W.und,s_])
 refine ba (B9 (eT (dA (aE kv (aE kv kn)) h rfl))) ?_
 exact eA (pE (aE dR kn) (aU rfl)) ⟨_,_,rfl,rfl,[],by simp⟩
theorem ya{t:List Pl}{c:Nat}{w:W}{st:List aq}(h:vh [gg t,.str [c],w] st=.ex "NoPlace" st):uB [gg t,.str [c],w] st=.ok (CP true false) st:=by
 refine gI (N:=5) (ws:=[gg t,.str [c],w]) (body:=Cv) ?_ rfl
 have hk:uz [.loc st.length] (st++[aq.exc "NoPlace"])=.ok (CO true false) (st++[aq.exc "NoPlace"]):=CS (by rw[cY];rfl) rfl rfl rfl rfl rfl rfl rfl rfl rfl rfl
 refine dm (r':=.rt (CP true false) (st++[aq.exc "NoPlace"])) ?_ ⟨_,_,rfl,rfl,_,rfl⟩
 refine u8 (CQ (c:="NoPlace") (st1:=st) (B8 (wg (aE kv (aE kv kn)) h rfl)) (by decide) ?_)
 exact y8 (pE (aE dR (aE (dA kn hk rfl) b9)) (aU rfl))
theorem CZ(st:List aq):uA [.int 3] st=.ok (CP true false) st:=x6 3 st
theorem E8(p:Pl)(k:Nat)(st:List aq):kT (k+2) [p.w,p.w] st=.ok (.bl true) st:=
 lv (by simp) fun w hw=>by
  simp only[aC,cu,gP]at hw
  rcases hw with rfl|rfl
  ·exact wF _ _ _
  ·exact s9 _ _ _
theorem E9{t:List Pl}(h:t.length<=1000)(k:Nat)(st:List aq):kT (k+3) [gg t,gg t] st=.ok (.bl true) st:=
 lv (by rw[az];exact h) fun w hw=>by
  obtain⟨p,_,rfl⟩:=bC.mp hw
  exact E8 p k st
theorem An{t:List Pl}(h:t.length<=1000)(k:Nat)(st:List aq):kT (k+4) [.tup [.str Mb,gg t],.tup [.str Mb,gg t]] st=.ok (.bl true) st:=
 lv (by simp) fun w hw=>by
  simp only[aC,cu,gP]at hw
  rcases hw with rfl|rfl
  ·exact s9 _ _ _
  ·exact E9 h _ _
theorem rD{l:List Nat}(h:l.length<=1000)(k:Nat)(st:List aq):kT (k+2) [.tup (nW l),.tup (nW l)] st=.ok (.bl true) st:=
 lv (by rw[kU];exact h) fun w hw=>by
  obtain⟨p,_,rfl⟩:=bC.mp hw
  exact wF _ _ _
theorem Ao(k:Nat)(st:List aq):kT (k+3) [CP true false,CP true false] st=.ok (.bl true) st:=
 lv (by simp) fun w hw=>by
  simp only[aC,cu,gP]at hw
  rcases hw with rfl|rfl
  ·exact s9 _ _ _
  ·refine lv (by simp) fun w hw=>?_
   simp only[aC,cu,gP]at hw
   rcases hw with rfl|rfl|rfl|rfl|rfl|rfl|rfl|rfl|rfl|rfl<;>exact Aj _ _ _
theorem NX{a b w:Int}{n:Nat}{s:List aq}(h:s[n]?=some (.lst [.int a,.int b])):∃v,(v=a\/v=b)/\d8 (.loc n) (.int (w%2)) s=.ok (.int v) s:=by
 rcases(show w%2=0\/w%2=1 by omega)with e|e
 ·rw[e];exact⟨a,.inl rfl,jR (bR h) rfl⟩
 ·rw[e];exact⟨b,.inr rfl,jR (bR h) rfl⟩
theorem NY{a b c d w:Int}{n:Nat}{s:List aq}(h:s[n]?=some (.lst [.int a,.int b,.int c,.int d])):∃v,(v=a\/v=b\/v=c\/v=d)/\d8 (.loc n) (.int (w%4)) s=.ok (.int v) s:=by
 rcases(show w%4=0\/w%4=1\/w%4=2\/w%4=3 by omega)with e|e|e|e
 ·rw[e];exact⟨a,.inl rfl,jR (bR h) rfl⟩
 ·rw[e];exact⟨b,.inr (.inl rfl),jR (bR h) rfl⟩
 ·rw[e];exact⟨c,.inr (.inr (.inl rfl)),jR (bR h) rfl⟩
 ·rw[e];exact⟨d,.inr (.inr (.inr rfl)),jR (bR h) rfl⟩
theorem zi{pool:List Nat}(hl:pool.length=5)(LJ:∀d∈pool,d∈LL){v:Int}(h0:0<=v)(h5:v<5)(s:List aq):∃c,c∈LL/\d8 (.str pool) (.int v) s=.ok (.str [c]) s:=by
 obtain⟨k,rfl⟩:∃k:Nat,v=(k:Int):=⟨v.toNat,by omega⟩
 refine⟨pool[k]'(by omega),LJ _ (bU _),y9 (by show _<=1000000;omega) (jo (af (by omega)))⟩
theorem C0{t:List Pl}{c:Nat}{x:Nat->Bool}{d j:Nat}(hj:j<t.length):AP (qX t c x) d j=if d=c then x j else AP t d j:=by
 obtain⟨p,hp⟩:∃p,t[j]?=some p:=⟨_,af hj⟩
 rw[zh (xZ hp c x),zh hp,gY,hU,E0]
 by_cases e:d=c
 ·rw[am e,am e]
 ·rw[au e,au e,hU]
theorem yb{t:List Pl}{c d:Nat}{x:Nat->Bool}(h:d≠c):Ay (qX t c x) d=Ay t d:=by
 unfold Ay
 rw[pI]
 exact List.filter_congr fun j hj=>by rw[C0 (dr.mp hj),au h]
theorem E_{t:List Pl}{c:Nat}{x:Nat->Bool}:Ay (qX t c x) c=(List.range t.length).filter x:=by
 unfold Ay
 rw[pI]
 exact List.filter_congr fun j hj=>by rw[C0 (dr.mp hj),am rfl]
theorem law_ok:FJ f_q20:=by
 intro ns hn
 obtain⟨st,jq⟩:∃st,st=([aq.ro (ns.map W.int)]:List aq):=⟨_,rfl⟩
 have h0:st[0]?=some (.ro (ns.map W.int)):=by rw[jq];rfl
 rw[<- jq]
 have cz:∀(k:Int) {z:List aq},Ex st z->∃c,sV [.loc 0,.int k] z=.ok (.int c) z:=fun k z hE=>by
  obtain⟨x,rfl⟩:=hE
  exact ES (dF h0) k
 have hE0:Ex st st:=⟨[],by simp⟩
 obtain⟨c0,e0⟩:=cz 0 hE0
 obtain⟨pool,nS,LI,LJ,ep⟩:=ET c0 100003 5 (by omega) st
 have ep:Ah [.int c0,.int 5,.int 100003] st=_:=ep
 obtain⟨c1,e1⟩:=cz 1 hE0
 obtain⟨c2,e2'⟩:=cz 2 hE0
 obtain⟨q,hq,eq⟩:=CU c2 200017 100 (by omega) st
 have eq:Ag [.int c2,.int 200017,.int 100] st=_:=eq
 obtain⟨ds,hdl,hdp,ed⟩:=lu c1 300007 q (by omega) st
 obtain⟨z1,hz1⟩:∃z1,z1=st++[aq.lst (ds.map W.int)]:=⟨_,rfl⟩
 rw[<- hz1]at ed
 have hE1:Ex st z1:=by rw[hz1];exact hE0.app
 have hd1:z1[st.length]?=some (.lst (ds.map W.int)):=by rw[hz1];exact dD
 refine⟨st,gI (N:=12) (ws:=[.loc 0]) (body:=Ge) ?_ rfl⟩
 apply ba
 ·exact eT (dA (aE (dA (aE kv (aE dR b9)) e0 rfl) (aE dR (aE dR b9))) ep rfl)
 apply ba
 ·exact eT (dA (aE (dA (aE kv (aE dR b9)) e1 rfl) (aE (dA (aE (dA (aE kv (aE dR b9)) e2' rfl) (aE dR (aE dR b9))) eq rfl) (aE dR b9))) ed rfl)
 have h4:(pool.take 4).length=4:=by rw[aQ,nS];rfl
 obtain⟨ps,S,sz,lk,_,g1,_,g3,ew⟩:=E1 hd1 hdp (pool:=pool.take 4) (by omega)
 have hnd4:(pool.take 4).Nodup:=(kG _ _).nodup LI
 have hWp:Wm ps:=⟨g1,fun p hp=>⟨(g3 p hp).2.2 hnd4,fun d hd=>LJ d (gA ((g3 p hp).2.1 d hd))⟩⟩
 have esl:wV (.str pool) none (some 4) z1=.ok (.str (pool.take 4)) z1:=by
  rw[FV (by show _<=1000000;omega)]
  have:=pG (l:=pool) (q:=4) (by omega)
  rw[show(4:Int)=((4:Nat):Int)from rfl,this]
 obtain⟨c5,e5⟩:=cz 5 hE1
 obtain⟨t,hW,em⟩:=Am hWp c5 600011 z1
 have hlt:=hW.1
 apply ba
 ·exact eT (dA (aE (dA (aE kv (aE (BX kv BV (BW dR) esl) (aE dR b9))) ew rfl) (aE (dA (aE kv (aE dR b9)) e5 rfl) (aE dR b9))) em rfl)
 obtain⟨c3,e3⟩:=cz 3 hE1
 obtain⟨ws,LG,hwp,eww⟩:=lu c3 400009 8 (by omega) z1
 have eww:nR [.int c3,.int 8,.int 400009] z1=_:=eww
 obtain⟨z2,hz2⟩:∃z2,z2=z1++[aq.lst (ws.map W.int)]:=⟨_,rfl⟩
 rw[<- hz2]at eww
 have hE2:Ex st z2:=by rw[hz2];exact hE1.app
 have hw2:z2[z1.length]?=some (.lst (ws.map W.int)):=by rw[hz2];exact dD
 have wy:∀(k:Nat) {s:List aq},k<8->s[z1.length]?=some (.lst (ws.map W.int))->d8 (.loc z1.length) (.int (k:Nat)) s=.ok (.int (ws.getD k 0)) s:=fun k s hk hc=>
  jR (bR hc) (jo (by rw[aL,af (by omega),aI,af (by omega)];rfl))
 have wp:∀k:Nat,0<=ws.getD k 0:=fun k=>by
  rw[aI]
  cases e:ws[k]? with
  |none=>exact Int.le_refl _
  |some v=>exact hwp v (bV e)
 apply ba
 ·exact eT (dA (aE (dA (aE kv (aE dR b9)) e3 rfl) (aE dR (aE dR b9))) eww rfl)
 obtain⟨z3,hz3⟩:∃z3,z3=z2++[aq.lst [.int 4,.int (ws.getD 3 0%4)]]:=⟨_,rfl⟩
 have hE3:Ex st z3:=by rw[hz3];exact hE2.app
 have hw3:z3[z1.length]?=some (.lst (ws.map W.int)):=by rw[hz3];exact dF hw2
 have hl3:z3[z2.length]?=some (.lst [.int 4,.int (ws.getD 3 0%4)]):=by rw[hz3];exact dD
 obtain⟨v,hv,ev⟩:=NX (w:=ws.getD 4 0) hl3
 obtain⟨c,hc,ec⟩:=zi nS LJ (v:=v) (by omega) (by omega) z3
 have hk3:∀ρ:cn,ρ[4]?=some (some (.loc z1.length))->o_ (ax (eI 4) (ax (e2 gl (e2 d8 (aw 4) (eI 3)) (eI 4)) a6)) ρ z2=.ok (.loc z2.length) z3:=fun ρ h=>by
  rw[hz3]
  exact qM (aE dR (aE (dM (dM (gF h) dR (wy 3 (by omega) hw2)) dR (jF (by decide))) b9)) (aU rfl)
 apply ba
 ·exact eT (dM kv (dM (hk3 _ rfl) (dM (dM kv dR (wy 4 (by omega) hw3)) dR (jF (by decide))) ev) ec)
 obtain⟨c4,e4⟩:=cz 4 hE3
 obtain⟨ds4,hd4l,_,ed4⟩:=lu c4 500009 t.length (by omega) z3
 obtain⟨z4,hz4⟩:∃z4,z4=z3++[aq.lst (ds4.map W.int)]:=⟨_,rfl⟩
 rw[<- hz4]at ed4
 have hE4:Ex st z4:=by rw[hz4];exact hE3.app
 have hw4:z4[z1.length]?=some (.lst (ws.map W.int)):=by rw[hz4];exact dF hw3
 have hd4:z4[z3.length]?=some (.lst (ds4.map W.int)):=by rw[hz4];exact dD
 obtain⟨j,x,⟨pl,kh,hpq,hpB⟩,es⟩:=E5 hlt hd4 hd4l hw4 LG
 obtain⟨z5,hz5⟩:∃z5,z5=z4++x:=⟨_,rfl⟩
 obtain⟨L,hL⟩:∃L,L=z4.length+j:=⟨_,rfl⟩
 rw[<- hz5,<- hL]at es kh
 have hE5:Ex st z5:=by rw[hz5];exact hE4.app
 have hw5:z5[z1.length]?=some (.lst (ws.map W.int)):=by rw[hz5];exact dF hw4
 apply ba
 ·exact eT (dA (aE (eu kn (lW t _)) (aE (dA (aE (dA (aE kv (aE dR b9)) e4 rfl) (aE (eu kn (lW t _)) (aE dR b9))) ed4 rfl) kn)) es rfl)
 have edu:=IU hW (c:=c) kh
 apply ba
 ·exact eT (pE (aE dR (aE (dA (aE kv (aE kv kn)) edu rfl) b9)) (aU rfl))
 obtain⟨D,hD⟩:∃D,D=qX t c fun j=>decide (j∈pl):=⟨_,rfl⟩
 rw[<- hD]
 obtain⟨bn,hbn⟩:∃bn,bn=(List.range t.length).filter fun j=>decide (j∈pl):=⟨_,rfl⟩
 have eso:=E7 (fe:=aw 6) (ρ:=[some (.loc 0),some (.str pool),some (.loc st.length),some (gg t),some (.loc z1.length),some (.str [c]),some (.loc L),some (.tup [.str Mb,gg D]),none,none,none,none]) (st:=z5) kv kh hpq hpB
 rw[<- hbn]at eso
 obtain⟨z6,hz6⟩:∃z6,z6=z5++[aq.lst (nW bn)]:=⟨_,rfl⟩
 rw[<- hz6]at eso
 have hE6:Ex st z6:=by rw[hz6];exact hE5.app
 have hw6:z6[z1.length]?=some (.lst (ws.map W.int)):=by rw[hz6];exact dF hw5
 have hc6:z6[L]?=some (.lst (nW pl)):=by rw[hz6];exact dF kh
 apply ba
 ·exact eT (eu (aE eso b9) (kR (bR (by rw[hz6];exact dD))))
 have hbl:bn.length<=1000:=by
  rw[hbn]
  refine aA (b6 _ _) ?_
  rw[dw];omega
 have hDl:D.length=t.length:=by rw[hD];exact pI ..
 have brl:∀(u:List Pl) (d:Nat),u.length<=100->(Ay u d).length<=1000:=fun u d hu=>by
  unfold Ay
  refine aA (b6 _ _) ?_
  rw[dw];omega
 cases hk:(ws.getD 5 0%4==1)with
 |true=>
  apply f9
  ·exact dW (dM (dM (dM kv dR (wy 5 (by omega) hw6)) dR (jF (by decide))) dR (ic hk))
  obtain⟨z7,hz7⟩:∃z7,z7=z6++[aq.lst [.int (-1),.int (t.length:Nat),.int ((t.length:Nat)+ws.getD 6 0),.int (-1-ws.getD 6 0)]]:=⟨_,rfl⟩
  have hE7:Ex st z7:=by rw[hz7];exact hE6.app
  have hw7:z7[z1.length]?=some (.lst (ws.map W.int)):=by rw[hz7];exact dF hw6
  have hc7:z7[L]?=some (.lst (nW pl)):=by rw[hz7];exact dF hc6
  have hb7:z7[z6.length]?=some (.lst [.int (-1),.int (t.length:Nat),.int ((t.length:Nat)+ws.getD 6 0),.int (-1-ws.getD 6 0)]):=by rw[hz7];exact dD
  obtain⟨b,hb,eb⟩:=NY (w:=ws.getD 7 0) hb7
  have hbad:b<0\/(t.length:Int)<=b:=by
   have:=wp 6
   rcases hb with e|e|e|e<;>omega
  have hk7:∀ρ:cn,ρ[3]?=some (some (gg t))->ρ[4]?=some (some (.loc z1.length))->o_ (ax (xD (eI 1)) (ax (cT gn (ax (aw 3) a6)) (ax (e2 eh (cT gn (ax (aw 3) a6)) (e2 d8 (aw 4) (eI 6))) (ax (e2 vT (xD (eI 1)) (e2 d8 (aw 4) (eI 6))) a6)))) ρ z6=.ok (.loc z6.length) z7:=fun ρ h3 h4=>by
   rw[hz7]
   exact qM (aE (BU dR) (aE (eu (aE (gF h3) b9) (lW t _)) (aE (dM (eu (aE (gF h3) b9) (lW t _)) (dM (gF h4) dR (wy 6 (by omega) hw6)) qo) (aE (dM (BU dR) (dM (gF h4) dR (wy 6 (by omega) hw6)) (jF trivial)) b9)))) (aU rfl)
  refine nL (ba (eT (dM (hk7 _ rfl rfl) (dM (dM kv dR (wy 7 (by omega) hw7)) dR (jF (by decide))) eb)) ?_)
  obtain⟨k,hkl,ek⟩:=nM (q:=ws.getD 6 0) (n:=pl.length+1) (by omega)
  have ek:ws.getD 6 0%((pl.length:Int)+1)=(k:Int):=ek
  have ein:=B_ (y:=.int b) (k:=k) hc7 (by rw[kU];omega) (by rw[kU];show _<1000000;omega) (by omega)
  obtain⟨z8,hz8⟩:∃z8,z8=z7.set L (.lst ((nW pl).take k++.int b::(nW pl).drop k)):=⟨_,rfl⟩
  rw[<- hz8]at ein
  have hc8:z8[L]?=some (.lst ((nW pl).take k++.int b::(nW pl).drop k)):=by rw[hz8];exact bM (al.mp hc7).1
  have eZ:gn [.loc L] z7=.ok (.int (pl.length:Nat)) z7:=by rw[sO (bR hc7),kU]
  have hE8:Ex st z8:=by
   obtain⟨y,hy⟩:=hE4
   have hLs:st.length<=L:=by rw[hL,hy,aJ];omega
   obtain⟨y7,h7⟩:=hE7
   refine⟨y7.set (L-st.length) (.lst ((nW pl).take k++.int b::(nW pl).drop k)),?_⟩
   rw[hz8,h7,iW _ _ hLs]
  refine nL (ba (m_ (Ab kv (jE hc7) (aE (dM (dM kv dR (wy 6 (by omega) hw7)) (dM (eu kn eZ) dR qo) (jF (by show(0:Int)<_;omega))) kn) (by rw[ek];exact ein))) ?_)
  apply ba
  ·exact eT (dA (aE dR b9) (CZ _) rfl)
  apply ba
  ·exact eT (dA (aE kv (aE kv (aE (eu kn (kR (bR hc8))) b9))) (ya (x9 hpq hpB (by omega) hbad z8)) rfl)
  apply dI
  ·exact kC (sN (dW (dA (aE kv kn) (Ao 37 _) rfl)) rfl)
    (sN (dW (dA (aE (dA (aE kv kn) (tf hlt c _) rfl) (aE (dA (aE kv kn) (oE hlt c _) rfl) b9)) (rD (brl t c hlt) 38 _) rfl)) rfl)
  apply eK
  apply f9
  ·exact dW (dM kx dR (B1 rfl))
  apply fK
  ·exact dR
  ·exact⟨_,_,rfl,rfl,hE8⟩
 |false=>
  apply dI
  ·exact dW (dM (dM (dM kv dR (wy 5 (by omega) hw6)) dR (jF (by decide))) dR (ic hk))
  apply eK
  have edr:vh [gg t,.str [c],.tup (nW pl)] z6=.ok (gg D) z6:=by
   rw[hD]
   exact x5 (x:=fun j=>decide (j∈pl)) hlt hW.gd hc (fun q=>⟨fun h=>⟨hpq q h,a9 h⟩,fun h=>gj h.2⟩) hpB z6
  apply ba
  ·exact eT (dA (aE kv (aE kv (aE (eu kn (kR (bR hc6))) b9))) (x_ edr) rfl)
  apply dI
  ·exact kC (sN (dW (dA (aE kv kn) (An (by omega) 36 _) rfl)) rfl)
    (sN (dW (dA (aE (dA (aE kv kn) (tf hlt c _) rfl) (aE (dA (aE kv kn) (oE hlt c _) rfl) b9)) (rD (brl t c hlt) 38 _) rfl)) rfl)
  apply eK
  apply dI
  ·exact dW (dM kx dR (B1 rfl))
  apply eK
  obtain⟨d,hd,eo⟩:=zi nS LJ (v:=ws.getD 6 0%4) (by omega) (by omega) z6
  apply ba
  ·exact eT (dM kv (dM (dM kv dR (wy 6 (by omega) hw6)) dR (jF (by decide))) eo)
  have ebr:∀d,ww [gg D,.str [d]] z6=.ok (.tup (nW (Ay D d))) z6:=fun d=>tf (by omega) d z6
  apply dI
  ·by_cases e:d=c
   ·exact rk (dW (dM kv kv (CI (by rw[e];simp))))
   ·have ebr:=ebr d
    rw[hD,yb e,<- hD]at ebr
    refine pF (dW (dM kv kv (CI (by simp[e])))) (sN (dW (dA (aE (dA (aE kx kn) ebr rfl) (aE (dA (aE kv kn) (oE hlt d _) rfl) b9)) (rD (brl t d hlt) 38 _) rfl)) rfl)
  apply eK
  have ebr:=ebr c
  rw[hD,E_,<- hbn,<- hD]at ebr
  apply eA
  ·exact dA (aE (dA (aE kx kn) ebr rfl) kn) (rD hbl 38 _) rfl
  ·exact⟨_,_,rfl,rfl,hE6⟩
theorem all_mk{l:PySem.W.OpenLaw}{w:World}{K:Frag}{h:Heap}{mg:Str->Option Value}{fa:Addr}(X:K.In h)(G:h.Ns mainGlobals mg)(N_:mg "law"=some (.ref fa))
  {yi:Addr} {Jh De:Option Addr} {Jk:Array (Option Value)} {Jo Da Dm Dd yd Dl:Value} {aV:Addr} {pK:Addr} {jc:Addr} {bA:Addr} {l6:Addr} {lZ:Addr} {pJ:Addr} {pL:Addr} {jb:Addr} {ja:Addr}
  (yf:DefIn K "in_order" Ie)
  (tU:DefIn K "check_place" Ig)
  (yh:DefIn K "borne_by" Ih)
  (vm:DefIn K "dressed_in" Ii)
  (wI:DefIn K "_law_cell" Ij)
  (vi:DefIn K "_law_mixed" Ik)
  (vk:DefIn K "_law_draws" Il)
  (wJ:DefIn K "_law_size" Im)
  (wU:DefIn K "_law_same" Io)
  (wK:DefIn K "_law_pool" Iq)
  (vn:DefIn K "_law_marks" Ce)
  (wT:DefIn K "_law_wood" Cf)
  (vo:DefIn K "_law_kinds" Cg)
  (oI:DefIn K "_law_due_refusal" Ci)
  (tq:DefIn K "_law_letters" Cj)
  (tY:DefIn K "_law_marked" Cm)
  (tw:DefIn K "_law_dressed" Cn)
  (yc:DefIn K "_law_due" Co)
  (tu:DefIn K "_law_bearing" Cp)
  (wO:DefIn K "_law_some" Cq)
  (Gn:nsIn K mainGlobals "law"=some (some (.ref yi)))
  (LN:K.lookup yi=some ⟨Jo,Jh,.func (fnOf "law" "law" (gR pH) (fM pH) (bg pH) .none Da Dm Dd De yd Dl),Jk⟩)
  (As:codeIn K yd "law"=true)
  (LD:keepIn K (.ref yi)=true)
  (cy:nsIn K mainGlobals "TrunkError"=some (some (.ref aV)))
  (Dc:nsIn K mainGlobals "NoTree"=some (some (.ref pK)))
  (tV:nsIn K mainGlobals "NoStatement"=some (some (.ref jc)))
  (eE:nsIn K mainGlobals "NoPlace"=some (some (.ref bA)))
  (ye:nsIn K mainGlobals "NoNumber"=some (some (.ref l6)))
  (yj:nsIn K mainGlobals "TooGreat"=some (some (.ref lZ)))
  (Db:nsIn K mainGlobals "NoName"=some (some (.ref pJ)))
  (Df:nsIn K mainGlobals "NoLine"=some (some (.ref pL)))
  (tW:nsIn K mainGlobals "NothingDone"=some (some (.ref jb)))
  (tX:nsIn K mainGlobals "NothingHeld"=some (some (.ref ja)))
  (x_TrunkError:excIn K aV qg sy=true)
  (db:findIn K (.ref aV) "__getattribute__"=some (some (.builtin "BaseException.__getattribute__")))
  (df:findIn K (.ref aV) "__getattr__"=some none)
  (de:findIn K (.ref aV) "__class__"=some (some (.builtin "object.__class__")))
  (w_TrunkError_NoLine:kitOne K (.ref aV) (.ref pL)=some false)
  (w_TrunkError_NoName:kitOne K (.ref aV) (.ref pJ)=some false)
  (w_TrunkError_NoNumber:kitOne K (.ref aV) (.ref l6)=some false)
  (w_TrunkError_NoPlace:kitOne K (.ref aV) (.ref bA)=some false)
  (w_TrunkError_NoStatement:kitOne K (.ref aV) (.ref jc)=some false)
  (w_TrunkError_NoTree:kitOne K (.ref aV) (.ref pK)=some false)
  (w_TrunkError_NothingDone:kitOne K (.ref aV) (.ref jb)=some false)
  (w_TrunkError_NothingHeld:kitOne K (.ref aV) (.ref ja)=some false)
  (w_TrunkError_TooGreat:kitOne K (.ref aV) (.ref lZ)=some false)
  (w_TrunkError_VE:kitOne K (.ref aV) (.type "ValueError")=some true)
  (x_NoPlace:excIn K bA qg sy=true)
  (fq:findIn K (.ref bA) "__getattribute__"=some (some (.builtin "BaseException.__getattribute__")))
  (fw:findIn K (.ref bA) "__getattr__"=some none)
  (fv:findIn K (.ref bA) "__class__"=some (some (.builtin "object.__class__")))
  (w_NoPlace_NoLine:kitOne K (.ref bA) (.ref pL)=some false)
  (w_NoPlace_NoName:kitOne K (.ref bA) (.ref pJ)=some false)
  (w_NoPlace_NoNumber:kitOne K (.ref bA) (.ref l6)=some false)
  (w_NoPlace_NoPlace:kitOne K (.ref bA) (.ref bA)=some true)
  (w_NoPlace_NoStatement:kitOne K (.ref bA) (.ref jc)=some false)
  (w_NoPlace_NoTree:kitOne K (.ref bA) (.ref pK)=some false)
  (w_NoPlace_NothingDone:kitOne K (.ref bA) (.ref jb)=some false)
  (w_NoPlace_NothingHeld:kitOne K (.ref bA) (.ref ja)=some false)
  (w_NoPlace_TooGreat:kitOne K (.ref bA) (.ref lZ)=some false)
  (w_NoPlace_VE:kitOne K (.ref bA) (.type "ValueError")=some true)
  (u_TrunkError_TrunkError:(zP K aV).contains (.ref aV)=true)
  (u_NoPlace_TrunkError:(zP K bA).contains (.ref aV)=true)
  (vj:nsIn K mainGlobals "ValueError"=some none)
  (Jr:nsIn K mainGlobals "bool"=some none)
  (wM:nsIn K mainGlobals "enumerate"=some none)
  (LO:nsIn K mainGlobals "int"=some none)
  (vp:nsIn K mainGlobals "isinstance"=some none)
  (LA:nsIn K mainGlobals "len"=some none)
  (Ja:nsIn K mainGlobals "list"=some none)
  (Fd:nsIn K mainGlobals "range"=some none)
  (LV:nsIn K mainGlobals "set"=some none)
  (Di:nsIn K mainGlobals "sorted"=some none)
  (LY:nsIn K mainGlobals "str"=some none)
  (Ff:nsIn K mainGlobals "tuple"=some none) :
  ∃fd:FuncData,fd.scope.names.lookup ("_law_script":Str)=some .local/\(∀(s:Shared) (v:Value),BindsTo s fd ⟨[v],[]⟩ [("_law_script",v)])/\∀base:Heap,K.In base->base.Ns mainGlobals mg->gk l.prog w K mg base (mj l.prog w) 41 fa fd Cr (nQ K mg 1 f_q20):=by
 have e:=N_.symm.trans (mg_of X G Gn)
 cases e
 obtain⟨_,_,F_q0,m_q0⟩:=yf.fn X G
 obtain⟨_,_,F_q1,m_q1⟩:=tU.fn X G
 obtain⟨_,_,F_q2,m_q2⟩:=yh.fn X G
 obtain⟨_,_,F_q3,m_q3⟩:=vm.fn X G
 obtain⟨_,_,F_q4,m_q4⟩:=wI.fn X G
 obtain⟨_,_,F_q5,m_q5⟩:=vi.fn X G
 obtain⟨_,_,F_q6,m_q6⟩:=vk.fn X G
 obtain⟨_,_,F_q7,m_q7⟩:=wJ.fn X G
 obtain⟨_,_,Ap,Dg⟩:=wU.fn X G
 obtain⟨_,_,F_q9,m_q9⟩:=wK.fn X G
 obtain⟨_,_,F_q10,m_q10⟩:=vn.fn X G
 obtain⟨_,_,F_q11,m_q11⟩:=wT.fn X G
 obtain⟨_,_,F_q12,m_q12⟩:=vo.fn X G
 obtain⟨_,_,F_q13,m_q13⟩:=oI.fn X G
 obtain⟨_,_,F_q14,m_q14⟩:=tq.fn X G
 obtain⟨_,_,F_q15,m_q15⟩:=tY.fn X G
 obtain⟨_,_,F_q16,m_q16⟩:=tw.fn X G
 obtain⟨_,_,F_q17,m_q17⟩:=yc.fn X G
 obtain⟨_,_,F_q18,m_q18⟩:=tu.fn X G
 obtain⟨_,_,F_q19,m_q19⟩:=wO.fn X G
 have F_q20:=AO (st:=pH) LN As LD
 have m_q20:=mg_of X G Gn
 have B:Bl mg:=⟨mg_none_of X G vj,mg_none_of X G Jr,mg_none_of X G wM,mg_none_of X G LO,mg_none_of X G vp,mg_none_of X G LA,mg_none_of X G Ja,mg_none_of X G Fd,mg_none_of X G LV,mg_none_of X G Di,mg_none_of X G LY,mg_none_of X G Ff⟩
 have C:Fj K mg:=⟨⟨aV,mg_of X G cy,x_TrunkError⟩,⟨bA,mg_of X G eE,x_NoPlace⟩,⟨pL,mg_of X G Df,⟨fun c b hb=>by by_cases e0:c="TrunkError";(· subst e0;rw[show jN "TrunkError"=some false from by decide +kernel]at hb;cases hb;exact⟨aV,mg_of X G cy,x_TrunkError,⟨db,df,de⟩,w_TrunkError_NoLine⟩);by_cases e1:c="NoPlace";(· subst e1;rw[show jN "NoPlace"=some false from by decide +kernel]at hb;cases hb;exact⟨bA,mg_of X G eE,x_NoPlace,⟨fq,fw,fv⟩,w_NoPlace_NoLine⟩);simp only[jN,e0,e1,cA,reduceCtorEq]at hb⟩⟩,⟨pJ,mg_of X G Db,⟨fun c b hb=>by by_cases e0:c="TrunkError";(· subst e0;rw[show jO "TrunkError"=some false from by decide +kernel]at hb;cases hb;exact⟨aV,mg_of X G cy,x_TrunkError,⟨db,df,de⟩,w_TrunkError_NoName⟩);by_cases e1:c="NoPlace";(· subst e1;rw[show jO "NoPlace"=some false from by decide +kernel]at hb;cases hb;exact⟨bA,mg_of X G eE,x_NoPlace,⟨fq,fw,fv⟩,w_NoPlace_NoName⟩);simp only[jO,e0,e1,cA,reduceCtorEq]at hb⟩⟩,⟨l6,mg_of X G ye,⟨fun c b hb=>by by_cases e0:c="TrunkError";(· subst e0;rw[show ie "TrunkError"=some false from by decide +kernel]at hb;cases hb;exact⟨aV,mg_of X G cy,x_TrunkError,⟨db,df,de⟩,w_TrunkError_NoNumber⟩);by_cases e1:c="NoPlace";(· subst e1;rw[show ie "NoPlace"=some false from by decide +kernel]at hb;cases hb;exact⟨bA,mg_of X G eE,x_NoPlace,⟨fq,fw,fv⟩,w_NoPlace_NoNumber⟩);simp only[ie,e0,e1,cA,reduceCtorEq]at hb⟩⟩,⟨bA,mg_of X G eE,⟨fun c b hb=>by by_cases e0:c="TrunkError";(· subst e0;rw[show i5 "TrunkError"=some false from by decide +kernel]at hb;cases hb;exact⟨aV,mg_of X G cy,x_TrunkError,⟨db,df,de⟩,w_TrunkError_NoPlace⟩);by_cases e1:c="NoPlace";(· subst e1;rw[show i5 "NoPlace"=some true from by decide +kernel]at hb;cases hb;exact⟨bA,mg_of X G eE,x_NoPlace,⟨fq,fw,fv⟩,w_NoPlace_NoPlace⟩);simp only[i5,e0,e1,cA,reduceCtorEq]at hb⟩⟩,⟨jc,mg_of X G tV,⟨fun c b hb=>by by_cases e0:c="TrunkError";(· subst e0;rw[show fE "TrunkError"=some false from by decide +kernel]at hb;cases hb;exact⟨aV,mg_of X G cy,x_TrunkError,⟨db,df,de⟩,w_TrunkError_NoStatement⟩);by_cases e1:c="NoPlace";(· subst e1;rw[show fE "NoPlace"=some false from by decide +kernel]at hb;cases hb;exact⟨bA,mg_of X G eE,x_NoPlace,⟨fq,fw,fv⟩,w_NoPlace_NoStatement⟩);simp only[fE,e0,e1,cA,reduceCtorEq]at hb⟩⟩,⟨pK,mg_of X G Dc,⟨fun c b hb=>by by_cases e0:c="TrunkError";(· subst e0;rw[show jP "TrunkError"=some false from by decide +kernel]at hb;cases hb;exact⟨aV,mg_of X G cy,x_TrunkError,⟨db,df,de⟩,w_TrunkError_NoTree⟩);by_cases e1:c="NoPlace";(· subst e1;rw[show jP "NoPlace"=some false from by decide +kernel]at hb;cases hb;exact⟨bA,mg_of X G eE,x_NoPlace,⟨fq,fw,fv⟩,w_NoPlace_NoTree⟩);simp only[jP,e0,e1,cA,reduceCtorEq]at hb⟩⟩,⟨jb,mg_of X G tW,⟨fun c b hb=>by by_cases e0:c="TrunkError";(· subst e0;rw[show fF "TrunkError"=some false from by decide +kernel]at hb;cases hb;exact⟨aV,mg_of X G cy,x_TrunkError,⟨db,df,de⟩,w_TrunkError_NothingDone⟩);by_cases e1:c="NoPlace";(· subst e1;rw[show fF "NoPlace"=some false from by decide +kernel]at hb;cases hb;exact⟨bA,mg_of X G eE,x_NoPlace,⟨fq,fw,fv⟩,w_NoPlace_NothingDone⟩);simp only[fF,e0,e1,cA,reduceCtorEq]at hb⟩⟩,⟨ja,mg_of X G tX,⟨fun c b hb=>by by_cases e0:c="TrunkError";(· subst e0;rw[show fG "TrunkError"=some false from by decide +kernel]at hb;cases hb;exact⟨aV,mg_of X G cy,x_TrunkError,⟨db,df,de⟩,w_TrunkError_NothingHeld⟩);by_cases e1:c="NoPlace";(· subst e1;rw[show fG "NoPlace"=some false from by decide +kernel]at hb;cases hb;exact⟨bA,mg_of X G eE,x_NoPlace,⟨fq,fw,fv⟩,w_NoPlace_NothingHeld⟩);simp only[fG,e0,e1,cA,reduceCtorEq]at hb⟩⟩,⟨lZ,mg_of X G yj,⟨fun c b hb=>by by_cases e0:c="TrunkError";(· subst e0;rw[show ig "TrunkError"=some false from by decide +kernel]at hb;cases hb;exact⟨aV,mg_of X G cy,x_TrunkError,⟨db,df,de⟩,w_TrunkError_TooGreat⟩);by_cases e1:c="NoPlace";(· subst e1;rw[show ig "NoPlace"=some false from by decide +kernel]at hb;cases hb;exact⟨bA,mg_of X G eE,x_NoPlace,⟨fq,fw,fv⟩,w_NoPlace_TooGreat⟩);simp only[ig,e0,e1,cA,reduceCtorEq]at hb⟩⟩,⟨fun c b hb=>by by_cases e0:c="TrunkError";(· subst e0;rw[show f_ "TrunkError"=some true from by decide +kernel]at hb;cases hb;exact⟨aV,mg_of X G cy,x_TrunkError,⟨db,df,de⟩,w_TrunkError_VE⟩);by_cases e1:c="NoPlace";(· subst e1;rw[show f_ "NoPlace"=some true from by decide +kernel]at hb;cases hb;exact⟨bA,mg_of X G eE,x_NoPlace,⟨fq,fw,fv⟩,w_NoPlace_VE⟩);simp only[f_,e0,e1,cA,reduceCtorEq]at hb⟩,⟨fun c hc=>by simp only[aC,cu,gP]at hc;rcases hc with rfl|rfl;(· exact⟨aV,aV,mg_of X G cy,mg_of X G cy,x_TrunkError,x_TrunkError,u_TrunkError_TrunkError⟩);(· exact⟨bA,aV,mg_of X G eE,mg_of X G cy,x_NoPlace,x_TrunkError,u_NoPlace_TrunkError⟩)⟩⟩
 refine⟨fnOf "law" "law" (gR pH) (fM pH) (bg pH) .none Da Dm Dd De yd Dl,rfl,fun s v=>.of_eq rfl,fun base _ _=>?_⟩
 have Jp:et l.prog w K mg base 1 "in_order" 1 Cs:=gq F_q0 m_q0 (Lh F_q0 B)
 have Jl:et l.prog w K mg base 1 "check_place" 2 Ae:=gq F_q1 m_q1 (Li F_q1 B C)
 have C2:et l.prog w K mg base 1 "borne_by" 2 ww:=gq F_q2 m_q2 (Lj F_q2 B)
 have Jg:et l.prog w K mg base 2 "dressed_in" 3 vh:=gq F_q3 m_q3 (Lk F_q3 B  Jl Jp)
 have wL:et l.prog w K mg base 1 "_law_cell" 2 sV:=gq F_q4 m_q4 (Ll F_q4 B)
 have Jn:et l.prog w K mg base 1 "_law_mixed" 3 Af:=gq F_q5 m_q5 (Lm F_q5)
 have pN:et l.prog w K mg base 2 "_law_draws" 3 nR:=gq F_q6 m_q6 (Lo F_q6 B  Jn)
 have Je:et l.prog w K mg base 3 "_law_size" 3 Ag:=gq F_q7 m_q7 (Lq F_q7   pN)
 have wQ:=Cu (P:=l.prog) (w:=w) (base:=base) Ap Dg B  40
 have Jc:et l.prog w K mg base 3 "_law_pool" 3 Ah:=gq F_q9 m_q9 (Ls F_q9 B  pN)
 have C6:et l.prog w K mg base 1 "_law_marks" 2 wz:=gq F_q10 m_q10 (IA F_q10 B)
 have C1:et l.prog w K mg base 2 "_law_wood" 3 wA:=gq F_q11 m_q11 (IC F_q11 B  C6)
 have C9:v0 l.prog w K mg base 1 "_law_kinds" 1 uz:=HK F_q12 m_q12 (ID F_q12 B C)
 have C_:et l.prog w K mg base 1 "_law_due_refusal" 1 uA:=gq F_q13 m_q13 (IE F_q13 B)
 have C3:et l.prog w K mg base 1 "_law_letters" 0 sW:=q5 (ps:=Ck) F_q14 m_q14 rfl (fun _ _ _ _ _ _ us hl=>by rw[lG.mp hl];rfl) (IF F_q14)
 have Do:et l.prog w K mg base 3 "_law_marked" 3 wB:=gq F_q15 m_q15 (IG F_q15 B  pN C3)
 have Dk:et l.prog w K mg base 3 "_law_dressed" 3 uB:=gq F_q16 m_q16 (IH F_q16 C  C9 Jg)
 have C5:et l.prog w K mg base 1 "_law_due" 3 wC:=gq F_q17 m_q17 (II F_q17 B)
 have zj:et l.prog w K mg base 1 "_law_bearing" 2 uC:=gq F_q18 m_q18 (IJ F_q18 B)
 have Dj:et l.prog w K mg base 1 "_law_some" 3 wD:=gq F_q19 m_q19 (IK F_q19 B)
 exact IL F_q20 B  zj wL pN Dk C5 C_ Do Jc wQ Je Dj C1 C2
end P
end
namespace PySem.W.Fast
def tw12883705042252309343:=0
def tw13491065437335346077:=0
def tw6689053233729735068:=0
def tw1654777038896139644:=0
def tw8834106707038037308:=0
def tw2898523386208479483:=0
def tw16214889148739180635:=0
def tw17450571417912446426:=0
def tw13337473201055786937:=0
def tw12610270648837013432:=0
def tw12635538212686647960:=0
def tw4375510650255398388:=0
def tw17455509656104582737:=0
def tw8290304698163378960:=0
def tw8838310460588994896:=0
def tw13646261236129822383:=0
def tw4771620476858990893:=0
def tw16136713709114376108:=0
def tw1217603448229040011:=0
def tw7488704611010941770:=0
def tw12078157571601608552:=0
def tw11872010718229098536:=0
def tw8035659003229995941:=0
def tw16658540878356004037:=0
def tw208125256075752900:=0
def tw7818521774878504196:=0
def tw15402465812192071170:=0
def tw410330303290556065:=0
def tw4491974814018583905:=0
def tw5227504958204597490:=0
def tw11425331915281092136:=0
def tw17019665097804077533:=0
def tw16551613070796821410:=0
def tw18429879773695207964:=0
def tw6040696171469357013:=0
def tw16799711704278422175:=0
def tw15017869358539303494:=0
def tw11799621744518308682:=0
def tw16537799465334290280:=0
def tw2703305849216447708:=0
def tw17425094025685783425:=0
def tw15650359591772993255:=0
def tw2911609104637612060:=0
def tw942159482499698242:=0
def tw5961092391957749939:=0
def tw1072795108832270557:=0
def tw17137517728470496756:=0
def tw10371038174175694340:=0
def tw8083184611876545965:=0
def tw1862677803877152331:=0
def tw3689430978782610808:=0
def tw3076278199763241219:=0
def tw15375073003992819263:=0
def tw15545151492144135317:=0
def tw2363098420471262773:=0
def tw2579658505649172553:=0
def tw16293804790257013349:=0
def tw4942519791779594998:=0
def tw14962023043659242398:=0
def tw1508558250205437553:=0
def tw8817938459476218812:=0
def tw11830749384731979374:=0
def tw17363292218778662269:=0
def tw14360792287941992255:=0
def tw8380841727303684842:=0
def tw1675527846646901321:=0
def tw6735968835518638653:=0
def tw14123676973514123333:=0
def tw5747765032659661754:=0
def tw16068856653982819900:=0
def tw15958193417336919715:=0
def tw6322674768315645372:=0
def tw6109987507402883023:=0
def tw2697504905407127501:=0
def tw5696061183370077079:=0
def tw9447669707181111591:=0
def tw14668333917950303376:=0
def tw11860949460637603880:=0
def tw15548178913253925236:=0
def tw17046070663605497223:=0
def tw7482377753422977444:=0
def tw8196227408123025769:=0
def tw15171225718381614177:=0
def tw15875965501828092318:=0
def tw3249034091318710125:=0
def tw2041878954174195250:=0
def tw15106034106238629439:=0
def tw8149358132139998732:=0
def tw18278293480814234005:=0
def tw10389079473315109714:=0
def tw2140407734089611342:=0
def tw6557637732347327772:=0
def tw8190722401933743649:=0
def tw10346441681527355064:=0
def tw5965823073064525148:=0
def tw2336577998999812332:=0
def tw13065556486261521324:=0
def tw4208820704613945227:=0
def tw229386790425352618:=0
def tw912587808928076756:=0
def tw5342088143951243306:=0
def tw4492798323104940580:=0
def tw4491867385048065842:=0
def tw17704714819270794409:=0
def tw16626318693427317576:=0
def tw15393118714593004584:=0
def tw9031501042548039360:=0
def tw11914385881140592511:=0
def tw15286075602116270170:=0
def tw4420590324828964286:=0
def tw4945488179180115895:=0
def tw16981063617057381029:=0
def tw3604996324771874175:=0
def tw11904752193007601222:=0
def tw18277756038664103785:=0
def tw7589436897741578229:=0
def tw18349270902960239674:=0
def tw17109196000908226307:=0
def tw10283681580026508381:=0
def tw7828419600026757756:=0
def tw1841330921563876499:=0
def tw16621961487421045782:=0
def tw12279549133353950003:=0
def tw4198642283381103101:=0
def tw3293677902666342365:=0
def tw16072782800626121274:=0
def tw7445486513442710775:=0
def tw15476329489208541783:=0
def tw2181548158465193839:=0
def tw3799642153168054981:=0
def tw4211975701725022943:=0
def tw8900883171268292432:=0
def tw9044880947397807166:=0
def tw13400870150611711676:=0
def tw11961343444424400669:=0
def tw10199215172692548782:=0
def tw11682180100359083249:=0
def tw14332325163949727291:=0
def tw13321694456994940107:=0
def tw16831235569802906599:=0
def tw4277509509476376373:=0
def tw1474287033152905656:=0
def tw4072643399161632103:=0
def tw4917915983254882241:=0
def tw18141271729828317499:=0
def tw9072271129208236328:=0
def tw3772362509407200187:=0
def tw3324973647698296642:=0
def tw8151660933874049518:=0
def tw13133771120478647817:=0
def tw11198848052720690115:=0
def tw15307702000818201064:=0
def tw1158910046227908368:=0
def tw8336857386258117899:=0
def tw4703106127469412135:=0
def tw3362061085897457300:=0
def tw7611272719806304819:=0
def tw1500307315230017636:=0
def tw10921457600547735726:=0
def tw10554772264731845538:=0
def tw5350217407185613838:=0
def tw13785617551454917518:=0
def tw11158728439755345555:=0
def tw2162253106283281416:=0
def tw13292010556925199478:=0
def tw17026085416742876642:=0
def tw8572685551315874499:=0
def tw2822840970884966434:=0
def tw18244408608927287321:=0
def tw16613581017363233012:=0
def tw14884938701846522594:=0
def tw13949747913622933064:=0
def tw12889860325010124389:=0
def tw11945947180016617109:=0
def tw6100405515800372549:=0
def tw12942847063855578535:=0
def tw7343306266254299135:=0
def tw1458743082609271498:=0
def tw11402989059621275308:=0
def tw14651894380054126673:=0
def tw3934890448548680829:=0
def tw17255972997434727455:=0
def tw9943673092913471062:=0
def tw8976681774766944107:=0
def tw5365255592789462849:=0
def tw4791138408821739413:=0
def tw463820814931840852:=0
def tw4206913829757941602:=0
def tw18367925726089477148:=0
def tw17347848482248952533:=0
def tw16207779652368364291:=0
def tw11862695011463163554:=0
def tw983746029575836617:=0
def tw7335184517198848924:=0
def tw5269211822267541383:=0
def tw3844498735814298040:=0
def tw2859764967722123336:=0
def tw17856629045658865445:=0
def tw17661508090768700353:=0
def tw14766722392851427302:=0
def tw13090138857627615426:=0
def tw10426321748730381249:=0
def tw17613286713366400209:=0
def tw5046523270002238100:=0
def tw3859314885481332793:=0
def tw1861311983330194530:=0
def tw18311355337144865288:=0
def tw18236165289516479473:=0
def tw17773025271976475588:=0
def tw17424698479871562752:=0
def tw16759716937452313524:=0
def tw16722009443900362691:=0
def tw9887239388186694980:=0
def tw4266749887483785729:=0
def tw340950861878141799:=0
def tw16815648669798987245:=0
def tw16456842947312537321:=0
def tw15613678424513041014:=0
def tw11854658272188317678:=0
def tw10724193758603733903:=0
def tw10408966663338591666:=0
def tw10123285195008058174:=0
def tw9521578850092741026:=0
def tw9250471325723365114:=0
def tw8914238494621932813:=0
def tw8288402479344368207:=0
def tw8054348785568798395:=0
def tw7661029348224649801:=0
def tw7261079366648180055:=0
def tw7187267234426751038:=0
def tw7063782664400794846:=0
def tw6883672750459245116:=0
def tw6200024966075171105:=0
def tw6199295848376371089:=0
def tw5797150552894973339:=0
def tw5645908019932038341:=0
def tw5191726049464384509:=0
def tw4766807676163619079:=0
def tw451385664717273117:=0
def tw4363327606515832282:=0
def tw4328359289913616462:=0
def tw3982661375342558556:=0
def tw3947728903142138348:=0
def tw3748455292053375173:=0
def tw3718248818611228726:=0
def tw364707602802516754:=0
def tw3553961456500430292:=0
def tw3429633573215868587:=0
def tw2997927292830141444:=0
def tw2975398762471860770:=0
def tw2558056575767143232:=0
def tw2502839916146601301:=0
def tw2485162537801007312:=0
def tw2271729925346758289:=0
def tw1842317261690357584:=0
def tw18187668828377124045:=0
def tw18014935440475507173:=0
def tw17842868543937596366:=0
def tw17623956985438193250:=0
def tw17242069835124091738:=0
def tw17088253190332403478:=0
def tw17015600111169078649:=0
def tw16875147236779932262:=0
def tw16872852043282657989:=0
def tw16086536178876230703:=0
def tw15945569117570019655:=0
def tw15137719151634388292:=0
def tw15024856145133523435:=0
def tw14928546596302341564:=0
def tw14329108588988828109:=0
def tw14231674325185979107:=0
def tw1406980447120794087:=0
def tw13880330832937913791:=0
def tw12495530427055096508:=0
def tw12237076893387283001:=0
def tw11724422620938697386:=0
def tw11040603045905603940:=0
def tw10886550460938013276:=0
def tw10877481458250645943:=0
end PySem.W.Fast
open PySem PySem.W PyProof.Rows
set_option maxRecDepth 100000 in
set_option maxHeartbeats 0 in
theorem PySem.Challenge.cw_trunksay_k07_dressed_and_borne_holds : PySem.Challenge.rw_trunksay_k07_dressed_and_borne.Holds := by
 w_on; o_law; k_head; (case hw => w_witness2)
 k_fill
 refine L2.walkW (l := PySem.Challenge.rw_trunksay_k07_dressed_and_borne) (k := 41) (x := "_law_script") (G := P.f_q20) rfl rfl ⟨rfl, by decide, by decide⟩ (fun w h Y => PySem.W.kIn_of Y) ?F P.law_ok
 case F =>
  intro w mg fa h KX G hmg
  refine' P.all_mk KX G hmg ?_ ?_ ?_ ?_ ?_ ?_ ?_ ?_ ?_ ?_ ?_ ?_ ?_ ?_ ?_ ?_ ?_ ?_ ?_ ?_ ?_ ?_ ?_ ?_ ?_ ?_ ?_ ?_ ?_ ?_ ?_ ?_ ?_ ?_ ?x_TrunkError ?_ ?_ ?_ ?w_TrunkError_NoLine ?w_TrunkError_NoName ?w_TrunkError_NoNumber ?w_TrunkError_NoPlace ?w_TrunkError_NoStatement ?w_TrunkError_NoTree ?w_TrunkError_NothingDone ?w_TrunkError_NothingHeld ?w_TrunkError_TooGreat ?w_TrunkError_VE ?x_NoPlace ?_ ?_ ?_ ?w_NoPlace_NoLine ?w_NoPlace_NoName ?w_NoPlace_NoNumber ?w_NoPlace_NoPlace ?w_NoPlace_NoStatement ?w_NoPlace_NoTree ?w_NoPlace_NothingDone ?w_NoPlace_NothingHeld ?w_NoPlace_TooGreat ?w_NoPlace_VE ?u_TrunkError_TrunkError ?u_NoPlace_TrunkError ?_ ?_ ?_ ?_ ?_ ?_ ?_ ?_ ?_ ?_ ?_ ?_
  any_goals (refine' L2.DefIn.mk ?a ?l ?c ?k; (case a => k_is); (case l => k_is); (case c => k_is); (case k => k_is))
  any_goals k_is
  (case x_TrunkError => k_exc)
  (case w_TrunkError_NoLine => kernel_rfl)
  (case w_TrunkError_NoName => kernel_rfl)
  (case w_TrunkError_NoNumber => kernel_rfl)
  (case w_TrunkError_NoPlace => kernel_rfl)
  (case w_TrunkError_NoStatement => kernel_rfl)
  (case w_TrunkError_NoTree => kernel_rfl)
  (case w_TrunkError_NothingDone => kernel_rfl)
  (case w_TrunkError_NothingHeld => kernel_rfl)
  (case w_TrunkError_TooGreat => kernel_rfl)
  (case w_TrunkError_VE => kernel_rfl)
  (case x_NoPlace => k_exc)
  (case w_NoPlace_NoLine => kernel_rfl)
  (case w_NoPlace_NoName => kernel_rfl)
  (case w_NoPlace_NoNumber => kernel_rfl)
  (case w_NoPlace_NoPlace => kernel_rfl)
  (case w_NoPlace_NoStatement => kernel_rfl)
  (case w_NoPlace_NoTree => kernel_rfl)
  (case w_NoPlace_NothingDone => kernel_rfl)
  (case w_NoPlace_NothingHeld => kernel_rfl)
  (case w_NoPlace_TooGreat => kernel_rfl)
  (case w_NoPlace_VE => kernel_rfl)
  (case u_TrunkError_TrunkError => kernel_rfl)
  (case u_NoPlace_TrunkError => kernel_rfl)
