import PyProof.Rows.All
import Wide.All
import OpenK.AllK
import Wide.FinOn
import Lean
import PyProof.EqAt
import PyProof.EqKinds
import PyProof.TupleCall
import PyProof.StrLawsIn
import PyProof.StationsW
import PyProof.NeData
import OpenK.KOwn
import PyProof.NsDelKeeps
import PyProof.ExcArgsOwn
import PyProof.ExcAttrAll.ValueError
import PyProof.IsiH_tuple
import KE.KIsAll
import PyProof.CollectStr
import PyProof.ZipIter
import PyProof.Rows.ZipGen
import PyProof.JoinWalk
import PyProof.CollectIter
import PyProof.EnumMake
import PyProof.SumAny
import PyProof.MeetsSeq3
import PyProof.ListRange
import PyProof.ListNew
import PyProof.DictUpdate
import PyProof.FitsBits
import PyProof.StrCalls6
import PySem.Challenge.RW_trunksay_k17_whole_what_going_does_not_l
set_option Elab.async false
set_option linter.all false
set_option maxRecDepth 100000
set_option hygiene false
local macro_rules|`(tactic|walk_at "1")=>`(tactic|refine⟨μ,ρ,st,l,RK.bind h l fun μ1 st1 x v H1 p1 x1 l1 q1 h1=>?_⟩)
local macro_rules|`(tactic|walk_at "2")=>`(tactic|obtain⟨μ,ρ,st,l,h⟩:=h)
local macro_rules|`(tactic|walk_at "3")=>`(tactic|obtain rfl|rfl|rfl|rfl|rfl|rfl|rfl|rfl|rfl|rfl:q=0\/q=1\/q=2\/q=3\/q=4\/q=5\/q=6\/q=7\/q=8\/q=9:=by omega)
local macro_rules|`(tactic|walk_at "4")=>`(tactic|intro X hP hw hK hc i ai s σ H E I hf st hg)
local macro_rules|`(tactic|walk_at "5")=>`(tactic|obtain⟨f0,f1,f2,f3,f4,f5⟩:=hf it (by simp))
local macro_rules|`(#[0])=>`(by omega)
local macro_rules|`(#[1])=>`(by decide)
local macro_rules|`(#[2])=>`(.loc st.length)
local macro_rules|`(#[3])=>`(Option Nat×Option Nat)
local macro_rules|`(#[4])=>`(fq X nm scope (cellsFrom (G2.objs.size+1) scope.names []++cl) G2.objs.size s2 H1 fp)
local macro_rules|`(#[5])=>`(model X.prog X.w)
local macro_rules|`(#[6])=>`(aR (a_ kv bd rfl))
local macro_rules|`(#[7])=>`(bw (ae 0) aD)
local macro_rules|`(#[8])=>`(dW X nm scope cl C s0 H0 fp)
local macro_rules|`(#[9])=>`(model prog w)
local macro_rules|`(#[10])=>`(e2 bH (af 0) (eI 0))
local macro_rules|`(#[11])=>`(.ListComp rh [⟨tg,d3,mU,0⟩] scope pos)
local macro_rules|`(#[12])=>`(a_ (w0 _ rfl) bd rfl)
local macro_rules|`(#[13])=>`((relabel scope X.env).names.lookup x=some .cell\/(relabel scope X.env).names.lookup x=some .free)
local macro_rules|`(#[14])=>`(ws.map some++List.replicate (N-ws.length) none)
local macro_rules|`(#[15])=>`(e2 bH (af 0) (eI 1))
local macro_rules|`(#[16])=>`(ah (af 1) aK)
local macro_rules|`(#[17])=>`(s.heap.objs.size+1)
local macro_rules|`(#[18])=>`(by simp)
local macro_rules|`(#[19])=>`((e::es).length+([]:List Keyword).length+(if ([]:List Keyword).isEmpty then 0 else 1)<30)
local macro_rules|`(#[20])=>`(e2 bH (af 0) (eI 2))
local macro_rules|`(#[21])=>`(excClassObj nm q C N bs bm hdct sn sub ab col dd k0 k1 k2 k3 k5 pA)
local macro_rules|`(#[22])=>`(.loc (st.length+1))
local macro_rules|`(#[23])=>`(aa (ae 1) aw)
set_option hygiene true
open Array renaming length_toList→d8,getElem?_eq_getElem→eF,getElem?_toList→fO,eq_empty_of_size_eq_zero→gE,getD_eq_getD_getElem?→kF,toList_push→lX
open Bool renaming eq_iff_iff→cF,and_eq_true→cO,or_eq_true→d_,false_ne_true→eJ,not_eq_true'→fY,false_eq_true→gP,and_true→iL,true_and→jQ,false_and→k6,or_false→ms,false_or→mx,not_true→qB,true_or→sw
open Iff renaming rfl→nH
open Int renaming toNat_natCast→bu,zero_add→d7,emod_nonneg→iU,fdiv_eq_ediv_of_nonneg→k8,emod_lt_of_pos→li,natCast_mul→nX
open LawfulBEq renaming eq_of_beq→mL
open List renaming getElem?_eq_some_iff→aj,getElem?_eq_getElem→aq,prefix_refl→au,length_map→az,length_append→aE,getElem?_map→aG,append_assoc→aM,getD_eq_getElem?_getD→aT,mem_singleton→aV,map_cons→aW,size_toArray→aZ,mem_cons→a7,mem_append_right→bf,mem_append→bg,mem_cons_of_mem→bi,getElem?_append_left→bj,map_map→bp,getElem?_eq_none→bq,mem_of_getElem?→bC,length_take→bE,getElem?_set_self→bQ,prefix_append→bR,mem_cons_self→bY,pairwise_cons→bZ,map_append→b7,mem_map→b8,getElem?_set_ne→ce,append_nil→cC,length_range→cE,length_filter_le→cI,getElem?_range→cU,mem_append_left→cZ,take_append_of_le_length→c5,getElem?_take_of_lt→c8,mem_range→df,getElem?_append_right→dg,mem_filter→dk,find?_cons→dr,take_of_length_le→dv,getElem_mem→dw,ext_getElem?→d6,map_congr_left→d9,length_cons→eM,take_length→eN,getElem?_of_mem→eX,length_eq_one_iff→fB,not_mem_nil→fE,filterMap_cons→gm,all_eq_true→gF,eq_nil_of_length_eq_zero→gM,length_nil→gY,take_add_one→h9,length_drop→im,any_eq_true→io,drop_eq_getElem_cons→ip,getElem?_eq_none_iff→iq,filter_eq_self→iz,nodup_cons→iR,nil_append→iT,lookup_append→i4,getElem?_replicate→i9,lookup_cons→jH,filter_cons→jJ,sum_cons→jS,map_id→j6,length_set→ke,map_nil→kD,mem_filterMap→k7,take_left→lg,contains_cons→lh,any_eq_false→lV,flatten_cons→lY,mem_range'_1→lZ,any_cons→mv,range_succ_eq_map→ny,drop_eq_nil_of_le→nz,drop_of_length_le→nD,of_mem_zip→nQ,filter_map→nZ,length_replicate→og,length_singleton→oh,take_zero→pH,map_set→sD,map_id'→sE
open List.Perm renaming refl→ii
open Nat renaming le_of_ble_eq_true→ax,le_refl→ay,le_trans→aH,lt_of_lt_of_le→aS,ne_of_lt→aY,le_succ→bB,zero_le→bU,lt_succ_self→cM,add_sub_cancel_left→cV,lt_succ_of_lt→cX,lt_irrefl→dh,zero_add→dy,zero_testBit→dP,pow_le_pow_right→dQ,lt_or_ge→d5,lt_of_le_of_lt→eK,ne_of_gt→eP,testBit_lt_two_pow→fC,le_of_lt→fW,testBit_eq_decide_div_mod_eq→f_,le_succ_of_le→hW,not_lt→i5,lt_of_succ_lt_succ→jm,lt_trichotomy→jp,eq_of_testBit_eq→j8,not_lt_zero→kh,pow_succ→kG,eq_zero_or_pos→ln,one_le_two_pow→lr,testBit_two_pow_add_gt→lu,testBit_two_pow_add_eq→lv,le_add_right→mM,le_mul_of_pos_right→mQ,mod_lt→nC,mul_comm→nF,le_mul_of_pos_left→nG,testBit_and→nY,add_zero→sy
open Option renaming map_eq_some_iff→b9,map_some→n4
open Option.some renaming inj→bn,injEq→l6
open PyProof renaming noPylong_small→nu
open PyProof.Rows renaming callWith_type1→dS,slot_tuple_getitem→eD,boot_tuple→gi,boot_isinstance→iS,callWith_builtin1→jF,subscriptTail_builtinR→nv,sorted_out_str→pD,boot_bool→pZ,Constant_none→qw,strKind_oneLt→qz,keyKind_strs→sA
open PyProof.Rows.F renaming plain_set_update_loop→fm,entry_set_update_loop→iw
open PySem renaming wpAny_bind→ag,wpAny_pure→aA,wpAny_newObj_type→cD,wpAny_callSpecial?_slot→cJ,boot_len→cL,wpAny_call_entry→cN,codeAny_builtin→c6,wpAny_holding→dm,wpAny_loadPart'→dq,isSubtype_type→dH,wpAny_truthy_bool→d4,plainId_quiet→eQ,wpAny_loadPart_at→e6,wpAny_setField_rec→fN,wpAny_passesOwn→fS,wpAny_setState_of→fZ,wpAny_setEntries_of→gn,wpAny_isInstance→gG,wpAny_field→gK,wpAny_Call_Name_kw→gQ,wpAny_typeOf→gR,wpAny_nameGoes_keeps→ij,wpAny_isSubtype_exc→iy,wpAny_execs_nil→iQ,wpAny_mono→iZ,wpAny_pyIter_tuple→i3,wpAny_pyNext_ascii_item→i_,codeAny_mono→jk,wpAny_pyNext_wide_item→jl,builtinLookup_eq_fast→jy,typeIs_str→jG,wpAny_attempt→jR,codeAny_call_builtin→j7,pushCells_keeps→kc,tupleKind_room_in1→k9,wpAny_pyIter_ascii→k_,wpAny_seqItems→la,wpAny_fieldsOf→lc,sizeLine_eq→lU,wpAny_pyIter_wide→lW,noFill_tuple_add→mK,wpAny_askSetting→mO,wpAny_pyIter_rangeiter→nr,wpAny_Call_method_late→nA,wpAny_rule→nB,wpAny_noteFrame_againW→nE,typeLookup_type→nR,codeAny_of_tree→nS,wpAny_specialOf→nT,wpAny_ite_split→nU,wpAny_updateSeq→nV,wpAny_storeName_local→n9,wpAny_isTrue_Compare1→n_,wpAny_of_eq→pE,isSubtype_stop→pF,wpAny_runValue→pG,wpAny_standAt→qx,seq_tuple_add→qy,call_meets→rj,concat_meets→su,seqIndex_neg→sv,wpAny_landsW→sB,putSet_of→tF
open PySem.Around renaming under_plainId→cQ
open PySem.Calls renaming spliced_cons→dJ,spliced_nil→fX,callWith_builtin→gT,evalArgs_plain→ig,Name_function_global→kZ,call_function_entry→lE
open PySem.F renaming slot_tuple_iterator_next→fM,typeOf_object_class→jz,args_tuple_iterator_next_1→kg,entry_tuple_iterator_next→kE,slot_enumerate_next→ol
open PySem.Heap renaming get?_push_of_some→av,get?_push_size→aO,lt_size→aP,size_push→cm,get?_update_other→cP,get?_update_self→dF
open PySem.Heap.SameBut renaming update→iu
open PySem.SeqAt renaming str_beq→qA
open PySem.StrLaws renaming glued_eq_join→g_
open PySem.Value renaming isStrOf_shape→ku
def aC:=@if_pos
def aI:=@decide_eq_false
def aJ:=@if_neg
def aN:=@decide_eq_true
def bz:=@beq_eq_false_iff_ne
def bG:=@decide_eq_true_iff
def dL:=@beq_iff_eq
def f9:=@decide_eq_true_eq
def hZ:=@of_decide_eq_true
def iJ:=@congrArg
def iK:=@if_false
def jI:=@decide_eq_decide
def jP:=@if_true
def lj:=@congrFun
def mP:=@or_false
def n5:=@and_congr_right
def sF:=@exists_congr
set_option compiler.extract_closed false
noncomputable section
variable{M:PySem.Model}{p pos iY gH p2 dD:PySem.Pos}{s:PySem.Shared}{α β:Type}{A:PySem.Around}{E Q Qv Q₁:PySem.Value->PySem.Shared->Prop}{nk n n' t' N i j c m kk ep q:Nat}{x name fL:PySem.Str}{v u:PySem.Value}{us bT:List PySem.Value}{a b it C:PySem.Addr}{o e tg d3 rh:PySem.Expr}{P prog:PySem.Program}{h h' base:PySem.Heap}{ai pins':List (PySem.Addr×PySem.Obj)}{g':Array PySem.GenState}{ch fp μ μ':List PySem.Addr}{op:PySem.CmpOp}{K:PySem.W.Frag}{es mU JF:List PySem.Expr}{g:PySem.Value->PySem.Value->PySem.Sem PySem.Value}{mA mg:PySem.Str->Option PySem.Value}{fd:PySem.FuncData}{ps ks nm:List PySem.Str}{kindOf:PySem.Str->Option PySem.NameKind}{scope:PySem.Scope}{T:String}{l S:List Nat}{XP:(PySem.Str->Option PySem.Value)->PySem.Heap->Prop}{YP:PySem.World->PySem.Heap->Prop}{cl:List (PySem.Str×PySem.Addr)}{cap B:List (Option Nat)}{use:Option (PySem.Value->PySem.Sem Unit)}{ls:List (List Nat)}{ds:List Int}{tj:List #[3]}
open PySem.W (Frag)
open PySem.W (hideAll findIn kitOne kia_one fnOf codeIn keepIn excIn kitAny nsIn mg_of mg_none_of)
namespace L2
open PySem PySem.Spec PyProof.Rows
theorem xM{Γ:PySem.Ctx}{t:Sem Fin}{fs:List Frame}{s':Shared}{e:End}(h:Runs M Γ p t fs s e s'):s.toks<=s'.toks:=by
 induction h
 case fresh ih=>exact aH (bB _) ih
 case call i1 i2=>exact aH i1 i2
 case resumeFresh i1 i2=>exact aH i1 i2
 case resumeSuspended i1 i2=>exact aH i1 i2
 case segRet i1 i2=>exact aH i1 i2
 case segGen i1 i2=>exact aH i1 i2
 case segSuspGen i1 i2=>exact aH i1 i2
 all_goals first|exact ay _|assumption
theorem FH{Γ:PySem.Ctx}{g:Nat}{r:Resume}{s':Shared}{res:GenResult}(h:Wakes M Γ p g r s res s'):s.toks<=s'.toks:=by
 unfold Wakes at h
 split at h
 ·exact h.elim
 ·split at h
  ·obtain⟨e,s1,h1,_,_,rfl⟩:=h;have q:=xM h1;exact q
  ·rw[h.2];exact ay _
  ·rw[h.2];exact ay _
 ·obtain⟨e,s1,h1,_,_,rfl⟩:=h;have q:=xM h1;exact q
 ·rw[h.2];exact ay _
 ·rw[h.2];exact ay _
theorem Q8{Γ:PySem.Ctx}(n:Nat)(m:Sem α):∀{Q:α->Pos->Shared->Prop} {E:Value->Pos->Shared->Prop} {p:Pos} {s:Shared},n<=s.toks->Sem.wp M Γ m Q E p s ->
  Sem.wp M Γ m (fun a p' s'=>n<=s'.toks/\Q a p' s') (fun e p' s'=>n<=s'.toks/\E e p' s') p s:=by
 induction m
 all_goals intro Q E p s hn h
 all_goals (first|(rename_i ih)|skip)
 all_goals (try simp only[Sem.wp]at h ⊢)
 all_goals first
  |exact⟨hn,h⟩
  |exact ih _ hn h
  |exact ih _ (hW hn) h
  |(obtain⟨o,h1,h2⟩:=h;exact⟨o,h1,ih _ hn h2⟩)
  |exact⟨h.1,ih _ hn h.2⟩
  |(obtain⟨r,s',h1,h2⟩:=h;exact⟨r,s',h1,ih _ (aH hn (xM h1)) h2⟩)
  |(obtain⟨r,s',h1,h2⟩:=h;exact⟨r,s',h1,ih _ (aH hn (FH h1)) h2⟩)
theorem up{m:Sem α}{Q:α->Shared->Prop}(h:wpAny M A m (fun a s'=>s.toks<=s'.toks->Q a s') (fun e s'=>s.toks<=s'.toks->E e s') s):wpAny M A m Q E s:=fun Γ p hΓ=>
 Sem.wp_mono M Γ m (fun a p' s' h'=>h'.2 h'.1) (fun e p' s' h'=>h'.2 h'.1) p s (Q8 s.toks m (ay _) (h Γ p hΓ))
end L2
namespace L2
open PySem PySem.Spec PyProof.Rows
abbrev jT:=Sum Int Str
def ww:jT->Value->Bool
 |.inl k,v=>Value.isInt k v
 |.inr x,v=>Value.isStrOf x v
def UB(w:World):jT->Int
 |.inl k=>hashInt k
 |.inr x=>hashStr w x
theorem fT:∀{k:jT} {v:Value},ww k v=true->(∃i t,k=Sum.inl i/\v=Value.int i t)\/(∃x t,k=Sum.inr x/\v=Value.str x t)
 |.inl i,v,h=>by
  obtain⟨t,e⟩:=Value.isInt_shape (k:=i) (v:=v) h
  exact .inl ⟨i,t,rfl,e⟩
 |.inr x,v,h=>by
  obtain⟨t,e⟩:=ku (x:=x) (v:=v) h
  exact .inr ⟨x,t,rfl,e⟩
theorem Eu(i:Int)(t:Tok):ww (.inl i) (.int i t)=true:=by simp[ww,Value.isInt]
theorem Ev(x:Str)(t:Tok):ww (.inr x) (.str x t)=true:=by simp[ww,Value.isStrOf]
theorem NE(a b:Int):decide ((Sum.inl a:jT)=Sum.inl b)=(a==b):=by
 by_cases e:a=b
 ·subst e;simp
 ·have h:¬ (Sum.inl a:jT)=Sum.inl b:=fun q=>e (Sum.inl.inj q)
  rw[aI h]
  exact(bz.mpr e).symm
theorem NF(a b:Str):decide ((Sum.inr a:jT)=Sum.inr b)=decide (a=b):=by
 by_cases e:a=b
 ·subst e;simp
 ·have h:¬ (Sum.inr a:jT)=Sum.inr b:=fun q=>e (Sum.inr.inj q)
  rw[aI h,aI e]
theorem NG(a:Int)(b:Str):decide ((Sum.inl a:jT)=Sum.inr b)=false:=aI (fun q=>nomatch q)
theorem NH(a:Str)(b:Int):decide ((Sum.inr a:jT)=Sum.inl b)=false:=aI (fun q=>nomatch q)
def gk(prog:Program)(w:World):PySem.KeyKind prog w jT where
 is:=ww
 hash:=UB w
 inj:=fun v a b ha hb=>by
  rcases fT ha with⟨i,t,rfl,rfl⟩|⟨x,t,rfl,rfl⟩
  ·rcases fT hb with⟨j,u,rfl,e⟩|⟨y,u,rfl,e⟩
   ·injection e with e1 _;rw[e1]
   ·exact nomatch e
  ·rcases fT hb with⟨j,u,rfl,e⟩|⟨y,u,rfl,e⟩
   ·exact nomatch e
   ·injection e with e1 _;rw[e1]
 byValue:=fun k v h=>by
  rcases fT h with⟨i,t,rfl,rfl⟩|⟨x,t,rfl,rfl⟩<;>rfl
 pyHash:=fun hv h=>by
  rcases fT hv with⟨i,t,rfl,rfl⟩|⟨x,t,rfl,rfl⟩
  ·exact wpAny_pyHash_int h
  ·exact wpAny_pyHash_str h
 eqBool:=fun hu hv h=>by
  rcases fT hu with⟨i,t,rfl,rfl⟩|⟨x,t,rfl,rfl⟩
  ·rcases fT hv with⟨j,u,rfl,rfl⟩|⟨y,u,rfl,rfl⟩
   ·rw[NE]at h;exact wpAny_eqBool_int h
   ·rw[NG]at h;exact SeqAt.EqAt.int_str i t y u _ _ _ _ h
  ·rcases fT hv with⟨j,u,rfl,rfl⟩|⟨y,u,rfl,rfl⟩
   ·rw[NH]at h;exact SeqAt.EqAt.str_int x t j u _ _ _ _ h
   ·rw[NF]at h;exact wpAny_eqBool_str h
 «strs»:=fun k x t v h=>by
  rcases fT h with⟨i,u,rfl,e⟩|⟨y,u,rfl,e⟩
  ·exact nomatch e
  ·injection e with e1 _
   subst e1
   cases v<;>rfl
theorem zc(prog:Program)(w:World)(i:Int)(t:Tok):(gk prog w).is (.inl i) (.int i t)=true:=Eu i t
theorem zd(prog:Program)(w:World)(x:Str)(t:Tok):(gk prog w).is (.inr x) (.str x t)=true:=Ev x t
end L2
variable{xs:List (List L2.jT×PySem.Addr×PySem.Value)}
namespace L2
open PySem PySem.Spec PyProof.Rows
inductive V where
 |non|bl (b:Bool)|int (i:Int)|str (x:Str)|byt (b:Array UInt8)|flt (b:UInt64)|ref (a:Addr)|ty (n:String)
 deriving DecidableEq
def Tk(n:Nat)(x:Str):Type:={ t:Tok // x.length=1->0<t/\t<n }
instance {n:Nat} {x:Str}:CoeOut (Tk n x) Tok:=⟨fun t=>t.1⟩
def Tk.up(h:n<=n')(t:Tk n x):Tk n' x:=⟨t.1,fun e=>⟨(t.2 e).1,aS (t.2 e).2 h⟩⟩
def cW(n:Nat):V->Value->Prop
 |.non,u=>u=Value.none
 |.bl b,u=>u=Value.bool b
 |.int i,u=>∃t,u=Value.int i t
 |.str x,u=>∃t:Tk n x,u=Value.str x t.1
 |.byt b,u=>∃t,u=Value.bytes b t
 |.flt b,u=>∃t,u=Value.float b t
 |.ref a,u=>u=Value.ref a
 |.ty n,u=>u=Value.type n
theorem cW.up(h:n<=n'){v:V}(r:cW n v u):cW n' v u:=by
 cases v with
 |str x=>obtain⟨t,e⟩:=r;exact⟨t.up h,e⟩
 |_=>exact r
abbrev cR(n:Nat):List V->List Value->Prop:=Paired (cW n)
theorem cR.up(h:n<=n'):∀{xs:List V} {us:List Value},cR n xs us->cR n' xs us
 |_,_,.nil=>.nil
 |_,_,.cons r t=>.cons (r.up h) (cR.up h t)
theorem cR.length{xs:List V}(r:cR nk xs us):xs.length=us.length:=Paired.length r
theorem cR.get:∀{xs:List V} {us:List Value} {i:Nat} {x:V},cR nk xs us->xs[i]?=some x->∃u,us[i]?=some u/\cW nk x u
 |_,_,_,_,.nil,e=>by simp at e
 |_,_,0,_,.cons r _,e=>by simp at e;subst e;exact⟨_,rfl,r⟩
 |_,_,i+1,x,.cons _ t,e=>by
  obtain⟨u,h1,h2⟩:=cR.get (i:=i) (x:=x) t (by simpa using e)
  exact⟨u,by simpa using h1,h2⟩
theorem cR.set{x:V}(r:cW nk x u):∀{xs:List V} {us:List Value} (i:Nat),cR nk xs us->cR nk (xs.set i x) (us.set i u)
 |_,_,_,.nil=>.nil
 |_,_,0,.cons _ t=>.cons r t
 |_,_,i+1,.cons q t=>.cons q (cR.set r i t)
theorem cR.append:∀{xs ys:List V} {us ws:List Value},cR nk xs us->cR nk ys ws->cR nk (xs++ys) (us++ws)
 |_,_,_,_,.nil,s=>s
 |_,_,_,_,.cons r t,s=>.cons r (cR.append t s)
theorem cR.take:∀{xs:List V} {us:List Value} (n:Nat),cR nk xs us->cR nk (xs.take n) (us.take n)
 |_,_,0,_=>.nil
 |_,_,_+1,.nil=>.nil
 |_,_,n+1,.cons r t=>.cons r (cR.take n t)
theorem cR.drop:∀{xs:List V} {us:List Value} (n:Nat),cR nk xs us->cR nk (xs.drop n) (us.drop n)
 |_,_,0,r=>r
 |_,_,_+1,.nil=>.nil
 |_,_,n+1,.cons _ t=>cR.drop n t
def t9(n:Nat):Option V->Option Value->Prop
 |some v,some u=>cW n v u
 |none,none=>True
 |_,_=>False
theorem t9.up(h:n<=n'):∀{o:Option V} {u:Option Value},t9 n o u->t9 n' o u
 |some _,some _,r=>cW.up h r
 |none,none,_=>trivial
 |none,some _,r=>r
 |some _,none,r=>r
def KV{κ:Type}(n:Nat):List (κ×V)->List (κ×Value)->Prop:=Paired fun(p:κ×V) (q:κ×Value)=>p.1=q.1/\cW n p.2 q.2
def kV:jT->V
 |.inl i=>.int i
 |.inr x=>.str x
inductive HO where
 /-- a list -/
 |lst (xs:List V)
 /-- a tuple (never changes) -/
 |tup (xs:List V)
 /-- a dict whose keys are ints and texts;one whose keys are tuples of ints and texts (the empty one is both) -/
 |dK (kvs:List (jT×V))|dT (kvs:List (List jT×V))
 /-- a set of ints: bT members,bT size -/
 |set (S:Int->Bool) (n:Nat)
 /-- an instance of the class at C,bT dict at dx,bT attributes -/
 |ins (C dx:Addr) (fs:List (Str×V))
 /-- the dict of the instance at x -/
 |own (x:Addr)
 /-- the dict of an exception -/
 |xd (fs:List (Str×V))
 /-- a bound method,f of x -/
 |met (f x:Addr)
 /-- a range object lo,lo+1,.. below hi -/
 |rng (lo hi:Int)
 /-- a thing that is known to the object (the script;a dict while a loop walks it): read,never written while it is so -/
 |frz (o:Obj) (u:HO)
 /-- a code object's table -/
 |tbl (ps:Array Value)
 /-- any other thing,by what is true of bT one object (a def of V9 own: SetO a S n:=HO.ext fun h=>..) -/
 |ext (φ:Heap->Prop)
abbrev Hp:=Addr->Option HO
def eG(H:Hp)(a:Addr)(o:HO):Hp:=fun b=>if b=a then some o else H b
theorem gU{H:Hp}{o:HO}:eG H a o a=some o:=by unfold eG;rw[aC rfl]
theorem c9{H:Hp}{o:HO}(h:b≠a):eG H a o b=H b:=by unfold eG;rw[aJ h]
theorem Q9{H:Hp}{o u:HO}(h:H a=some o)(h':H b=some u)(d:o≠u):a≠b:=by
 intro e;subst e;rw[h]at h';exact d (bn h')
theorem fF{H:Hp}{o:HO}(h:H a=some o)(h':H b=none):a≠b:=by
 intro e;subst e;rw[h]at h';cases h'
section
variable(P:Program)(w:World)
def eR(n:Nat)(H:Hp)(h:Heap)(a:Addr):HO->Prop
 |.lst xs=>xs.length<=sizeLine/\∃(bT:List Value) (m:Nat),cR n xs bT/\h.get? a=some { cls:=.type "list",data:=.seq bT.toArray m }
 |.tup xs=>xs.length<=sizeLine/\∃bT:List Value,cR n xs bT/\IsTup h a bT.toArray
 |.dK kvs=>kvs.length<=sizeLine/\(a==sysModules)=false/\∃vs,KV n kvs vs/\h.DictOf (gk P w) a vs
 |.dT kvs=>kvs.length<=sizeLine/\(a==sysModules)=false/\∃xs:List (List jT×Addr×Value),
   Paired (fun(p:List jT×V) (q:List jT×Addr×Value)=>p.1=q.1/\H q.2.1=some (.tup (p.1.map kV))/\cW n p.2 q.2.2) kvs xs /\
   ∃o es ep,h.get? a=some o/\o.ExactDict/\o.data=.dict es ep/\es.toList=xs.map (entryOfKey (tupleKind (gk P w)))/\(xs.map (·.1)).Nodup
 |.set S m=>h.SetOf (intKind P w) a S m
 |.ins C dx fs=>H dx=some (.own a)/\fs.length<=1000/\dx≠a/\h.get? a=some (PySem.W.instObj C dx) /\
   ∃mA,h.Ns1 dx mA/\(∀f,t9 n (fs.lookup f) (mA f))/\PySem.Within mA (fs.map (·.1))
 |.own _=>∃o,h.get? a=some o
 |.xd fs=>∃mA,h.Ns1 a mA/\∀f,t9 n (fs.lookup f) (mA f)
 |.rng lo hi=>∃t u v,h.get? a=some { cls:=.type "range",data:=.fields #[.int lo t,.int hi u,.int 1 v] }
 |.frz o u=>h.get? a=some o/\eR n H h a u
 |.tbl ps=>h.get? a=some { cls:=.none,data:=.fields ps }
 |.met f x=>h.get? a=some (PySem.W.methodObj (.ref f) (.ref x))
 |.ext φ=>φ h/\(∃o,h.get? a=some o)/\∀h1 h2:Heap,φ h1->(∀o,h1.get? a=some o->h2.get? a=some o)->φ h2
def pI(n:Nat)(H:Hp)(h:Heap):Prop:=∀a o,H a=some o->eR P w n H h a o
end
section
variable{w:World}{H H':Hp}{o:HO}
theorem eR.lt(x:eR P w nk H h a o):a<h.objs.size:=by
 cases o with
 |lst xs=>obtain⟨_,_,_,_,e⟩:=x;exact aP e
 |tup xs=>obtain⟨_,_,_,p⟩:=x;exact p.lt
 |dK kvs=>obtain⟨_,_,_,_,o,_,_,e,_⟩:=x;exact aP e
 |dT kvs=>obtain⟨_,_,_,_,o,_,_,e,_⟩:=x;exact aP e
 |set S n=>obtain⟨o,_,_,_,e,_⟩:=x;exact aP e
 |ins C dx fs=>obtain⟨_,_,_,e,_⟩:=x;exact aP e
 |own y=>obtain⟨_,e⟩:=x;exact aP e
 |xd fs=>obtain⟨_,⟨_,_,_,e,_⟩,_⟩:=x;exact aP e
 |rng lo hi=>obtain⟨_,_,_,e⟩:=x;exact aP e
 |frz ob u=>obtain⟨e,_⟩:=x;exact aP e
 |tbl ps=>exact aP (show h.get? a=some _ from x)
 |met f y=>exact aP (show h.get? a=some _ from x)
 |ext φ=>obtain⟨_,⟨_,e⟩,_⟩:=x;exact aP e
theorem Paired.mapP{F G:α->β->Prop}:∀{l₁:List α} {l₂:List β},Paired F l₁ l₂->(∀a b,F a b->G a b)->Paired G l₁ l₂
 |_,_,.nil,_=>.nil
 |_,_,.cons r t,f=>.cons (f _ _ r) (Paired.mapP t f)
theorem Paired.imp'{F G:α->β->Prop}(f:∀a b,F a b->G a b){l₁:List α}{l₂:List β}(r:Paired F l₁ l₂):Paired G l₁ l₂:=Paired.mapP r f
theorem eR.stay(x:eR P w nk H h a o)(k:∀b u,(b=a\/H b=some (.own a))->h.get? b=some u->h'.get? b=some u)
  (ho:∀b,H b=some (.own a)->H' b=some (.own a)) (ht:∀b xs,H b=some (.tup xs)->H' b=some (.tup xs)):eR P w nk H' h' a o:=by
 induction o with
 |lst xs=>obtain⟨z,bT,n,r,e⟩:=x;exact⟨z,bT,n,r,k _ _ (.inl rfl) e⟩
 |tup xs=>obtain⟨z,bT,r,ob,e,c⟩:=x;exact⟨z,bT,r,ob,k _ _ (.inl rfl) e,c⟩
 |dK kvs=>obtain⟨z,y,vs,r,ob,es,ep,e,c⟩:=x;exact⟨z,y,vs,r,ob,es,ep,k _ _ (.inl rfl) e,c⟩
 |dT kvs=>
  obtain⟨z,y,xs,r,ob,es,ep,e,c⟩:=x
  exact⟨z,y,xs,Paired.mapP r fun p q z=>⟨z.1,ht _ _ z.2.1,z.2.2⟩,ob,es,ep,k _ _ (.inl rfl) e,c⟩
 |set S n=>obtain⟨ob,es,ep,t,e,c⟩:=x;exact⟨ob,es,ep,t,k _ _ (.inl rfl) e,c⟩
 |ins C dx fs=>
  obtain⟨d,z,ne,e,mA,⟨od,es,ep,e2,c⟩,r⟩:=x
  exact⟨ho _ d,z,ne,k _ _ (.inl rfl) e,mA,⟨od,es,ep,k _ _ (.inr d) e2,c⟩,r⟩
 |own y=>obtain⟨ob,e⟩:=x;exact⟨ob,k _ _ (.inl rfl) e⟩
 |xd fs=>obtain⟨mA,⟨od,es,ep,e,c⟩,r⟩:=x;exact⟨mA,⟨od,es,ep,k _ _ (.inl rfl) e,c⟩,r⟩
 |rng lo hi=>obtain⟨t,u,v,e⟩:=x;exact⟨t,u,v,k _ _ (.inl rfl) e⟩
 |frz ob u ih=>obtain⟨e,q⟩:=x;exact⟨k _ _ (.inl rfl) e,ih q⟩
 |tbl ps=>
  have e:h.get? a=some { cls:=.none,data:=.fields ps }:=x
  show h'.get? a=some { cls:=.none,data:=.fields ps }
  exact k a _ (.inl rfl) e
 |met f y=>
  have e:h.get? a=some (PySem.W.methodObj (.ref f) (.ref y)):=x
  show h'.get? a=some (PySem.W.methodObj (.ref f) (.ref y))
  exact k a _ (.inl rfl) e
 |ext φ=>obtain⟨p,⟨o,e⟩,st⟩:=x;exact⟨st _ _ p fun o q=>k _ _ (.inl rfl) q,⟨o,k _ _ (.inl rfl) e⟩,st⟩
theorem Paired.upR(h:n<=n'){κ:Type}{l₁:List (κ×V)}{l₂:List (κ×Value)}(r:KV n l₁ l₂):KV n' l₁ l₂:=Paired.mapP r fun _ _ z=>⟨z.1,z.2.up h⟩
theorem eR.up(hn:nk<=n')(x:eR P w nk H h a o):eR P w n' H h a o:=by
 induction o with
 |lst xs=>obtain⟨z,bT,n,r,e⟩:=x;exact⟨z,bT,n,r.up hn,e⟩
 |tup xs=>obtain⟨z,bT,r,ob⟩:=x;exact⟨z,bT,r.up hn,ob⟩
 |dK kvs=>obtain⟨z,y,vs,r,ob⟩:=x;exact⟨z,y,vs,Paired.upR hn r,ob⟩
 |dT kvs=>obtain⟨z,y,xs,r,ob⟩:=x;exact⟨z,y,xs,Paired.mapP r fun p q z=>⟨z.1,z.2.1,z.2.2.up hn⟩,ob⟩
 |ins C dx fs=>obtain⟨d,z,ne,e,mA,c,r,q⟩:=x;exact⟨d,z,ne,e,mA,c,fun f=>(r f).up hn,q⟩
 |xd fs=>obtain⟨mA,c,r⟩:=x;exact⟨mA,c,fun f=>(r f).up hn⟩
 |frz ob u ih=>obtain⟨e,q⟩:=x;exact⟨e,ih q⟩
 |_=>exact x
theorem pI.up(hn:nk<=n')(x:pI P w nk H h):pI P w n' H h:=fun a o e=>(x a o e).up hn
theorem pI.lt(x:pI P w nk H h)(e:H a=some o):a<h.objs.size:=(x a o e).lt
theorem pI.fresh(x:pI P w nk H h)(e:h.objs.size<=a):H a=none:=by
 cases q:H a with
 |none=>rfl
 |some u=>exact absurd (aS (x.lt q) e) (dh _)
theorem pI.kept(x:pI P w nk H h)(k:∀b u,h.get? b=some u->h'.get? b=some u):pI P w nk H h':=fun a o e=>
 (x a o e).stay (fun b u _ q=>k b u q) (fun _ q=>q) fun _ _ q=>q
theorem pI.laid(x:pI P w nk H h)(k:∀b u,h.get? b=some u->h'.get? b=some u)(hp:h.objs.size<=a)(new:eR P w nk (eG H a o) h' a o):pI P w nk (eG H a o) h':=fun b u e=>by
 have hn:=x.fresh hp
 by_cases hb:b=a
 ·subst hb;rw[gU]at e;cases e;exact new
 ·rw[c9 hb]at e
  exact(x b u e).stay (fun c v _ q=>k c v q) (fun c q=>by rw[c9 (fF q hn)];exact q) fun c xs q=>by rw[c9 (fF q hn)];exact q
end
def Rd(H:Hp)(a:Addr)(u:HO):Prop:=H a=some u\/∃o,H a=some (.frz o u)
theorem Rd.ok{w:World}{H:Hp}{u:HO}(r:Rd H a u)(x:pI P w nk H h):eR P w nk H h a u:=by
 rcases r with r|⟨o,r⟩
 ·exact x a u r
 ·obtain⟨_,q⟩:=x a _ r
  exact q
def Q_:Option HO->Prop
 |some (.lst _)=>True
 |some (.dK _)=>True
 |some (.dT _)=>True
 |some (.set _ _)=>True
 |some (.ins _ _ _)=>True
 |some (.ext _)=>True
 |_=>False
section
variable{w:World}{H:Hp}{x e:Addr}{o':HO}
theorem pI.write(ok:pI P w nk H h)(mu:Q_ (H x))(he:e=x\/H e=some (.own x))(k:∀b u,b≠e->h.get? b=some u->h'.get? b=some u)(Ke:∃u,h'.get? e=some u)
  (new:eR P w nk (eG H x o') h' x o'):pI P w nk (eG H x o') h':=fun b u q=>by
 have nown:∀c y,H c=some (.own y)->c≠x:=fun c y r z=>by subst z;rw[r]at mu;exact mu
 have ntup:∀c xs,H c=some (.tup xs)->c≠x:=fun c xs r z=>by subst z;rw[r]at mu;exact mu
 by_cases hb:b=x
 ·subst hb;rw[gU]at q;cases q;exact new
 ·rw[c9 hb]at q
  by_cases hbe:b=e
  ·have q':H b=some (.own x):=by
    rcases he with z|z
    ·exact absurd (hbe.trans z) hb
    ·rw[hbe];exact z
   rw[q]at q';cases q'
   obtain⟨v,hv⟩:=Ke
   exact⟨v,by rw[hbe];exact hv⟩
  ·refine(ok b u q).stay (fun c v hc r=>k c v ?_ r) (fun c r=>by rw[c9 (nown c b r)];exact r) fun c xs r=>by rw[c9 (ntup c xs r)];exact r
   rcases hc with rfl|hc
   ·exact hbe
   ·rintro rfl
    rcases he with z|z
    ·exact nown c b hc z
    ·rw[hc]at z;cases z;exact hb rfl
end
structure Un(fs ex:List Addr)(H H':Hp)(h h':Heap):Prop where
 keep:∀b o,h.get? b=some o->H b=none->b∉fs->b∉ex->h'.get? b=some o
 slot:∀b o,h.get? b=some o->H b=none->b∈fs->b∉ex->∃sl,h'.get? b=some { o with slots:=sl }
 free:∀b o,h.get? b=some o->H b=none->b∉ex->H' b=none
 there:∀b o,h.get? b=some o->b∉ex->∃o',h'.get? b=some o'
 tups:∀b xs,H b=some (.tup xs)->H' b=some (.tup xs)
 frzs:∀b o u,H b=some (.frz o u)->H' b=some (.frz o u)
 tbls:∀b ps,H b=some (.tbl ps)->∃y8,H' b=some (.tbl (ps++y8))
section
variable{fs Wx ex WF:List Addr}{H H1 H2:Hp}{h1 h2:Heap}{x e:Addr}{o:HO}
theorem Un.any(u:Un fs ex H H1 h h1){ob:Obj}(q:h.get? b=some ob)(n:H b=none)(hx:b∉ex):∃sl,h1.get? b=some { ob with slots:=sl }:=by
 by_cases hb:b∈fs
 ·exact u.slot b ob q n hb hx
 ·exact⟨ob.slots,u.keep b ob q n hb hx⟩
theorem Un.kept(k:∀b u,h.get? b=some u->h'.get? b=some u):Un fs ex H H h h':=
 ⟨fun b ob q _ _ _=>k b ob q,fun b ob q _ _ _=>⟨ob.slots,k b ob q⟩,fun _ _ _ n _=>n,fun b ob q _=>⟨ob,k b ob q⟩,fun _ _ q=>q,fun _ _ _ q=>q,fun _ ps q=>⟨#[],by rw[q];simp⟩⟩
theorem Un.refl:Un fs ex H H h h:=Un.kept fun _ _ q=>q
theorem Un.laid(k:∀b u,h.get? b=some u->h'.get? b=some u)(hp:h.objs.size<=a)(hn:H a=none):Un fs ex H (eG H a o) h h' where
 keep:=fun b u q _ _ _=>k b u q
 slot:=fun b u q _ _ _=>⟨u.slots,k b u q⟩
 free:=fun b u q n _=>by rw[c9 (aY (aS (aP q) hp))];exact n
 there:=fun b u q _=>⟨u,k b u q⟩
 tups:=fun b xs q=>by rw[c9 (fF q hn)];exact q
 frzs:=fun b u xs q=>by rw[c9 (fF q hn)];exact q
 tbls:=fun b ps q=>⟨#[],by rw[c9 (fF q hn),q];simp⟩
theorem Un.write(mu:Q_ (H x))(he:e=x\/H e=some (.own x))(k:∀b u,b≠e->h.get? b=some u->h'.get? b=some u)(Ke:∃u,h'.get? e=some u):Un fs ex H (eG H x o) h h':=by
 have hx:∀b,H b=none->b≠x:=fun b n z=>by subst z;rw[n]at mu;exact mu
 have hb:∀b,H b=none->b≠e:=fun b n z=>by
  subst z
  rcases he with r|r
  ·exact hx b n r
  ·rw[n]at r;cases r
 have hm:∀b u,H b=some u->¬ Q_ (some u)->b≠x:=fun b u q nm z=>by subst z;rw[q]at mu;exact nm mu
 refine⟨fun b u q n _ _=>k b u (hb b n) q,fun b u q n _ _=>⟨u.slots,k b u (hb b n) q⟩,fun b u q n _=>by rw[c9 (hx b n)];exact n,fun b u q _=>?_,
  fun b xs q=>by rw[c9 (hm b _ q fun z=>z)];exact q,fun b u xs q=>by rw[c9 (hm b _ q fun z=>z)];exact q,fun b ps q=>⟨#[],by rw[c9 (hm b _ q fun z=>z),q];simp⟩⟩
 by_cases hbe:b=e
 ·subst hbe;exact Ke
 ·exact⟨u,k b u hbe q⟩
end
def Ul(h:Heap)(H:Hp):List Addr:=(List.range h.objs.size).filter fun a=>(H a).isSome
def xN(h:Heap)(H:Hp):Heap:=hideAll h (Ul h H)
theorem Ew(h:Heap)(H:Hp):(xN h H).objs.size=h.objs.size:=PySem.W.hideAll_size _ _
theorem FJ{H:Hp}{o:Obj}(e:h.get? b=some o)(n:H b=none):(xN h H).get? b=some o:=
 PySem.W.hideAll_get _ e fun hm=>by
  have q:(H b).isSome=true:=(dk.mp hm).2
  rw[n]at q;simp at q
theorem Kh{H:Hp}{o:Obj}(e:(xN h H).get? b=some o):h.get? b=some o/\H b=none:=by
 have e':h.get? b=some o:=PySem.W.of_hideAll (Ul h H) e
 refine⟨e',?_⟩
 cases q:H b with
 |none=>rfl
 |some x=>
  have hm:b∈Ul h H:=dk.mpr ⟨df.mpr (aP e'),by simp[q]⟩
  have z:(xN h H).get? b=none:=PySem.W.hideAll_none (Ul h H) hm
  rw[z]at e;cases e
def Ki(g h:Heap)(L:Addr):List (Addr×Obj):=(List.range h.objs.size).filterMap fun a=>if a=L\/(g.get? a).isSome=true then none else(h.get? a).map fun o=>(a,o)
def gb(g h:Heap)(L d:Addr):List (Addr×Obj):=(Ki g h L).filter fun p=>decide (p.1≠d)
end L2
variable{H H':L2.Hp}{vs:List L2.V}
namespace L2
open PySem PySem.Spec PyProof.Rows
structure Mod(K:Frag)(mg:Str->Option Value)(base:Heap):Prop where
 kin:K.In base
 glob:base.Ns mainGlobals mg
 blt:∃mb,base.Ns builtinsNs mb/\∀x:Str,x ≠ "__name__"->mb x=bootBuiltins x
 nolimit:base.NoLimit
structure Cx where
 prog:Program
 w:World
 K:Frag
 mg:Str->Option Value
 base:Heap
 A:Around
 N:List Str
 s₀:Shared
 H₀:Hp
 env:Env
 outer:List Env
 stack:List Env
 ex:List Addr
 fn:Str->Bool
 calm:Bool
 pn:List (Addr×Obj)
 xe:Value->Shared->Prop
def rk(l:List Env):List Addr:=l.filterMap (·.frame)
abbrev Cx.fs(X:Cx):List Addr:=rk X.outer
def Ra(sc:Scope)(x:Str):Prop:=sc.names.lookup x=some .local\/sc.names.lookup x=some .cell\/sc.names.lookup x=some .free
def J8(sc:Scope)(x:Str):Prop:=sc.names.lookup x=some .local\/sc.names.lookup x=some .cell
def UD(env:Env)(h:Heap)(m:Str->Option Value)(x:Str)(u:Value):Prop:=
 (env.kindOf x=some .local/\m x=some u)\/((env.kindOf x=some .cell\/env.kindOf x=some .free)/\∃c,env.cells.lookup x=some c/\h.IsCell c (some u))
structure Cx.Ok(X:Cx):Prop where
 mod:Mod X.K X.mg X.base
 kind:X.env.scope.kind=.function
 glob:X.env.globals=mainGlobals
 blt:X.env.builtins=builtinsNs
 above:X.s₀.heap.objs.size<=X.env.locals
 inj:∀x y c,X.env.cells.lookup x=some c->X.env.cells.lookup y=some c->x=y
 has:∀x,(X.env.kindOf x=some .cell\/X.env.kindOf x=some .free)->∃c,X.env.cells.lookup x=some c
 cab:∀x c,X.fn x=true->X.env.cells.lookup x=some c->X.s₀.heap.objs.size<=c
 hd:X.calm=true->X.A.handled=none
 frames:X.A.frames=some X.stack
 stk:X.stack=X.outer\/(X.stack=X.env::X.outer/\X.env.frame=some X.env.locals)
 exf:∀b∈X.ex,b≠X.env.locals/\∀x c,X.env.cells.lookup x=some c->c≠b
 bs:∀b o,X.base.get? b=some o->X.s₀.heap.get? b=some o/\X.H₀ b=none
 bsz:X.base.objs.size<=X.s₀.heap.objs.size
 noex:∀b o,X.base.get? b=some o->b∉X.ex
 exfs:∀b∈X.ex,b∉X.fs
 funs:X.s₀.heap.FunFrames X.base X.outer
 frf:∀b∈X.fs,X.H₀ b=none
structure bM(X:Cx)(ai:List (Addr×Obj))(σ:List (Option V))(H:Hp)(s:Shared):Prop where
 ok:X.Ok
 os:s.os=X.s₀.os
 bare:AllBare s.gens
 base:Un X.fs X.ex X.H₀ H X.s₀.heap s.heap
 loc:∃m,s.heap.Ns X.env.locals m/\∀(i:Nat) (x:Str) (v:V),X.N[i]?=some x->σ[i]?=some (some v)->Ra X.env.scope x->∃u,cW s.toks v u/\UD X.env s.heap m x u
 cell:∀x c,X.env.cells.lookup x=some c->∃v,s.heap.IsCell c v
 free:H X.env.locals=none
 freeC:∀x c,X.env.cells.lookup x=some c->H c=none
 pin:∀p∈X.pn++ai,s.heap.get? p.1=some p.2/\H p.1=none/\p.1≠X.env.locals/\p.1∉X.fs/\∀v,p.2.data≠.cell v
 hok:pI X.prog X.w s.toks H s.heap
 len:σ.length=X.N.length
 pos:0<s.toks
 tk:X.s₀.toks<=s.toks
section
variable{X:Cx}{σ:List (Option V)}
theorem Cx.Ok.nofr(ok:X.Ok){o:Obj}(e:X.base.get? b=some o):b∉X.fs:=fun hb=>by
 have:=(ok.funs.mem hb).1
 rw[e]at this;cases this
theorem bM.bs(I:bM X ai σ H s):∀b o,X.base.get? b=some o->s.heap.get? b=some o/\H b=none:=fun b o e=>
 ⟨I.base.keep b o (I.ok.bs b o e).1 (I.ok.bs b o e).2 (I.ok.nofr e) (I.ok.noex b o e),I.base.free b o (I.ok.bs b o e).1 (I.ok.bs b o e).2 (I.ok.noex b o e)⟩
theorem bM.bk(I:bM X ai σ H s):∀b o,X.base.get? b=some o->s.heap.get? b=some o:=fun b o e=>(I.bs b o e).1
theorem bM.mod(I:bM X ai σ H s):Mod X.K X.mg X.base:=I.ok.mod
theorem bM.kIn(I:bM X ai σ H s):X.K.In s.heap:=I.ok.mod.kin.keeps I.bk
theorem bM.lt(I:bM X ai σ H s):X.env.locals<s.heap.objs.size:=let ⟨_,hn,_⟩:=I.loc;hn.lt
theorem bM.sz(I:bM X ai σ H s):X.s₀.heap.objs.size<=s.heap.objs.size:=aH I.ok.above (fW I.lt)
theorem bM.nofs(I:bM X ai σ H s)(h:s.heap.objs.size<=a):a∉X.fs:=fun hb=>by
 obtain⟨_,o,ho,_⟩:=I.ok.funs.mem hb
 exact absurd (aS (aP ho) (aH I.sz h)) (dh _)
theorem bM.cne(I:bM X ai σ H s):∀x c,X.env.cells.lookup x=some c->c≠X.env.locals:=fun x c e z=>by
 obtain⟨v,o,ho,hd⟩:=I.cell x c e
 obtain⟨m,⟨o',es,ep,t6,hd',_⟩,_⟩:=I.loc
 rw[z,t6]at ho;cases ho;rw[hd']at hd;cases hd
theorem bM.funs(I:bM X ai σ H s):s.heap.FunFrames X.base X.outer:=by
 have all:∀(l:List Env),(∀b∈rk l,b∈X.fs)->X.s₀.heap.FunFrames X.base l->s.heap.FunFrames X.base l:=by
  intro l
  induction l with
  |nil=>intro _ _;trivial
  |cons env r ih=>
   intro hs hl
   obtain⟨hk,⟨L,o,hf,hn,ho,hd⟩,hr⟩:=hl
   have hL:L∈X.fs:=hs L (by unfold rk;rw[gm,hf];exact bY)
   obtain⟨sl,e⟩:=I.base.slot L o ho (I.ok.frf L hL) hL fun z=>I.ok.exfs L z hL
   exact⟨hk,⟨L,_,hf,hn,e,hd⟩,ih (fun b hb=>hs b (by unfold rk;rw[gm,hf];exact bi _ hb)) hr⟩
 exact all X.outer (fun _ hb=>hb) I.ok.funs
theorem bM.stack(I:bM X ai σ H s):s.heap.FunFrames X.base X.stack:=by
 rcases I.ok.stk with e|⟨e,hf⟩
 ·rw[e];exact I.funs
 ·rw[e]
  obtain⟨m,hn,_⟩:=I.loc
  refine .cons (by rw[I.ok.kind];decide) hf hn ?_ I.funs
  exact Heap.get?_none_of_le (aH I.ok.bsz I.ok.above)
theorem bM.stkSub(I:bM X ai σ H s):∀b∈rk X.stack,b∈X.env.locals::X.fs:=fun b hb=>by
 rcases I.ok.stk with e|⟨e,hf⟩
 ·rw[e]at hb;exact bi _ hb
 ·rw[e]at hb
  unfold rk at hb
  rw[gm,hf]at hb
  exact hb
theorem bM.stkFree(I:bM X ai σ H s):∀b∈rk X.stack,H b=none:=fun b hb=>by
 rcases a7.mp (I.stkSub b hb)with e|hb
 ·rw[e];exact I.free
 ·obtain⟨_,o,ho,_⟩:=I.ok.funs.mem hb
  exact I.base.free b o ho (I.ok.frf b hb) fun z=>I.ok.exfs b z hb
theorem bM.step{g':Array GenState}{t':Nat}{d':Drawn}{ch:List Addr}(I:bM X ai σ H s)
  (pY:∀b∈ch,(b∈X.ex\/X.s₀.heap.objs.size<=b)/\b≠X.env.locals/\(∀x c,X.env.cells.lookup x=some c->c≠b)/\∀p∈X.pn++ai,p.1≠b)
  (keep:∀b o,b≠X.env.locals->b∉X.fs->b∉ch->s.heap.get? b=some o->H b=none->h'.get? b=some o)
  (slot:∀b o,b≠X.env.locals->b∈X.fs->b∉ch->s.heap.get? b=some o->H b=none->∃sl,h'.get? b=some { o with slots:=sl }) (free:∀b o,b∉ch->s.heap.get? b=some o->H b=none->H' b=none)
  (there:∀b o,b∉ch->s.heap.get? b=some o->∃o',h'.get? b=some o')
  (tups:∀b xs,H b=some (.tup xs)->H' b=some (.tup xs)) (frzs:∀b o u,H b=some (.frz o u)->H' b=some (.frz o u)) (tbls:∀b ps,H b=some (.tbl ps)->∃y8,H' b=some (.tbl (ps++y8)))
  (ns:∀m,s.heap.Ns X.env.locals m->h'.Ns X.env.locals m) (hok:pI X.prog X.w t' H' h') (hg:AllBare g') (hk:s.toks<=t') :
  bM X ai σ H' { s with heap:=h',gens:=g',drawn:=d',toks:=t' }:=by
 have neL:∀b o,X.s₀.heap.get? b=some o->b≠X.env.locals:=fun b o e=>aY (aS (aP e) I.ok.above)
 have neC:∀b o,X.s₀.heap.get? b=some o->b∉X.ex->b∉ch:=fun b o e hx hb=>by
  rcases(pY b hb).1 with z|z
  ·exact hx z
  ·exact absurd (aS (aP e) z) (dh _)
 have cellK:∀x c,X.env.cells.lookup x=some c->∀v,s.heap.IsCell c v->h'.IsCell c v:=fun x c e v zq=>by
  obtain⟨o,ho,hd⟩:=zq
  have nch:c∉ch:=fun z=>(pY c z).2.2.1 x c e rfl
  by_cases hc:c∈X.fs
  ·obtain⟨sl,q⟩:=slot c o (I.cne x c e) hc nch ho (I.freeC x c e)
   exact⟨_,q,hd⟩
  ·exact⟨o,keep c o (I.cne x c e) hc nch ho (I.freeC x c e),hd⟩
 refine⟨I.ok,I.os,hg,⟨fun b o e n hb hx=>?_,fun b o e n hb hx=>?_,fun b o e n hx=>?_,fun b o e hx=>?_,fun b xs e=>tups b xs (I.base.tups b xs e),fun b o xs e=>frzs b o xs (I.base.frzs b o xs e),fun b ps e=>?_⟩,?_,fun x c e=>?_,?_,fun x c e=>?_,fun p hp=>?_,hok,I.len,aS I.pos hk,aH I.tk hk⟩
 ·exact keep b o (neL b o e) hb (neC b o e hx) (I.base.keep b o e n hb hx) (I.base.free b o e n hx)
 ·obtain⟨sl,e1⟩:=I.base.slot b o e n hb hx
  obtain⟨sl',e2⟩:=slot b _ (neL b o e) hb (neC b o e hx) e1 (I.base.free b o e n hx)
  exact⟨sl',e2⟩
 ·obtain⟨o',e1⟩:=I.base.there b o e hx
  exact free b o' (neC b o e hx) e1 (I.base.free b o e n hx)
 ·obtain⟨o',e1⟩:=I.base.there b o e hx
  exact there b o' (neC b o e hx) e1
 ·obtain⟨m1,e1⟩:=I.base.tbls b ps e
  obtain⟨m2,e2⟩:=tbls b _ e1
  exact⟨m1++m2,by rw[e2,Array.append_assoc]⟩
 ·obtain⟨m,hn,hl⟩:=I.loc
  refine⟨m,ns m hn,fun i x v e1 e2 e3=>?_⟩
  obtain⟨u,r,l⟩:=hl i x v e1 e2 e3
  refine⟨u,r.up hk,?_⟩
  rcases l with l|⟨k,c,e,z⟩
  ·exact .inl l
  ·exact .inr ⟨k,c,e,cellK x c e _ z⟩
 ·obtain⟨v,z⟩:=I.cell x c e
  exact⟨v,cellK x c e v z⟩
 ·obtain⟨m,⟨o,_,_,ho,_⟩,_⟩:=I.loc
  exact free _ o (fun z=>(pY _ z).2.1 rfl) ho I.free
 ·obtain⟨v,o,ho,hd⟩:=I.cell x c e
  exact free c o (fun z=>(pY c z).2.2.1 x c e rfl) ho (I.freeC x c e)
 ·obtain⟨e,n,ne,nf,d⟩:=I.pin p hp
  have nch:p.1∉ch:=fun z=>(pY p.1 z).2.2.2 p hp rfl
  exact⟨keep p.1 p.2 ne nf nch e n,free p.1 p.2 nch e n,ne,nf,d⟩
theorem bM.un{t':Nat}(I:bM X ai σ H s)(u:Un X.fs [] H H' s.heap h')(hok:pI X.prog X.w t' H' h')(hk:s.toks<=t':=by first|exact ay _|exact bB _|assumption|omega):bM X ai σ H' { s with heap:=h',toks:=t' }:=by
 obtain⟨m,⟨o,es,ep,ho,r⟩,_⟩:=id I.loc
 obtain⟨sl,hL⟩:=u.any ho I.free #[18]
 exact I.step (g':=s.gens) (d':=s.drawn) (ch:=[]) (fun _ z=>nomatch z) (fun b o _ hb _ e n=>u.keep b o e n hb #[18]) (fun b o _ hb _ e n=>u.slot b o e n hb #[18]) (fun b o _ e n=>u.free b o e n #[18]) (fun b o _ e=>u.there b o e #[18]) u.tups u.frzs u.tbls (fun m' hm=>by
  obtain⟨o',es',ep',t6,r'⟩:=hm
  rw[ho]at t6;cases t6
  exact⟨_,es',ep',hL,r'⟩) hok I.bare hk
theorem bM.call{g':Array GenState}{t':Nat}{d':Drawn}{ch:List Addr}(I:bM X ai σ H s)(u:Un (rk X.stack) ch H H' s.heap h')(hok:pI X.prog X.w t' H' h')(hg:AllBare g')
  (pY:∀b∈ch,(b∈X.ex\/X.s₀.heap.objs.size<=b)/\b≠X.env.locals/\(∀x c,X.env.cells.lookup x=some c->c≠b)/\∀p∈X.pn++ai,p.1≠b) (hk:s.toks<=t') :
  bM X ai σ H' { s with heap:=h',gens:=g',drawn:=d',toks:=t' }:=by
 obtain⟨m,⟨o,es,ep,ho,r⟩,_⟩:=id I.loc
 obtain⟨sl,hL⟩:=u.any ho I.free fun z=>(pY _ z).2.1 rfl
 exact I.step (ch:=ch) pY (fun b o hL hb hc e n=>u.keep b o e n (fun z=>(a7.mp (I.stkSub b z)).elim hL hb) hc) (fun b o _ _ hc e n=>u.any e n hc) (fun b o hc e n=>u.free b o e n hc) (fun b o hc e=>u.there b o e hc) u.tups u.frzs u.tbls (fun m' hm=>by
  obtain⟨o',es',ep',t6,r'⟩:=hm
  rw[ho]at t6;cases t6
  exact⟨_,es',ep',hL,r'⟩) hok hg hk
theorem bM.turned{t':Nat}{it:Addr}(I:bM X ai σ H s)(k:∀b o,b≠it->s.heap.get? b=some o->h'.get? b=some o)(hn:H it=none)(hL:it≠X.env.locals)
  (h1:it∈X.ex\/X.s₀.heap.objs.size<=it) (h2:∀x c,X.env.cells.lookup x=some c->c≠it) (h3:∀p∈X.pn++ai,p.1≠it) (hk:s.toks<=t':=by first|exact ay _|exact bB _|assumption|omega):bM X ai σ H { s with heap:=h',toks:=t' }:=by
 have nit:∀b u,H b=some u->b≠it:=fun b u e z=>by rw[z,hn]at e;cases e
 refine I.step (g':=s.gens) (d':=s.drawn) (ch:=[it]) (fun b hb=>?_) (fun b o _ _ hc e _=>k b o (fun z=>hc (by simp[z])) e) (fun b o _ _ hc e _=>⟨o.slots,k b o (fun z=>hc (by simp[z])) e⟩) (fun _ _ _ _ n=>n)
  (fun b o hc e=>⟨o,k b o (fun z=>hc (by simp[z])) e⟩) (fun _ _ e=>e) (fun _ _ _ e=>e) (fun b ps e=>⟨#[],by rw[e];simp⟩) (fun m hm=>?_) (fun b u e=>?_) I.bare hk
 ·have e:b=it:=by simpa using hb
  subst e
  exact⟨h1,hL,h2,h3⟩
 ·obtain⟨o,es,ep,ho,r⟩:=hm
  exact⟨o,es,ep,k _ o (Ne.symm hL) ho,r⟩
 ·refine((I.hok b u e).up hk).stay (fun c v hc q=>k c v ?_ q) (fun _ q=>q) fun _ _ q=>q
  rcases hc with z|z
  ·rw[z];exact nit b u e
  ·exact nit c _ z
theorem bM.tok(I:bM X ai σ H s)(t:Nat)(hk:s.toks<=t:=by first|exact ay _|exact bB _|assumption|omega):bM X ai σ H { s with toks:=t }:=I.un (h':=s.heap) (t':=t) Un.refl (I.hok.up hk) hk
theorem bM.kept{t':Nat}(I:bM X ai σ H s)(k:∀b u,s.heap.get? b=some u->h'.get? b=some u)(hk:s.toks<=t':=by first|exact ay _|exact bB _|assumption|omega):bM X ai σ H { s with heap:=h',toks:=t' }:=I.un (Un.kept k) ((I.hok.kept k).up hk) hk
theorem bM.laid{a:Addr}{o:HO}{t':Nat}(I:bM X ai σ H s)(k:∀b u,s.heap.get? b=some u->h'.get? b=some u)(hp:s.heap.objs.size<=a)(new:eR X.prog X.w t' (eG H a o) h' a o)(hk:s.toks<=t':=by first|exact ay _|exact bB _|assumption|omega) :
  bM X ai σ (eG H a o) { s with heap:=h',toks:=t' }:=I.un (Un.laid k hp (I.hok.fresh hp)) ((I.hok.up hk).laid k hp new) hk
theorem bM.write{x e:Addr}{o:HO}(I:bM X ai σ H s)(mu:Q_ (H x))(he:e=x\/H e=some (.own x))(k:∀b u,b≠e->s.heap.get? b=some u->h'.get? b=some u)(Ke:∃u,h'.get? e=some u)
  (new:eR X.prog X.w t' (eG H x o) h' x o) (hk:s.toks<=t':=by first|exact ay _|exact bB _|assumption|omega):bM X ai σ (eG H x o) { s with heap:=h',toks:=t' }:=I.un (Un.write mu he k Ke) ((I.hok.up hk).write mu he k Ke new) hk
theorem bM.pins_of{pins':List (Addr×Obj)}(I:bM X ai σ H s)(h:∀p∈pins',s.heap.get? p.1=some p.2/\H p.1=none/\p.1≠X.env.locals/\p.1∉X.fs/\∀v,p.2.data≠.cell v):bM X pins' σ H s:=
 ⟨I.ok,I.os,I.bare,I.base,I.loc,I.cell,I.free,I.freeC,fun p hp=>(bg.mp hp).elim (fun z=>I.pin p (cZ _ z)) (h p),I.hok,I.len,I.pos,I.tk⟩
theorem uM{N:List Str}(hN:N.Nodup)(a:N[i]?=some x)(b:N[j]?=some x):i=j:=by
 obtain⟨h1,e1⟩:=aj.mp a
 obtain⟨h2,e2⟩:=aj.mp b
 exact(List.getElem_inj hN).mp (e1.trans e2.symm)
theorem Ex{M:Model}{A:Around}{E:Value->Shared->Prop}{v:V}{Q:Unit->Shared->Prop}(I:bM X ai σ H s)(hN:X.N.Nodup)(hi:X.N[i]?=some x)(hx:J8 X.env.scope x)(r:cW s.toks v u)
  (h:∀s',bM X ai (σ.set i (some v)) H s'->(∃a,Heap.SameBut a s.heap s'.heap/\(a=X.env.locals\/X.env.cells.lookup x=some a))->Q () s') (hf:X.fn x=true\/X.env.scope.names.lookup x=some .local:=by first|exact .inl rfl|exact .inr rfl|assumption):wpAny M A (storeName X.env x u) Q E s:=by
 obtain⟨m,hn,hl⟩:=id I.loc
 have JR:(X.env.scope.kind==.class||(X.env.scope.kind==.module&&X.env.locals != X.env.globals))=false:=by rw[I.ok.kind];rfl
 have hiσ:i<σ.length:=by rw[I.len];exact(aj.mp hi).1
 have cne:=I.cne
 have tracked:∀{a:Addr} {h':Heap},(∃o,s.heap.get? a=some o/\H a=none)->Heap.SameBut a s.heap h'->pI X.prog X.w s.toks H h':=fun{a h'} ha hs b ob e=>by
  obtain⟨_,_,hfree⟩:=ha
  refine(I.hok b ob e).stay (fun c w' hc q=>(hs.2 c ?_).trans q) (fun _ q=>q) fun _ _ q=>q
  rintro rfl
  rcases hc with rfl|hc
  ·rw[hfree]at e;cases e
  ·rw[hfree]at hc;cases hc
 rcases hx with hk|hk
 ·refine n9 hk hn (fun h' Uc hs=>?_) JR
  obtain⟨oL,_,_,hoL,_⟩:=id hn
  refine h { s with heap:=h',toks:=s.toks+1 } ⟨I.ok,I.os,I.bare,⟨fun b o e n hb hx=>?_,fun b o e n hb hx=>?_,I.base.free,fun b o e hx=>?_,I.base.tups,I.base.frzs,I.base.tbls⟩,⟨_,Uc,fun j y v' e1 e2 e3=>?_⟩,fun y c e=>?_,I.free,I.freeC,fun p hp=>?_,(tracked ⟨oL,hoL,I.free⟩ hs).up (bB _),by simpa using I.len,Nat.succ_pos _,hW I.tk⟩ ⟨_,hs,.inl rfl⟩
  ·exact(hs.2 b (aY (aS (aP e) I.ok.above))).trans (I.base.keep b o e n hb hx)
  ·obtain⟨sl,e1⟩:=I.base.slot b o e n hb hx
   exact⟨sl,(hs.2 b (aY (aS (aP e) I.ok.above))).trans e1⟩
  ·obtain⟨o',e1⟩:=I.base.there b o e hx
   exact⟨o',(hs.2 b (aY (aS (aP e) I.ok.above))).trans e1⟩
  ·by_cases hj:j=i
   ·subst hj
    rw[hi]at e1;cases e1
    rw[bQ hiσ]at e2
    cases e2
    exact⟨u,r.up (bB _),.inl ⟨hk,by simp⟩⟩
   ·rw[ce (Ne.symm hj)]at e2
    obtain⟨u',r',q⟩:=hl j y v' e1 e2 e3
    refine⟨u',r'.up (bB _),?_⟩
    rcases q with⟨k,e⟩|⟨k,c,e,z⟩
    ·refine .inl ⟨k,?_⟩
     have:y≠x:=fun e=>hj (uM hN e1 (e▸hi))
     simp[this,e]
    ·exact .inr ⟨k,c,e,z.sameBut hs (cne y c e)⟩
  ·obtain⟨w',z⟩:=I.cell y c e
   exact⟨w',z.sameBut hs (cne y c e)⟩
  ·obtain⟨e,n,ne,nf,d⟩:=I.pin p hp
   exact⟨(hs.2 p.1 ne).trans e,n,ne,nf,d⟩
 ·have hfn:X.fn x=true:=by
   rcases hf with z|z
   ·exact z
   ·rw[z]at hk;cases hk
  obtain⟨c,hc⟩:=I.ok.has x (.inl hk)
  obtain⟨w',z⟩:=I.cell x c hc
  refine wpAny_storeName_cell I.ok.kind hk hc z (fun h' hc' hs=>?_)
  obtain⟨oc,hoc,hocd⟩:=id z
  refine h { s with heap:=h' } ⟨I.ok,I.os,I.bare,⟨fun b o e n hb hx=>?_,fun b o e n hb hx=>?_,I.base.free,fun b o e hx=>?_,I.base.tups,I.base.frzs,I.base.tbls⟩,⟨m,hn.sameBut hs (Ne.symm (cne x c hc)),fun j y v' e1 e2 e3=>?_⟩,fun y c' e=>?_,I.free,I.freeC,fun p hp=>?_,tracked ⟨oc,hoc,I.freeC x c hc⟩ hs,by simpa using I.len,I.pos,I.tk⟩ ⟨c,hs,.inr hc⟩
  ·exact(hs.2 b (aY (aS (aP e) (I.ok.cab x c hfn hc)))).trans (I.base.keep b o e n hb hx)
  ·obtain⟨sl,e1⟩:=I.base.slot b o e n hb hx
   exact⟨sl,(hs.2 b (aY (aS (aP e) (I.ok.cab x c hfn hc)))).trans e1⟩
  ·obtain⟨o',e1⟩:=I.base.there b o e hx
   exact⟨o',(hs.2 b (aY (aS (aP e) (I.ok.cab x c hfn hc)))).trans e1⟩
  ·by_cases hj:j=i
   ·subst hj
    rw[hi]at e1;cases e1
    rw[bQ hiσ]at e2
    cases e2
    exact⟨u,r,.inr ⟨.inl hk,c,hc,hc'⟩⟩
   ·rw[ce (Ne.symm hj)]at e2
    obtain⟨u',r',q⟩:=hl j y v' e1 e2 e3
    refine⟨u',r',?_⟩
    rcases q with q|⟨k,c',e,z'⟩
    ·exact .inl q
    ·refine .inr ⟨k,c',e,z'.sameBut hs ?_⟩
     rintro rfl
     exact hj (uM hN e1 (I.ok.inj _ _ _ e hc▸hi))
  ·by_cases hcc:c'=c
   ·subst hcc;exact⟨_,hc'⟩
   ·obtain⟨w2,z2⟩:=I.cell y c' e
    exact⟨w2,z2.sameBut hs hcc⟩
  ·obtain⟨e,n,ne,nf,d⟩:=I.pin p hp
   refine⟨(hs.2 p.1 ?_).trans e,n,ne,nf,d⟩
   intro q
   rw[q,hoc]at e
   have q':oc=p.2:=bn e
   exact d w' (by rw[<- q'];exact hocd)
theorem uN{M:Model}{A:Around}{E:Value->Shared->Prop}{v:V}{Q:Unit->Shared->Prop}(I:bM X ai σ H s)(hN:X.N.Nodup)(hi:X.N[i]?=some x)(hx:J8 X.env.scope x)(r:cW s.toks v u)
  (h:∀s',bM X ai (σ.set i (some v)) H s'->Q () s') (hf:X.fn x=true\/X.env.scope.names.lookup x=some .local:=by first|exact .inl rfl|exact .inr rfl|assumption):wpAny M A (storeName X.env x u) Q E s:=
 Ex I hN hi hx r (fun s' I' _=>h s' I') hf
theorem bM.call'{s':Shared}{ch:List Addr}(I:bM X ai σ H s)(ho:s'.os=s.os)(u:Un (rk X.stack) ch H H' s.heap s'.heap)(hok:pI X.prog X.w s'.toks H' s'.heap)(hg:AllBare s'.gens)
  (pY:∀b∈ch,(b∈X.ex\/X.s₀.heap.objs.size<=b)/\b≠X.env.locals/\(∀x c,X.env.cells.lookup x=some c->c≠b)/\∀p∈X.pn++ai,p.1≠b) (hk:s.toks<=s'.toks):bM X ai σ H' s':=by
 obtain⟨h',g',d',t',o'⟩:=s'
 have e:o'=s.os:=ho
 subst e
 exact I.call (g':=g') (t':=t') (d':=d') u hok hg pY hk
end
abbrev XK:=Value->Option Addr->Hp->Prop
abbrev St:=List (Option V)
abbrev VK:=V->Hp->Prop
abbrev TE:=St->Hp->VK->Prop
abbrev TT:=St->Hp->(Bool->Hp->Prop)->Prop
abbrev TA:=St->Hp->(List V->Hp->Prop)->Prop
structure ze where
 nx:St->Hp->Prop
 rt:VK
 bk:St->Hp->Prop:=fun _ _=>False
 ct:St->Hp->Prop:=fun _ _=>False
abbrev TS:=ze->St->Hp->Prop
def EP(X:Cx)(ai:List (Addr×Obj))(σ:St)(Q:VK)(u:Value)(s':Shared):Prop:=∃v H',bM X ai σ H' s'/\cW s'.toks v u/\Q v H'
def TP(X:Cx)(ai:List (Addr×Obj))(σ:St)(Q:Bool->Hp->Prop)(b:Bool)(s':Shared):Prop:=∃H',bM X ai σ H' s'/\Q b H'
def AP(X:Cx)(ai:List (Addr×Obj))(σ:St)(Q:List V->Hp->Prop)(us:List Value)(s':Shared):Prop:=∃vs H',bM X ai σ H' s'/\cR s'.toks vs us/\Q vs H'
def SP(X:Cx)(ai:List (Addr×Obj))(D:ze)(f:Flow)(s':Shared):Prop:=
 match f with
 |.next=>∃σ' H',bM X ai σ' H' s'/\D.nx σ' H'
 |.brk=>∃σ' H',bM X ai σ' H' s'/\D.bk σ' H'
 |.cont=>∃σ' H',bM X ai σ' H' s'/\D.ct σ' H'
 |.ret u=>∃v σ' H',bM X ai σ' H' s'/\cW s'.toks v u/\D.rt v H'
def PE(X:Cx)(e:Expr)(t:TE):Prop:=
 ∀(ai:List (Addr×Obj)) (s:Shared) (σ:St) (H:Hp) (Q:VK),bM X ai σ H s->t σ H Q->wpAny #[5] X.A (eval e X.env) (EP X ai σ Q) X.xe s
def PT(X:Cx)(e:Expr)(t:TT):Prop:=
 ∀(ai:List (Addr×Obj)) (s:Shared) (σ:St) (H:Hp) (Q:Bool->Hp->Prop),bM X ai σ H s->t σ H Q->wpAny #[5] X.A (isTrue e X.env (eval e X.env)) (TP X ai σ Q) X.xe s
def PW(X:Cx)(e:Expr)(t:TT):Prop:=
 ∀(vN:Sem Value) (ai:List (Addr×Obj)) (s:Shared) (σ:St) (H:Hp) (Q:Bool->Hp->Prop),bM X ai σ H s->t σ H Q->wpAny #[5] X.A (isTrue e X.env vN) (TP X ai σ Q) X.xe s
theorem PW.pt{X:Cx}{t:TT}(h:PW X e t):PT X e t:=h _
def PA(X:Cx)(es:List Expr)(t:TA):Prop:=
 ∀(pos:Pos) (ai:List (Addr×Obj)) (s:Shared) (σ:St) (H:Hp) (Q:List V->Hp->Prop),bM X ai σ H s->t σ H Q->wpAny #[5] X.A (spliced (backTo pos (starEach es X.env))) (AP X ai σ Q) X.xe s
def PS(X:Cx)(st:Stmt)(t:TS):Prop:=
 ∀(ai:List (Addr×Obj)) (s:Shared) (σ:St) (H:Hp) (D:ze),bM X ai σ H s->t D σ H->wpAny #[5] X.A (exec st X.env) (SP X ai D) X.xe s
def Ey(X:Cx)(st:List Stmt)(t:TS):Prop:=
 ∀(ai:List (Addr×Obj)) (s:Shared) (σ:St) (H:Hp) (D:ze),bM X ai σ H s->t D σ H->wpAny #[5] X.A (execs st X.env) (SP X ai D) X.xe s
theorem jq{t:Sem α}{Q Q':α->Shared->Prop}(h:wpAny M A t Q E s)(hQ:∀a s',s.toks<=s'.toks->Q a s'->Q' a s'):wpAny M A t Q' E s:=
 up (iZ h (fun a s' q k=>hQ a s' k q) fun _ _ x _=>x)
theorem BE{t:Sem α}{Q Q':α->Shared->Prop}(h:wpAny M A t Q E s)(hQ:∀a s,Q a s->Q' a s):wpAny M A t Q' E s:=iZ h hQ fun _ _ x=>x
end L2
variable{X:L2.Cx}{σ:L2.St}{te:L2.TE}
namespace L2
open PySem PySem.Spec PyProof.Rows
section
def Rb(i:Nat):TE:=fun σ H Q=>∃v,σ[i]?=some (some v)/\Q v H
def tC(v:V):TE:=fun _ H Q=>Q v H
theorem NI{pos:Pos}(hN:X.N[i]?=some x)(hv:Ra X.env.scope x)(hd:(x==("__debug__":Str))=false:=by decide)(um:(x==("__classdict__":Str))=false:=by decide):PE X (.Name x pos) (Rb i):=by
 intro ai s σ H Q I h
 obtain⟨v,e,h⟩:=h
 obtain⟨m,hn,hl⟩:=I.loc
 obtain⟨u,r,l⟩:=hl i x v hN e hv
 have ie:EP X ai σ Q u s:=⟨v,H,I,r,h⟩
 rcases l with⟨hk,hm⟩|⟨hk,c,hc,dI⟩
 ·exact wpAny_Name (wpAny_loadName_local I.ok.kind hk hn hm ie) hd
 ·rcases hk with hk|hk
  ·exact wpAny_Name (wpAny_loadName_cell I.ok.kind hk hc dI ie) hd
  ·exact wpAny_Name (wpAny_loadName_free I.ok.kind hk hc dI ie um) hd
theorem NJ{i j pos}:PE X (.Constant (.int i) j pos) (tC (.int i)):=fun _ _ _ H _ I h=>wpAny_Constant_int ⟨.int i,H,I.tok _,⟨_,rfl⟩,h⟩
theorem Re{b j pos}:PE X (.Constant (.bool b) j pos) (tC (.bl b)):=fun _ _ _ H _ I h=>Constant_bool ⟨.bl b,H,I,rfl,h⟩
theorem NK{j pos}:PE X (.Constant .none j pos) (tC .non):=fun _ _ _ H _ I h=>qw ⟨.non,H,I,rfl,h⟩
theorem bM.tkS(I:bM X ai σ H s):cW (s.toks+1) (.str x) (.str x s.toks):=⟨⟨s.toks,fun _=>⟨I.pos,cM _⟩⟩,rfl⟩
theorem FK{x j pos}:PE X (.Constant (.str x) j pos) (tC (.str x)):=fun _ _ _ H _ I h=>Calls.Constant_str ⟨.str x,H,I.tok _,I.tkS,h⟩
def Gl(X:Cx)(x:Str):Prop:=X.env.kindOf x=some .globalImplicit
theorem ur{E:Value->Shared->Prop}{pos:Pos}(I:bM X ai σ H s)(hg:Gl X x)(hm:X.mg x=some u)(h:Q u s)
  (hd:(x==("__debug__":Str))=false:=by decide):wpAny #[5] X.A (eval (.Name x pos) X.env) Q E s:=
 kZ I.ok.kind hg (Calls.loadGlobal_global (by rw[I.ok.glob];exact I.mod.glob.keeps I.bk) hm h) hd
theorem oq{E:Value->Shared->Prop}{pos:Pos}(I:bM X ai σ H s)(hg:Gl X x)(hm:X.mg x=none)(hv:bootBuiltins x=some u)(h:Q u s)
  (hn:x ≠ "__name__":=by decide) (hd:(x==("__debug__":Str))=false:=by decide):wpAny #[5] X.A (eval (.Name x pos) X.env) Q E s:=by
 obtain⟨mb,h1,h2⟩:=I.mod.blt
 exact kZ I.ok.kind hg (Calls.loadGlobal_builtin (by rw[I.ok.glob];exact I.mod.glob.keeps I.bk) hm (by rw[I.ok.blt];exact h1.keeps I.bk) ((h2 x hn).trans hv) h) hd
theorem xO{v:V}{pos:Pos}(hg:Gl X x)(hm:X.mg x=some u)(r:cW 0 v u)(hd:(x==("__debug__":Str))=false:=by decide):PE X (.Name x pos) (tC v):=
 fun _ _ _ H _ I h=>ur I hg hm ⟨v,H,I,r.up (bU _),h⟩ hd
theorem Dc{v:V}{pos:Pos}(hg:Gl X x)(hm:X.mg x=none)(hv:bootBuiltins x=some u)(r:cW 0 v u)(hn:x ≠ "__name__":=by decide)(hd:(x==("__debug__":Str))=false:=by decide):PE X (.Name x pos) (tC v):=
 fun _ _ _ H _ I h=>oq I hg hm hv ⟨v,H,I,r.up (bU _),h⟩ hn hd
variable{a b:Expr}{ta tb:TE}
def PC(X:Cx)(op:CmpOp)(a b:Expr)(t:TE):Prop:=
 ∀(ai:List (Addr×Obj)) (s:Shared) (σ:St) (H:Hp) (Q:VK),bM X ai σ H s->t σ H Q ->
  wpAny #[5] X.A (eval a X.env) (fun v s₁=>wpAny #[5] X.A (eval b X.env) (fun u s₂=>wpAny #[5] X.A (compareOp op v u) (EP X ai σ Q) X.xe s₂) X.xe s₁) X.xe s
theorem zf(b:Expr)(h:op≠.In)(h2:op≠.NotIn):behindInMarks op b=false:=by
 have e1:(op==CmpOp.In)=false:=by cases op<;>first|rfl|exact absurd rfl h
 have e2:(op==CmpOp.NotIn)=false:=by cases op<;>first|rfl|exact absurd rfl h2
 cases b<;>simp[behindInMarks,e1,e2]
def Rf(ta:TE):TE:=fun σ H Q=>ta σ H fun x H1=>Q (.bl (decide (x=.non))) H1
def Mg(ta:TE):TE:=fun σ H Q=>ta σ H fun x H1=>Q (.bl (!decide (x=.non))) H1
theorem cW.none_iff{x:V}(r:cW nk x v):(v==Value.none)=decide (x=.non):=by
 cases x with
 |non=>cases r;rfl
 |bl _=>cases r;rfl
 |int _=>obtain⟨t,rfl⟩:=r;rfl
 |str _=>obtain⟨t,rfl⟩:=r;rfl
 |byt _=>obtain⟨t,rfl⟩:=r;rfl
 |flt _=>obtain⟨t,rfl⟩:=r;rfl
 |ref _=>cases r;rfl
 |ty _=>cases r;rfl
theorem FL{j iY}(ha:PE X a ta):PC X .Is a (.Constant .none j iY) (Rf ta):=by
 intro ai s σ H Q I h
 refine jq (ha ai s σ H _ I h) fun v s1 kt1 zq=>?_
 obtain⟨x,H1,I1,r1,q1⟩:=zq
 exact qw (is_none_gen ⟨.bl _,H1,I1,by rw[r1.none_iff];rfl,q1⟩)
theorem Dd{j iY}(ha:PE X a ta):PC X .IsNot a (.Constant .none j iY) (Mg ta):=by
 intro ai s σ H Q I h
 refine jq (ha ai s σ H _ I h) fun v s1 kt1 zq=>?_
 obtain⟨x,H1,I1,r1,q1⟩:=zq
 exact qw (isnot_none_gen ⟨.bl _,H1,I1,by rw[r1.none_iff];rfl,q1⟩)
def tB(t:TE):TT:=fun σ H Q=>t σ H fun x H1=>∃c,x=.bl c/\Q c H1
theorem FM{t:TE}(h:PC X op a b t)(h1:behindInMarks op b=false:=by first|exact zf _ #[1] #[1]|rfl):PE X (.Compare a [op] [b] pos) t:=fun ai s σ H Q I hw=>wpAny_Compare1 (h ai s σ H Q I hw) h1
theorem FN{t:TE}(h:PC X op a b t)(h1:behindInMarks op b=false:=by first|exact zf _ #[1] #[1]|rfl):PT X (.Compare a [op] [b] pos) (tB t):=by
 intro ai s σ H Q I hw
 refine n_ (BE (h ai s σ H _ I hw) fun v s1 h1=>BE h1 fun u s2 h2=>BE h2 fun c s3 ⟨x,H1,I1,r1,q1⟩=>?_) h1
 obtain⟨d,rfl,q⟩:=q1
 cases r1
 exact d4 ⟨H1,I1,q⟩
theorem NL{t:TE}(h:PE X e t)(he:∀vN,isTrue e X.env vN=(do let v <- vN;standAt e.pos;holding [v] (truthy v)):=by intro _;rfl):PT X e (tB t):=by
 intro ai s σ H Q I hw
 refine isTrue_plain (jq (h ai s σ H _ I hw) fun v s1 kt1 ⟨x,H1,I1,r1,q1⟩=>?_) (he _)
 obtain⟨d,rfl,q⟩:=q1
 cases r1
 exact d4 ⟨H1,I1,q⟩
variable{tA Ug:TT}{gb:List Expr}
def UE(t u:TT):TT:=fun σ H Q=>t σ H fun c H1=>if c=true then u σ H1 Q else Q false H1
def Wf(t u:TT):TT:=fun σ H Q=>t σ H fun c H1=>if c=true then Q true H1 else u σ H1 Q
def UF(t:TT):TT:=fun σ H Q=>t σ H fun c H1=>Q (!c) H1
theorem Kj(ha:PT X a tA):PW X (.BoolOp .And [a] pos) tA:=by
 intro wh ai s σ H Q I h
 refine isTrue_and (BE (ha ai s σ H Q I h) fun c s1 e=>?_)
 cases c with
 |true=>exact isTrue_and_nil e
 |false=>exact e
theorem NM(ha:PT X a tA):PW X (.BoolOp .Or [a] pos) tA:=by
 intro wh ai s σ H Q I h
 refine isTrue_or (BE (ha ai s σ H Q I h) fun c s1 e=>?_)
 cases c with
 |false=>exact isTrue_or_nil e
 |true=>exact e
theorem NN(ha:PT X a tA)(hb:PW X (.BoolOp .And (b::gb) pos) Ug):PW X (.BoolOp .And (a::b::gb) pos) (UE tA Ug):=by
 intro wh ai s σ H Q I h
 refine isTrue_and (jq (ha ai s σ H _ I h) fun c s1 kt1 zq=>?_)
 obtain⟨H1,I1,q1⟩:=zq
 cases c with
 |true=>exact hb wh ai s1 σ H1 Q I1 q1
 |false=>exact⟨H1,I1,q1⟩
theorem Rg(ha:PT X a tA)(hb:PW X (.BoolOp .Or (b::gb) pos) Ug):PW X (.BoolOp .Or (a::b::gb) pos) (Wf tA Ug):=by
 intro wh ai s σ H Q I h
 refine isTrue_or (jq (ha ai s σ H _ I h) fun c s1 kt1 zq=>?_)
 obtain⟨H1,I1,q1⟩:=zq
 cases c with
 |true=>exact⟨H1,I1,q1⟩
 |false=>exact hb wh ai s1 σ H1 Q I1 q1
theorem NO(ha:PT X a tA):PT X (.UnaryOp .Not a pos) (UF tA):=by
 intro ai s σ H Q I h
 exact isTrue_not (ha ai s σ H (fun c H1=>Q (!c) H1) I h)
def Rh(ta tb:TE):TE:=fun σ H Q=>ta σ H fun x H1=>∃c,x=.bl c/\if c=true then tb σ H1 Q else Q (.bl false) H1
def UG(ta tb:TE):TE:=fun σ H Q=>ta σ H fun x H1=>∃c,x=.bl c/\if c=true then Q (.bl true) H1 else tb σ H1 Q
def Ri(ta:TE):TE:=fun σ H Q=>ta σ H fun x H1=>∃c,x=.bl c/\Q (.bl (!c)) H1
theorem NP{op}{t:TE}(h:PE X a t):PE X (.BoolOp op [a] pos) t:=fun ai s σ H Q I hw=>BoolOp_one (h ai s σ H Q I hw)
theorem NQ(ha:PE X a ta)(hb:PE X (.BoolOp .And (b::gb) pos) tb):PE X (.BoolOp .And (a::b::gb) pos) (Rh ta tb):=by
 intro ai s σ H Q I h
 refine BoolOp_and (jq (ha ai s σ H _ I h) fun v s1 kt1 zq=>?_)
 obtain⟨x,H1,I1,r1,q1⟩:=zq
 obtain⟨c,rfl,q1⟩:=q1
 cases r1
 refine d4 ?_
 cases c with
 |true=>exact hb ai s1 σ H1 Q I1 q1
 |false=>exact⟨.bl false,H1,I1,rfl,q1⟩
theorem Rj(ha:PE X a ta)(hb:PE X (.BoolOp .Or (b::gb) pos) tb):PE X (.BoolOp .Or (a::b::gb) pos) (UG ta tb):=by
 intro ai s σ H Q I h
 refine BoolOp_or (jq (ha ai s σ H _ I h) fun v s1 kt1 zq=>?_)
 obtain⟨x,H1,I1,r1,q1⟩:=zq
 obtain⟨c,rfl,q1⟩:=q1
 cases r1
 refine d4 ?_
 cases c with
 |false=>exact hb ai s1 σ H1 Q I1 q1
 |true=>exact⟨.bl true,H1,I1,rfl,q1⟩
theorem NR(ha:PE X a ta):PE X (.UnaryOp .Not a pos) (Ri ta):=by
 intro ai s σ H Q I h
 refine UnaryOp_ (jq (ha ai s σ H _ I h) fun v s1 kt1 zq=>?_)
 obtain⟨x,H1,I1,r1,q1⟩:=zq
 obtain⟨c,rfl,q1⟩:=q1
 cases r1
 exact not_of (d4 ⟨.bl (!c),H1,I1,rfl,q1⟩)
def Wg(t:TT)(ta tb:TE):TE:=fun σ H Q=>t σ H fun c H1=>if c=true then ta σ H1 Q else tb σ H1 Q
theorem FP{c:Expr}(hc:PT X c tA)(ha:PE X a ta)(hb:PE X b tb):PE X (.IfExp c a b pos) (Wg tA ta tb):=by
 intro ai s σ H Q I h
 refine wpAny_IfExp (jq (hc ai s σ H _ I h) fun d s1 kt1 zq=>?_)
 obtain⟨H1,I1,q1⟩:=zq
 cases d with
 |true=>exact ha ai s1 σ H1 Q I1 q1
 |false=>exact hb ai s1 σ H1 Q I1 q1
end
end L2
namespace L2
open PySem PySem.Spec PyProof.Rows
def sH(K:Frag)(H:Hp)(a:Addr)(xs:List V):Prop:=
 Rd H a (.lst xs) \/
  ∃(o:Obj) (bT:Array Value) (n:Nat),K.lookup a=some o/\o.cls=.type "list"/\o.dict=none/\o.data=.seq bT n/\bT.size<=sizeLine/\cR 0 xs bT.toList
def ic(K:Frag)(H:Hp)(a:Addr)(xs:List V):Prop:=
 Rd H a (.tup xs) \/
  ∃(o:Obj) (bT:Array Value) (n:Nat),K.lookup a=some o/\o.cls=.type "tuple"/\o.data=.seq bT n/\bT.size<=sizeLine/\cR 0 xs bT.toList
def UH:Value->Option V
 |.none=>some .non
 |.bool b=>some (.bl b)
 |.int i _=>some (.int i)
 |.str x _=>some (.str x)
 |.bytes b _=>some (.byt b)
 |.float b _=>some (.flt b)
 |.ref a=>some (.ref a)
 |.type n=>some (.ty n)
 |_=>none
theorem cW.abs{x:V}(r:cW nk x u):UH u=some x:=by
 cases x with
 |non=>cases r;rfl
 |bl _=>cases r;rfl
 |int _=>obtain⟨t,rfl⟩:=r;rfl
 |str _=>obtain⟨t,rfl⟩:=r;rfl
 |byt _=>obtain⟨t,rfl⟩:=r;rfl
 |flt _=>obtain⟨t,rfl⟩:=r;rfl
 |ref _=>cases r;rfl
 |ty _=>cases r;rfl
theorem cW.inj{x y:V}(r:cW nk x u)(q:cW nk y u):x=y:=bn (r.abs.symm.trans q.abs)
theorem cR.inj:∀{xs ys:List V} {us:List Value},cR nk xs us->cR nk ys us->xs=ys
 |_,_,_,.nil,.nil=>rfl
 |_,_,_,.cons r t,.cons r' t'=>by rw[r.inj r',cR.inj t t']
section
variable{xs ys:List V}
theorem sH.of(h:H a=some (.lst xs)):sH K H a xs:=.inl (.inl h)
theorem ic.of(h:H a=some (.tup xs)):ic K H a xs:=.inl (.inl h)
theorem bM.list(I:bM X ai σ H s)(h:sH X.K H a xs):∃bT:List Value,cR s.toks xs bT/\PlainL s.heap a bT.toArray/\xs.length<=sizeLine:=by
 rcases h with h|⟨o,bT,n,hk,hc,hd,hs,hz,r⟩
 ·obtain⟨z,bT,n,r,e⟩:=h.ok I.hok
  exact⟨bT,r,⟨_,n,e,rfl,rfl,rfl⟩,z⟩
 ·refine⟨bT.toList,r.up (bU _),⟨o,n,I.kIn a o hk,hc,hd,by simpa using hs⟩,?_⟩
  have e:=r.length
  simp only[d8]at e
  omega
theorem bM.tuple(I:bM X ai σ H s)(h:ic X.K H a xs):∃bT:List Value,cR s.toks xs bT/\IsTup s.heap a bT.toArray/\xs.length<=sizeLine:=by
 rcases h with h|⟨o,bT,n,hk,hc,hs,hz,r⟩
 ·obtain⟨z,bT,r,p⟩:=h.ok I.hok
  exact⟨bT,r,p,z⟩
 ·refine⟨bT.toList,r.up (bU _),⟨o,I.kIn a o hk,hc,n,by simpa using hs⟩,?_⟩
  have e:=r.length
  simp only[d8]at e
  omega
theorem bM.list_inj(I:bM X ai σ H s)(h:sH X.K H a xs)(h':sH X.K H a ys):xs=ys:=by
 obtain⟨bT,r,⟨o,n,e,_,_,d⟩,_⟩:=I.list h
 obtain⟨its',r',⟨o',n',e',_,_,d'⟩,_⟩:=I.list h'
 rw[e]at e';cases e'
 rw[d]at d'
 injection d' with d1 _
 have:bT=its':=by simpa using iJ Array.toList d1
 subst this
 exact r.inj r'
theorem bM.tuple_inj(I:bM X ai σ H s)(h:ic X.K H a xs)(h':ic X.K H a ys):xs=ys:=by
 obtain⟨bT,r,⟨o,e,_,n,d⟩,_⟩:=I.tuple h
 obtain⟨its',r',⟨o',e',_,n',d'⟩,_⟩:=I.tuple h'
 rw[e]at e';cases e'
 rw[d]at d'
 injection d' with d1 _
 have:bT=its':=by simpa using iJ Array.toList d1
 subst this
 exact r.inj r'
end
section
end
section
variable{st:Stmt}{gb:List Stmt}{t u:TS}
def Rk:TS:=fun D σ H=>D.nx σ H
def UI(t u:TS):TS:=fun D σ H=>t { D with nx:=u D } σ H
theorem Kk:Ey X [] Rk:=fun _ _ σ H _ I h=>iQ ⟨σ,H,I,h⟩
theorem FQ(h1:PS X st t)(h2:Ey X gb u):Ey X (st::gb) (UI t u):=by
 intro ai s σ H D I h
 refine wpAny_execs_cons (BE (h1 ai s σ H { D with nx:=u D } I h) fun f s1 q=>?_)
 cases f with
 |next=>
  obtain⟨σ',H',I',q⟩:=q
  exact h2 ai s1 σ' H' D I' q
 |ret v=>exact q
 |brk=>exact q
 |cont=>exact q
theorem Kl(h1:PS X st t):Ey X [st] t:=by
 intro ai s σ H D I h
 refine wpAny_execs_cons (BE (h1 ai s σ H D I h) fun f s1 q=>?_)
 cases f with
 |next=>exact iQ q
 |ret v=>exact q
 |brk=>exact q
 |cont=>exact q
theorem bM.quiet(I:bM X ai σ H s):interactive X.env=false:=by simp[interactive,I.ok.kind]
def Ro(te:TE):TS:=fun D σ H=>te σ H fun _ H1=>D.nx σ H1
theorem Km(he:PE X e te)(hs:swapsWith e none pos.line X.env=pure false:=by rfl):PS X (.Expr e pos) (Ro te):=by
 intro ai s σ H D I h
 exact wpAny_Expr_any (jq (he ai s σ H _ I h) fun v s1 kt1 ⟨x,H1,I1,r1,q1⟩=>⟨σ,H1,I1,q1⟩) I.quiet hs
def UJ(te:TE):TS:=fun D σ H=>te σ H D.rt
theorem NS(he:PE X e te):PS X (.Return (some e) pos) (UJ te):=by
 intro ai s σ H D I h
 exact wpAny_Return_some (jq (he ai s σ H _ I h) fun v s1 kt1 ⟨x,H1,I1,r1,q1⟩=>⟨x,σ,H1,I1,r1,q1⟩)
def UK(c:TT)(t u:TS):TS:=fun D σ H=>c σ H fun b H1=>if b=true then t D σ H1 else u D σ H1
theorem Rp{c:Expr}{a b:List Stmt}{tc:TT}(hc:PT X c tc)(ha:Ey X a t)(hb:Ey X b u):PS X (.If c a b pos) (UK tc t u):=by
 intro ai s σ H D I h
 refine wpAny_If (jq (hc ai s σ H _ I h) fun d s1 kt1 zq=>?_)
 obtain⟨H1,I1,q1⟩:=zq
 cases d with
 |true=>exact ha ai s1 σ H1 D I1 q1
 |false=>exact hb ai s1 σ H1 D I1 q1
end
abbrev TG:=V->St->Hp->(St->Hp->Prop)->Prop
abbrev Kn:=List V->St->Hp->(St->Hp->Prop)->Prop
def PG(X:Cx)(QF:Expr)(t:TG):Prop:=
 ∀(ai:List (Addr×Obj)) (s:Shared) (σ:St) (H:Hp) (v:V) (u:Value) (Q:St->Hp->Prop),bM X ai σ H s->cW s.toks v u->t v σ H Q ->
  wpAny #[5] X.A (assign QF X.env u) (fun _ s'=>∃σ' H',bM X ai σ' H' s'/\Q σ' H') X.xe s
def Mh(X:Cx)(ts:List Expr)(t:Kn):Prop:=
 ∀(ai:List (Addr×Obj)) (s:Shared) (σ:St) (H:Hp) (vs:List V) (us:List Value) (Q:St->Hp->Prop),bM X ai σ H s->cR s.toks vs us->t vs σ H Q ->
  wpAny #[5] X.A (assignInOrder ((assignEach ts X.env).map (·.2)) us) (fun _ s'=>∃σ' H',bM X ai σ' H' s'/\Q σ' H') X.xe s
abbrev Ko:=V->V->V->Hp->(Hp->Prop)->Prop
def Ez(X:Cx)(t:Ko):Prop:=
 ∀(ai:List (Addr×Obj)) (s:Shared) (σ:St) (H:Hp) (o i v:V) (ov iv u:Value) (Q:Hp->Prop),bM X ai σ H s->cW s.toks o ov->cW s.toks i iv->cW s.toks v u->t o i v H Q ->
  wpAny #[5] X.A (setItem ov iv u) (fun _ s'=>∃H',bM X ai σ H' s'/\Q H') X.xe s
section
def Mi(i:Nat):TG:=fun v σ H Q=>Q (σ.set i (some v)) H
theorem Kp(hN:X.N.Nodup)(hi:X.N[i]?=some x)(hx:J8 X.env.scope x)(hf:X.fn x=true\/X.env.scope.names.lookup x=some .local:=by first|exact .inl rfl|exact .inr rfl|assumption):PG X (.Name x pos) (Mi i):=by
 intro ai s σ H v u Q I r h
 exact wpAny_assign_Name (uN I hN hi hx r (fun s' I'=>⟨_,H,I',h⟩) hf)
def UL:Kn:=fun vs σ H Q=>vs=[]/\Q σ H
def Rq(t:TG)(u:Kn):Kn:=fun vs σ H Q=>∃v r,vs=v::r/\t v σ H fun σ' H'=>u r σ' H' Q
theorem Kq:Mh X [] UL:=by
 intro ai s σ H vs us Q I r h
 obtain⟨e,h⟩:=h
 subst e
 cases r
 exact assignInOrder_nil ⟨σ,H,I,h⟩
theorem FR{t:TG}{u:Kn}(h1:PG X e t)(h2:Mh X es u)
  (hs:(assignEach (e::es) X.env).map (·.2)=assign e X.env::(assignEach es X.env).map (·.2):=by rfl):Mh X (e::es) (Rq t u):=by
 intro ai s σ H vs us Q I r h
 obtain⟨v,vr,e1,h⟩:=h
 subst e1
 cases r with
 |cons r rr=>
  rw[hs]
  refine assignInOrder_cons (jq (h1 ai s σ H _ _ _ I r h) fun _ s1 kt1 zq=>?_)
  obtain⟨σ1,H1,I1,q1⟩:=zq
  exact h2 ai s1 σ1 H1 _ _ Q I1 (cR.up kt1 rr) q1
def UM(K:Frag)(n:Nat)(t:Kn):TG:=fun v σ H Q=>∃a xs,v=.ref a/\ic K H a xs/\xs.length=n/\t xs σ H Q
theorem NT{k:Nat}{t:Kn}(hc:X.calm=true)(h:Mh X es t)
  (hn:(assignEach es X.env).length=n:=by rfl) (mT:(assignEach es X.env).findIdx? (·.1)=none:=by rfl):PG X (.Tuple es k pos) (UM X.K n t):=by
 intro ai s σ H v u Q I r hw
 obtain⟨a,xs,e1,hq,hl,hw⟩:=hw
 subst e1
 cases r
 obtain⟨bT,rv,ht,hz⟩:=I.tuple hq
 refine assign_Tuple_tuple (I.ok.hd hc) ht (by simp[hn,<- hl,rv.length]) mT fun h' hx=>?_
 have I1:bM X ai σ H { s with heap:=h' }:=I.kept (t':=s.toks) fun b o e=>hx b o (aY (aP e)) e
 exact h ai _ σ H xs _ Q I1 (by simpa using rv) hw
def UN(to ti:TE)(t:Ko):TG:=fun v σ H Q=>to σ H fun o H1=>ti σ H1 fun i H2=>t o i v H2 fun H3=>Q σ H3
theorem NU{i:Expr}{to ti:TE}{t:Ko}(ho:PE X o to)(hi:PE X i ti)(hs:Ez X t)
  (ha:∀v,assign (.Subscript o i pos) X.env v=(do
   let ov <- holding [v] (eval o X.env)
   let iv <- holding [v,ov] (eval i X.env)
   standAt pos
   holding [v,ov,iv] (setItem ov iv v)
   release [v,ov,iv] []):=by intro _;rfl):PG X (.Subscript o i pos) (UN to ti t):=by
 intro ai s σ H v u Q I r h
 rw[ha]
 refine ag (dm (jq (ho ai s σ H _ I h) fun ov s1 kt1 zq=>?_))
 obtain⟨x,H1,I1,r1,q1⟩:=zq
 refine ag (dm (jq (hi ai s1 σ H1 _ I1 q1) fun iv s2 kt2 zq=>?_))
 obtain⟨y,H2,I2,r2,q2⟩:=zq
 refine ag (qx (ag (dm (jq (hs ai s2 σ H2 x y v ov iv u _ I2 (r1.up kt2) r2 (r.up (aH kt1 kt2)) q2) fun _ s3 kt3 zq=>?_))))
 obtain⟨H3,I3,q3⟩:=zq
 exact wpAny_release ⟨σ,H3,I3,q3⟩
def Kr(te:TE)(g:TG):TS:=fun D σ H=>te σ H fun x H1=>g x σ H1 D.nx
theorem NV{g:TG}(he:PE X e te)(hg:PG X tg g)(hs:swapsWithSole [tg] e pos.line X.env=pure false:=by rfl)(hw:swappedStores [tg] e X.env=pure none:=by rfl)
  (h1:(assignEach [tg] X.env).map (·.2)=[assign tg X.env]:=by rfl):PS X (.Assign [tg] e pos) (Kr te g):=by
 intro ai s σ H D I h
 refine wpAny_Assign_stores (jq (he ai s σ H _ I h) fun v s1 kt1 ⟨x,H1,I1,r1,q1⟩=>?_) hs hw
 rw[h1]
 exact BE (hg ai s1 σ H1 x v _ I1 r1 q1) fun _ s2 q=>q
theorem NW(hN:X.N.Nodup)(hi:X.N[i]?=some x)(hx:J8 X.env.scope x)(he:PE X e te)(hs:swapsWith e (some (.Name x iY)) pos.line X.env=pure false:=by rfl)(hf:X.fn x=true\/X.env.scope.names.lookup x=some .local:=by first|exact .inl rfl|exact .inr rfl|assumption) :
  PS X (.Assign [.Name x iY] e pos) (Kr te (Mi i)):=by
 intro ai s σ H D I h
 refine wpAny_Assign_Name (jq (he ai s σ H _ I h) fun v s1 kt1 ⟨y,H1,I1,r1,q1⟩=>?_) hs
 exact uN I1 hN hi hx r1 (fun s2 I2=>⟨_,H1,I2,q1⟩) hf
end
section
def FU(c:TT)(tb:TS):TS:=fun D σ H=>∃W:Nat->St->Hp->Prop,(∃m,W m σ H)/\∀m σ H,W m σ H ->
 c σ H fun b H1=>if b=true then ∃N:St->Hp->Prop,(∀σ' H',N σ' H'->∃m',m'<m/\W m' σ' H')/\tb { D with nx:=N,ct:=N,bk:=D.nx } σ H1 else D.nx σ H1
theorem FV{c:Expr}{body:List Stmt}{tc:TT}{tb:TS}(hp:PassesOwn #[5] X.A X.env X.xe)(hc:PT X c tc)(hb:Ey X body tb):PS X (.While c body [] pos) (FU tc tb):=by
 intro ai s σ H D I h
 obtain⟨W,⟨m0,w0⟩,turn⟩:=h
 refine wpAny_While (codeAny_whileLoop (fun n s'=>∃σ' H',bM X ai σ' H' s'/\W n σ' H') ?_ m0 ⟨σ,H,I,w0⟩)
 rintro n s1 ⟨σ1,H1,I1,w1⟩
 refine fS hp (jq (hc ai s1 σ1 H1 _ I1 (turn n σ1 H1 w1)) fun b s2 kt2 zq=>?_)
 obtain⟨H2,I2,q2⟩:=zq
 cases b with
 |true=>
  obtain⟨N,hN,q2⟩:=q2
  rw[aC rfl]
  refine fS hp (BE (hb ai s2 σ1 H2 _ I2 q2) fun f s3 q3=>?_)
  cases f with
  |next=>
   obtain⟨σ3,H3,I3,n3⟩:=q3
   obtain⟨m',hm,w3⟩:=hN σ3 H3 n3
   exact⟨m',hm,σ3,H3,I3,w3⟩
  |cont=>
   obtain⟨σ3,H3,I3,n3⟩:=q3
   obtain⟨m',hm,w3⟩:=hN σ3 H3 n3
   exact⟨m',hm,σ3,H3,I3,w3⟩
  |brk=>exact q3
  |ret v=>exact q3
 |false=>
  rw[aJ eJ]
  exact iQ ⟨σ1,H2,I2,q2⟩
end
structure It where
 go:Nat->Hp->Prop
 yld:Nat->Hp->V->Hp->Prop
 stop:Nat->Hp->Prop
def uO(X:Cx)(ai:List (Addr×Obj))(H:Hp)(b:Addr):Prop:=
 H b=none/\b≠X.env.locals/\b∉X.fs/\(b∈X.ex\/X.s₀.heap.objs.size<=b)/\(∀x c,X.env.cells.lookup x=some c->c≠b)/\∀p∈X.pn++ai,p.1≠b
theorem bM.fpOk(I:bM X ai σ H s)(hb:s.heap.objs.size<=b)(hn:H' b=none):uO X ai H' b:=by
 refine⟨hn,eP (aS I.lt hb),I.nofs hb,.inr (aH I.sz hb),fun x c e z=>?_,fun p hp z=>?_⟩
 ·obtain⟨v,q⟩:=I.cell x c e
  exact absurd (aS q.lt (by rw[z];exact hb)) (dh _)
 ·exact absurd (aS (aP (I.pin p hp).1) (by rw[z];exact hb)) (dh _)
structure BF(P:Program)(w:World)(K:Frag)(tg:Expr)(J:It)(fp:List Addr)(it:Addr)(tn:Nat->Heap->Prop):Prop where
 mem:it∈fp
 obj:∀i h,tn i h->∀b∈fp,∃o,h.get? b=some o/\∀v,o.data≠.cell v
 keep:∀i h h',tn i h->(∀b∈fp,∀o,h.get? b=some o->h'.get? b=some o)->tn i h'
 item:∀(X:Cx),X.prog=P->X.w=w->X.K=K->X.calm=true->∀(i:Nat) (ai:List (Addr×Obj)) (s:Shared) (σ:St) (H:Hp) (E:Value->Shared->Prop),bM X ai σ H s->(∀b∈fp,uO X ai H b)->tn i s.heap->J.go i H ->
  wpAny (model P w) X.A (pyNext (.ref it)) (fun r s1=>∃u,r=some u /\
   wpAny (model P w) X.A (letOwnedTupleGo tg (.ref it) u) (fun _ s2=>∃x H',bM X ai σ H' s2/\cW s2.toks x u/\J.yld i H x H'/\tn (i+1) s2.heap/\∀b∈fp,H' b=none) E s1) E s
 done:∀(X:Cx),X.prog=P->X.w=w->X.K=K->X.calm=true->∀(i:Nat) (ai:List (Addr×Obj)) (s:Shared) (σ:St) (H:Hp) (E:Value->Shared->Prop),bM X ai σ H s->(∀b∈fp,uO X ai H b)->tn i s.heap->J.stop i H ->
  wpAny (model P w) X.A (pyNext (.ref it)) (fun r s1=>r=none/\bM X ai σ H s1) E s
 self:∀(A:Around) (i:Nat) (s:Shared) (Q:Value->Shared->Prop) (E:Value->Shared->Prop),tn i s.heap->Q (.ref it) s->wpAny (model P w) A (pyIter (.ref it)) Q E s
abbrev TI:=St->Hp->(It->Hp->Prop)->Prop
def VJ(X:Cx)(ai:List (Addr×Obj))(σ:St)(tg:Expr)(R:It->Hp->Prop)(Vz:Value)(s2:Shared):Prop:=
 ∃(it:Addr) (fp:List Addr) (tn:Nat->Heap->Prop) (J:It) (H':Hp),Vz=.ref it/\bM X ai σ H' s2/\BF X.prog X.w X.K tg J fp it tn/\tn 0 s2.heap/\(∀b∈fp,uO X ai H' b)/\R J H'
def PI(X:Cx)(tg d3:Expr)(wi:TI):Prop:=
 ∀(ai:List (Addr×Obj)) (s:Shared) (σ:St) (H:Hp) (R:It->Hp->Prop),bM X ai σ H s->wi σ H R ->
  wpAny #[5] X.A (eval d3 X.env) (fun v s1=>wpAny #[5] X.A (pyIter v) (VJ X ai σ tg R) X.xe s1) X.xe s
theorem zg      {E:Value -> Shared -> Prop} {s:Shared}    {o:Obj} {n:String} {vs:Array Value} {Q:Unit -> Shared -> Prop} (ho : s.heap.get? it = some o) (hc : o.cls = .type n) (hd : o.data = .fields vs)
    (hn : ["enumerate", "zip", "dict_itemiterator", "dict_reverseitemiterator", "odict_iterator", "itertools.zip_longest", "itertools.pairwise"].contains n = false) (hQ : Q () s) : wpAny M A (letOwnedTupleGo tg (.ref it) u) Q E s := by
  unfold letOwnedTupleGo
  cases tg <;> first
    | exact aA         hQ
    | (cases u <;> first
        | exact aA         hQ
        | (refine ag         (wpAny_load ho ?_)
           rw [hc, hd]
           show wpAny M A (if (["enumerate", "zip", "dict_itemiterator", "dict_reverseitemiterator", "odict_iterator", "itertools.zip_longest", "itertools.pairwise"].contains n && vs[0]? == some (rawInt _)) = true then _ else _) Q E s
           rw [aJ     (by intro h; rw [hn, k6            ] at h; cases h)]
           exact aA         hQ))
def VL(K:Frag)(a:Addr):It:=
 ⟨fun i H=>∃xs x,sH K H a xs/\xs[i]?=some x,fun i H x H'=>H'=H/\∀xs,sH K H a xs->xs[i]?=some x,fun i H=>∃xs,sH K H a xs/\xs.length<=i⟩
def VM(K:Frag)(a:Addr):It:=
 ⟨fun i H=>∃xs x,ic K H a xs/\xs[i]?=some x,fun i H x H'=>H'=H/\∀xs,ic K H a xs->xs[i]?=some x,fun i H=>∃xs,ic K H a xs/\xs.length<=i⟩
def Um(lo:Int)(n:Nat):It:=⟨fun i _=>i<n,fun i H x H'=>H'=H/\x=.int (lo+i),fun i _=>n<=i⟩
theorem EA{w:World}(a it:Addr):BF P w K tg (VL K a) [it] it (fun i h=>h.IsListIter it a i) where
 mem:=by simp
 obj:=fun i h st b hb=>by
  have e:b=it:=by simpa using hb
  subst e
  obtain⟨o,e,c,d⟩:=st
  exact⟨o,e,fun v z=>by rw[d]at z;cases z⟩
 keep:=fun i h h' st k=>st.at fun o e=>k it #[18] o e
 item:=by
  walk_at "4"
  subst hP hw hK
  obtain⟨xs,x,hq,hx⟩:=hg
  obtain⟨bT,rv,p,hz⟩:=I.list hq
  obtain⟨u,hu,ru⟩:=rv.get hx
  walk_at "5"
  refine wpAny_pyNext_list_item st p.isList (x:=u) (by simpa using hu) fun h' bF sb=>?_
  have I1:bM X ai σ H { s with heap:=h' }:=I.turned (t':=s.toks) (fun b o hb e=>(sb.2 b hb).trans e) f0 f1 f3 f4 f5
  obtain⟨o,e,c,d⟩:=id bF
  exact⟨u,rfl,zg (s:={ s with heap:=h' }) e c d #[1] ⟨x,H,I1,ru,⟨rfl,fun ys hy=>by rw[I.list_inj hy hq];exact hx⟩,bF,fun b hb=>(hf b hb).1⟩⟩
 done:=by
  walk_at "4"
  subst hP hw hK
  obtain⟨xs,hq,hx⟩:=hg
  obtain⟨bT,rv,p,hz⟩:=I.list hq
  walk_at "5"
  have hl:=rv.length
  exact wpAny_pyNext_list_end (I.ok.hd hc) st p.isList (by simp;omega) fun h' eb=>⟨rfl,I.turned (t':=s.toks) (fun b o hb e=>eb b o hb e) f0 f1 f3 f4 f5⟩
 self:=fun _ _ _ _ _ st h=>wpAny_pyIter_listiter st h
theorem BG{w:World}(a it:Addr):BF P w K tg (VM K a) [it] it (fun i h=>h.IsTupleIter it a i) where
 mem:=by simp
 obj:=fun i h st b hb=>by
  have e:b=it:=by simpa using hb
  subst e
  obtain⟨o,e,c,d⟩:=st
  exact⟨o,e,fun v z=>by rw[d]at z;cases z⟩
 keep:=fun i h h' st k=>st.at fun o e=>k it #[18] o e
 item:=by
  walk_at "4"
  subst hP hw hK
  obtain⟨xs,x,hq,hx⟩:=hg
  obtain⟨bT,rv,p,hz⟩:=I.tuple hq
  obtain⟨u,hu,ru⟩:=rv.get hx
  walk_at "5"
  refine wpAny_pyNext_tuple_item st (show s.heap.IsTuple a bT.toArray from p) (x:=u) (by simpa using hu) fun h' bF sb=>?_
  have I1:bM X ai σ H { s with heap:=h' }:=I.turned (t':=s.toks) (fun b o hb e=>(sb.2 b hb).trans e) f0 f1 f3 f4 f5
  obtain⟨o,e,c,d⟩:=id bF
  exact⟨u,rfl,zg (s:={ s with heap:=h' }) e c d #[1] ⟨x,H,I1,ru,⟨rfl,fun ys hy=>by rw[I.tuple_inj hy hq];exact hx⟩,bF,fun b hb=>(hf b hb).1⟩⟩
 done:=by
  walk_at "4"
  subst hP hw hK
  obtain⟨xs,hq,hx⟩:=hg
  obtain⟨bT,rv,p,hz⟩:=I.tuple hq
  walk_at "5"
  have hl:=rv.length
  exact wpAny_pyNext_tuple_end (I.ok.hd hc) st (show s.heap.IsTuple a bT.toArray from p) (by simp;omega) fun h' eb=>⟨rfl,I.turned (t':=s.toks) (fun b o hb e=>eb b o hb e) f0 f1 f3 f4 f5⟩
 self:=fun _ _ _ _ _ st h=>wpAny_pyIter_tupleiter st h
theorem BH{w:World}(it:Addr)(lo:Int)(n:Nat):BF P w K tg (Um lo n) [it] it (fun i h=>IsRangeIter h it (lo+(i:Nat)*1) ((n:Int)-(i:Nat)) 1) where
 mem:=by simp
 obj:=fun i h st b hb=>by
  have e:b=it:=by simpa using hb
  subst e
  exact⟨_,st,fun v z=>by
   have z':Data.fields _=Data.cell v:=z
   cases z'⟩
 keep:=fun i h h' st k=>k it #[18] _ st
 item:=by
  walk_at "4"
  subst hP hw hK
  walk_at "5"
  have W:=Walks.range (prog:=X.prog) (w:=X.w) (I.ok.hd hc) it lo 1 n
  refine up (W.item i s _ _ hg st fun v h' tk hv bF kk hk=>?_)
  obtain⟨t,rfl⟩:=hv
  have I1:bM X ai σ H { s with heap:=h',toks:=tk }:=I.turned (fun b o hb e=>kk b o (by simpa using hb) e) f0 f1 f3 f4 f5
  refine⟨_,rfl,zg (s:={ s with heap:=h',toks:=tk }) (n:="range_iterator") bF rfl rfl #[1] ⟨.int (lo+i),H,I1,⟨t,?_⟩,⟨rfl,rfl⟩,bF,fun b hb=>(hf b hb).1⟩⟩
  rw[Int.mul_one]
 done:=by
  walk_at "4"
  subst hP hw hK
  walk_at "5"
  exact wpAny_pyNext_range_end (I.ok.hd hc) st (by have:n<=i:=hg;omega) fun h' eb=>⟨rfl,I.turned (t':=s.toks) (fun b o hb e=>eb b o hb e) f0 f1 f3 f4 f5⟩
 self:=fun _ _ _ _ _ st h=>nr st h
end L2
namespace L2
open PySem PySem.Spec PyProof.Rows
section
def Rs(K:Frag)(tl:TE):TI:=fun σ H R=>tl σ H fun x H1=>∃a,x=.ref a/\(∃xs,sH K H1 a xs)/\R (VL K a) H1
def UO(K:Frag)(tl:TE):TI:=fun σ H R=>tl σ H fun x H1=>∃a,x=.ref a/\(∃xs,ic K H1 a xs)/\R (VM K a) H1
theorem Ks{l:Expr}{tl:TE}(hl:PE X l tl):PI X tg l (Rs X.K tl):=by
 intro ai s σ H R I h
 refine jq (hl ai s σ H _ I h) fun v s1 kt1 zq=>?_
 obtain⟨x,H1,I1,r1,q1⟩:=zq
 obtain⟨a,e,⟨xs,hq⟩,q⟩:=q1
 subst e
 cases r1
 obtain⟨bT,rv,p,hz⟩:=I1.list hq
 refine wpAny_pyIter_list p.isList ?_
 refine⟨s1.heap.objs.size,[s1.heap.objs.size],_,_,H1,rfl,I1.kept (t':=s1.toks) fun b o e=>av _ e,EA a _,⟨_,aO _ rfl,rfl,rfl⟩,fun b hb=>?_,q⟩
 have e:b=s1.heap.objs.size:=by simpa using hb
 subst e
 exact I1.fpOk (ay _) (I1.hok.fresh (ay _))
theorem NX{l:Expr}{tl:TE}(hl:PE X l tl):PI X tg l (UO X.K tl):=by
 intro ai s σ H R I h
 refine jq (hl ai s σ H _ I h) fun v s1 kt1 zq=>?_
 obtain⟨x,H1,I1,r1,q1⟩:=zq
 obtain⟨a,e,⟨xs,hq⟩,q⟩:=q1
 subst e
 cases r1
 obtain⟨bT,rv,p,hz⟩:=I1.tuple hq
 refine i3 (show s1.heap.IsTuple a bT.toArray from p) ?_
 refine⟨s1.heap.objs.size,[s1.heap.objs.size],_,_,H1,rfl,I1.kept (t':=s1.toks) fun b o e=>av _ e,BG a _,⟨_,aO _ rfl,rfl,rfl⟩,fun b hb=>?_,q⟩
 have e:b=s1.heap.objs.size:=by simpa using hb
 subst e
 exact I1.fpOk (ay _) (I1.hok.fresh (ay _))
theorem FW{R:It->Hp->Prop}{lo hi:Int}{t u v:Tok}{tk:Nat}(I:bM X ai σ H s)(hk:s.toks<=tk)(h1:-(2^62)<=lo)(h2:lo<2^62)(h3:-(2^62)<=hi)(h4:hi<2^62)
  (q:R (Um lo (hi-lo).toNat) H):wpAny #[5] X.A (pyIter (.ref s.heap.objs.size)) (VJ X ai σ tg R) E { s with heap:=s.heap.push { cls:=.type "range",data:=.fields #[.int lo t,.int hi u,.int 1 v] },toks:=tk }:=by
 refine wpAny_pyIter_range (IsRange.new ..) (small_one h1 h2 h3 h4) ?_
 have I1:bM X ai σ H { s with heap:=s.heap.push { cls:=.type "range",data:=.fields #[.int lo t,.int hi u,.int 1 v] },toks:=tk }:=I.kept fun b o e=>av _ e
 refine⟨(s.heap.push { cls:=.type "range",data:=.fields #[.int lo t,.int hi u,.int 1 v] }).objs.size,[(s.heap.push { cls:=.type "range",data:=.fields #[.int lo t,.int hi u,.int 1 v] }).objs.size],_,_,H,rfl,
  I1.kept (t':=tk) fun b o e=>av _ e,BH _ lo (hi-lo).toNat,?_,fun b hb=>?_,q⟩
 ·have e1:lo+((0:Nat):Int)*1=lo:=by simp
  have e2:(((hi-lo).toNat:Nat):Int)-((0:Nat):Int)=Builtin.Range.rangeSize lo hi 1:=by rw[rangeSize_one];split<;>omega
  show IsRangeIter _ _ (lo+((0:Nat):Int)*1) ((((hi-lo).toNat:Nat):Int)-((0:Nat):Int)) 1
  rw[e1,e2]
  exact aO _ rfl
 ·have e:b=(s.heap.push { cls:=.type "range",data:=.fields #[.int lo t,.int hi u,.int 1 v] }).objs.size:=by simpa using hb
  subst e
  exact I1.fpOk (ay _) (I1.hok.fresh (ay _))
def Rt(ta:TA):TI:=fun σ H R=>ta σ H fun vs H1=>∃j:Int,vs=[.int j]/\-(2^62)<=j/\j<2^62/\R (Um 0 j.toNat) H1
theorem EB{a:Expr}{ta:TA}{p pos:Pos}(hg:Gl X "range")(hm:X.mg "range"=none)(ha:PA X [a] ta)(hs:starEach [a] X.env=[(false,eval a X.env)]:=by rfl):PI X tg (.Call (.Name "range" p) [a] [] pos) (Rt ta):=by
 intro ai s σ H R I h
 refine Call_ (oq I hg hm boot_range (dS (jq (ha pos ai s σ H _ I h) fun us s1 kt1 ⟨vs,H1,I1,r1,q1⟩=>?_) hs rfl))
 obtain⟨j,e,q1,q2,q⟩:=q1
 subst e
 cases r1 with
 |cons r rr=>
  cases rr
  obtain⟨t,rfl⟩:=r
  exact call_range_1 (FW I1 (by first|exact ay _|exact bB _|assumption|omega) #[0] #[0] q1 q2 (by simpa using q))
def UP(wi:TI)(g:TG)(tb:TS):TS:=fun D σ H=>wi σ H fun J H1=>∃W:Nat->Nat->St->Hp->Prop,(∃m,W 0 m σ H1)/\∀i m σ H,W i m σ H ->
 (J.stop i H/\D.nx σ H)\/(J.go i H/\∃N:St->Hp->Prop,(∀σ' H',N σ' H'->∃m',m'<m/\W (i+1) m' σ' H')/\∀x H',J.yld i H x H'->g x σ H' fun σ2 H2=>tb { D with nx:=N,ct:=N,bk:=D.nx } σ2 H2)
def xP(fp:List Addr)(h:Heap):List (Addr×Obj):=fp.filterMap fun b=>(h.get? b).map fun o=>(b,o)
theorem jA{o:Obj}(hb:b∈fp)(e:h.get? b=some o):(b,o)∈xP fp h:=k7.mpr ⟨b,hb,by rw[e];rfl⟩
theorem EC{p:Addr×Obj}(hp:p∈xP fp h):p.1∈fp/\h.get? p.1=some p.2:=by
 obtain⟨b,hb,e⟩:=k7.mp hp
 cases q:h.get? b with
 |none=>rw[q]at e;cases e
 |some o=>
  rw[q]at e
  have e':(b,o)=p:=bn e
  subst e'
  exact⟨hb,q⟩
theorem bM.pinned(I:bM X ai σ H s)(hf:∀b∈fp,uO X ai H b)(ho:∀b∈fp,∃o,s.heap.get? b=some o/\∀v,o.data≠.cell v):bM X (ai++xP fp s.heap) σ H s:=
 I.pins_of fun p hp=>(bg.mp hp).elim (fun z=>I.pin p (bf _ z)) fun z=>by
  obtain⟨hb,e⟩:=EC z
  obtain⟨f0,f1,f2,_⟩:=hf p.1 hb
  obtain⟨o,e',d⟩:=ho p.1 hb
  rw[e]at e';cases e'
  exact⟨e,f0,f1,f2,d⟩
theorem bM.unpinned{pl:List (Addr×Obj)}(I:bM X (ai++pl) σ H s):bM X ai σ H s:=I.pins_of fun p hp=>I.pin p (bf _ (cZ _ hp))
theorem NY{body:List Stmt}{wi:TI}{g:TG}{tb:TS}{pos:Pos}(hp:PassesOwn #[5] X.A X.env X.xe)(hc:X.calm=true)(hi:PI X tg d3 wi)(hg:PG X tg g)(hb:Ey X body tb)
  (hs:∀x,foldedSetIterable d3 X.env x=pure x:=by intro _;rfl):PS X (.For tg d3 body [] pos) (UP wi g tb):=by
 intro ai s σ H D I h
 refine wpAny_For (BE (hi ai s σ H _ I h) fun v s1 h1=>BE h1 fun Vz s2 h2=>?_) hs
 obtain⟨it,fp,tn,J,H2,e,I2,T,cT,f2,W,⟨m0,w0⟩,turn⟩:=h2
 subst e
 have stat:∀{H':Hp},(∀b∈fp,H' b=none)->∀b∈fp,uO X ai H' b:=fun hn b hb=>⟨hn b hb,(f2 b hb).2⟩
 refine codeAny_forLoop_any (fun n s'=>∃i σ' H',bM X ai σ' H' s'/\tn i s'.heap/\(∀b∈fp,H' b=none)/\W i n σ' H') ?_ m0 ⟨0,σ,H2,I2,cT,fun b hb=>(f2 b hb).1,w0⟩
 rintro n s3 ⟨i,σ3,H3,I3,j_,fr3,w3⟩
 rcases turn i n σ3 H3 w3 with⟨stop,qn⟩|⟨go,N,hN,step⟩
 ·refine fS hp (jq (T.done X rfl rfl rfl hc i ai s3 σ3 H3 X.xe I3 (stat fr3) j_ stop) fun r s4 kt4 zq=>?_)
  obtain⟨hr,I4⟩:=zq
  subst hr
  exact iQ ⟨σ3,H3,I4,qn⟩
 ·refine fS hp (jq (T.item X rfl rfl rfl hc i ai s3 σ3 H3 X.xe I3 (stat fr3) j_ go) fun r s4 kt4 zq=>?_)
  obtain⟨u,hr,h4⟩:=zq
  subst hr
  refine fS hp (BE h4 fun _ s5 zq=>?_)
  obtain⟨x,H5,I5,r5,y5,JC,fr5⟩:=zq
  have I5':=I5.pinned (stat fr5) (T.obj _ _ JC)
  refine fS hp (jq (hg _ s5 σ3 H5 x u _ I5' r5 (step x H5 y5)) fun _ s6 kt6 zq=>?_)
  obtain⟨σ6,H6,I6,q6⟩:=zq
  refine fS hp (BE (hb _ s6 σ6 H6 _ I6 q6) fun f s7 q7=>?_)
  have again:∀{σ7:St} {H7:Hp},bM X (ai++xP fp s5.heap) σ7 H7 s7->N σ7 H7->∃m,m<n/\∃i σ' H',bM X ai σ' H' s7/\tn i s7.heap/\(∀b∈fp,H' b=none)/\W i m σ' H':=fun{σ7 H7} I7 n7=>by
   obtain⟨m',hm,w7⟩:=hN σ7 H7 n7
   refine⟨m',hm,i+1,σ7,H7,I7.unpinned,T.keep _ _ _ JC fun b hb o e=>(I7.pin (b,o) (bf _ (bf _ (jA hb e)))).1,fun b hb=>?_,w7⟩
   obtain⟨o,e,d⟩:=T.obj _ _ JC b hb
   exact(I7.pin (b,o) (bf _ (bf _ (jA hb e)))).2.1
  cases f with
  |next=>obtain⟨σ7,H7,I7,n7⟩:=q7;exact again I7 n7
  |cont=>obtain⟨σ7,H7,I7,n7⟩:=q7;exact again I7 n7
  |brk=>obtain⟨σ7,H7,I7,q7⟩:=q7;exact⟨σ7,H7,I7.unpinned,q7⟩
  |ret v=>obtain⟨x7,σ7,H7,I7,r7,q7⟩:=q7;exact⟨x7,σ7,H7,I7.unpinned,r7,q7⟩
end
end L2
namespace L2
open PySem PySem.Spec PyProof.Rows
abbrev R2:=V->V->Hp->VK->Prop
def l7(X:Cx)(f:Value->Value->Sem Value)(r:R2):Prop:=
 ∀(ai:List (Addr×Obj)) (s:Shared) (σ:St) (H:Hp) (x y:V) (v u:Value) (Q:VK),bM X ai σ H s->cW s.toks x v->cW s.toks y u->r x y H Q ->
  wpAny #[5] X.A (f v u) (EP X ai σ Q) X.xe s
def UQ(X:Cx)(f:Value->Sem Value)(r:V->Hp->VK->Prop):Prop:=
 ∀(ai:List (Addr×Obj)) (s:Shared) (σ:St) (H:Hp) (x:V) (v:Value) (Q:VK),bM X ai σ H s->cW s.toks x v->r x H Q ->
  wpAny #[5] X.A (f v) (EP X ai σ Q) X.xe s
def ja(X:Cx)(f:Value)(r:List V->Hp->VK->Prop):Prop:=
 ∀(ai:List (Addr×Obj)) (s:Shared) (σ:St) (H:Hp) (xs:List V) (us:List Value) (Q:VK),bM X ai σ H s->cR s.toks xs us->r xs H Q ->
  wpAny #[5] X.A (call f us) (EP X ai σ Q) X.xe s
def Ru(r:R2)(ta tb:TE):TE:=fun σ H Q=>ta σ H fun x H1=>tb σ H1 fun y H2=>r x y H2 Q
def Wh(r:V->Hp->VK->Prop)(ta:TE):TE:=fun σ H Q=>ta σ H fun x H1=>r x H1 Q
def rI(C:Int->Int->Prop)(g:Int->Int->V):R2:=fun x y H Q=>∃i j,x=.int i/\y=.int j/\C i j/\Q (g i j) H
def Fw(g:Int->Int->V):R2:=fun x y H Q=>∃i j,x=.int i/\y=.int j/\Q (g i j) H
def rU(g:Int->V):V->Hp->VK->Prop:=fun x H Q=>∃i,x=.int i/\Q (g i) H
section
variable{a b c:Expr}{ta tb tc:TE}
theorem NZ(ha:PE X a ta)(hb:PE X b tb){R:V->V->Hp->Prop}(I:bM X ai σ H s)
  (h:ta σ H fun x H1=>tb σ H1 fun y H2=>R x y H2) {Q:Value->Shared->Prop} {f:Value->Value->Sem Value}
  (hf:∀v u s2 x y H2,bM X ai σ H2 s2->cW s2.toks x v->cW s2.toks y u->R x y H2->wpAny #[5] X.A (f v u) Q X.xe s2) :
  wpAny #[5] X.A (eval a X.env) (fun v s₁=>wpAny #[5] X.A (eval b X.env) (fun u s₂=>wpAny #[5] X.A (f v u) Q X.xe s₂) X.xe s₁) X.xe s:=by
 refine jq (ha ai s σ H _ I h) fun v s1 kt1 zq=>?_
 obtain⟨x,H1,I1,r1,q1⟩:=zq
 refine jq (hb ai s1 σ H1 _ I1 q1) fun u s2 kt2 zq=>?_
 obtain⟨y,H2,I2,r2,q2⟩:=zq
 exact hf v u s2 x y H2 I2 (r1.up kt2) r2 q2
theorem Rv{op:Operator}{r:R2}(ho:l7 X (binaryOp op) r)(ha:PE X a ta)(hb:PE X b tb):PE X (.BinOp a op b pos) (Ru r ta tb):=by
 intro ai s σ H Q I h
 exact wpAny_BinOp (NZ ha hb I h fun v u s2 x y H2 I2 rx ry q=>ho ai s2 σ H2 x y v u Q I2 rx ry q)
theorem Rw{op:UnaryOp}{r:V->Hp->VK->Prop}(ho:UQ X (unaryOp op) r)(ha:PE X a ta):PE X (.UnaryOp op a pos) (Wh r ta):=by
 intro ai s σ H Q I h
 exact UnaryOp_ (jq (ha ai s σ H _ I h) fun v s1 kt1 ⟨x,H1,I1,r1,q1⟩=>ho ai s1 σ H1 x v Q I1 r1 q1)
theorem N0{f:Value->Value->Sem Value}{C:Int->Int->Prop}{g:Int->Int->Int}
  (rule:∀(i j:Int) (t u:Tok) (s:Shared) (Q:Value->Shared->Prop) (E:Value->Shared->Prop),C i j->Q (.int (g i j) s.toks) { s with toks:=s.toks+1 }->wpAny #[5] X.A (f (.int i t) (.int j u)) Q E s) :
  l7 X f (rI C fun i j=>.int (g i j)):=by
 intro ai s σ H x y v u Q I rx ry h
 obtain⟨i,j,rfl,rfl,hc,q⟩:=h
 obtain⟨t,rfl⟩:=rx
 obtain⟨t',rfl⟩:=ry
 exact rule i j t t' s _ _ hc ⟨.int (g i j),H,I.tok _,⟨_,rfl⟩,q⟩
theorem Kt{f:Value->Value->Sem Value}{g:Int->Int->Int}
  (rule:∀(i j:Int) (t u:Tok) (s:Shared) (Q:Value->Shared->Prop) (E:Value->Shared->Prop),Q (.int (g i j) s.toks) { s with toks:=s.toks+1 }->wpAny #[5] X.A (f (.int i t) (.int j u)) Q E s) :
  l7 X f (Fw fun i j=>.int (g i j)):=by
 intro ai s σ H x y v u Q I rx ry h
 obtain⟨i,j,rfl,rfl,q⟩:=h
 obtain⟨t,rfl⟩:=rx
 obtain⟨t',rfl⟩:=ry
 exact rule i j t t' s _ _ ⟨.int (g i j),H,I.tok _,⟨_,rfl⟩,q⟩
theorem Ku{f:Value->Value->Sem Value}{g:Int->Int->Bool}
  (rule:∀(i j:Int) (t u:Tok) (s:Shared) (Q:Value->Shared->Prop) (E:Value->Shared->Prop),Q (.bool (g i j)) s->wpAny #[5] X.A (f (.int i t) (.int j u)) Q E s) :
  l7 X f (Fw fun i j=>.bl (g i j)):=by
 intro ai s σ H x y v u Q I rx ry h
 obtain⟨i,j,rfl,rfl,q⟩:=h
 obtain⟨t,rfl⟩:=rx
 obtain⟨t',rfl⟩:=ry
 exact rule i j t t' s _ _ ⟨.bl (g i j),H,I,rfl,q⟩
def UR(i j:Int):Prop:=0<j/\j<1073741824
def N1(i j:Int):Prop:=0<=j/\j<=1000000/\i.natAbs<2^64
def N2(i j:Int):Prop:=(-(2^64)<i/\i<2^64)\/(-(2^64)<j/\j<2^64)
theorem N2.ok{i j:Int}(h:N2 i j):IntMulOk i j:=by
 rcases h with⟨h1,h2⟩|⟨h1,h2⟩
 ·exact .of_left (intBits_le_64 h1 h2)
 ·exact .of_right (intBits_le_64 h1 h2)
theorem BI(k:Nat):(0:Int)<=2^k:=by
 rw[two_pow_cast]
 exact Int.natCast_nonneg _
theorem N3:l7 X (binaryOp .Add) (Fw fun i j=>.int (i+j)):=Kt fun _ _ _ _ _ _ _ q=>add_int q
theorem N4:l7 X (binaryOp .Sub) (Fw fun i j=>.int (i-j)):=Kt fun _ _ _ _ _ _ _ q=>sub_int q
theorem N5:l7 X (binaryOp .Mult) (rI N2 fun i j=>.int (i*j)):=N0 fun _ _ _ _ _ _ _ hc q=>mul_int q hc.ok
theorem Kv:l7 X (binaryOp .FloorDiv) (rI UR fun i j=>.int (i/j)):=N0 fun i j _ _ _ _ _ hc q=>by
 have h1:(0:Int)<j:=hc.1
 have h2:j<1073741824:=hc.2
 exact floordiv_int #[0] (by rw[k8 i #[0]];exact q) (.inl (nu #[0]))
theorem N6:l7 X (binaryOp .Mod) (rI (fun _ j=>0<j) fun i j=>.int (i%j)):=N0 fun i j _ _ _ _ _ hc q=>by
 have h1:(0:Int)<j:=hc
 exact mod_int' #[0] (by rw[Int.fmod_eq_emod_of_nonneg i #[0]];exact q)
theorem N7:l7 X (binaryOp .Pow) (rI N1 fun i j=>.int (i^j.toNat)):=N0 fun _ _ _ _ _ _ _ hc q=>pow_int_small hc.1 hc.2.1 hc.2.2 q
theorem FX:l7 X (binaryOp .LShift) (rI N1 fun i j=>.int (i*2^j.toNat)):=N0 fun _ _ _ _ _ _ _ hc q=>lshift_int_small hc.1 hc.2.1 hc.2.2 q
theorem N8:l7 X (binaryOp .RShift) (rI (fun _ j=>0<=j) fun i j=>.int (i/2^j.toNat)):=N0 fun i j _ _ _ _ _ hc q=>
 rshift_int hc (by rw[k8 i (BI _)];exact q)
theorem N9:l7 X (binaryOp .BitAnd) (Fw fun i j=>.int (Builtin.bitAnd i j)):=Kt fun _ _ _ _ _ _ _ q=>and_int q
theorem Rx:l7 X (binaryOp .BitOr) (Fw fun i j=>.int (Builtin.bitOr i j)):=Kt fun _ _ _ _ _ _ _ q=>or_int q
theorem Wi{f:Value->Sem Value}{g:Int->Int}
  (rule:∀(i:Int) (t:Tok) (s:Shared) (Q:Value->Shared->Prop) (E:Value->Shared->Prop),Q (.int (g i) s.toks) { s with toks:=s.toks+1 }->wpAny #[5] X.A (f (.int i t)) Q E s) :
  UQ X f (rU fun i=>.int (g i)):=by
 intro ai s σ H x v Q I rx h
 obtain⟨i,rfl,q⟩:=h
 obtain⟨t,rfl⟩:=rx
 exact rule i t s _ _ ⟨.int (g i),H,I.tok _,⟨_,rfl⟩,q⟩
theorem N_:UQ X (unaryOp .USub) (rU fun i=>.int (-i)):=Wi fun _ _ _ _ _ q=>neg_int q
end
section
variable{a b c:Expr}{ta tb tc:TE}
theorem FY{Q:VK}{k k':Bool}(I:bM X ai σ H s)(q:Q (.bl k) H)(e:k=k'):EP X ai σ Q (.bool k') s:=by
 subst e
 exact⟨.bl k,H,I,rfl,q⟩
theorem Ry:l7 X (compareOp .Lt) (Fw fun i j=>.bl (decide (i<j))):=Ku fun _ _ _ _ _ _ _ q=>lt_int q
theorem Rz:l7 X (compareOp .LtE) (Fw fun i j=>.bl (decide (i<=j))):=Ku fun _ _ _ _ _ _ _ q=>le_int q
theorem RA:l7 X (compareOp .Gt) (Fw fun i j=>.bl (decide (j<i))):=Ku fun _ _ _ _ _ _ _ q=>gt_int q
theorem RB:l7 X (compareOp .GtE) (Fw fun i j=>.bl (decide (j<=i))):=Ku fun _ _ _ _ _ _ _ q=>ge_int q
theorem ED:l7 X (compareOp .In) (fun x y H Q=>∃i j,x=.str i/\y=.str j/\Q (.bl (!(Builtin.Str.occurrences j i 0 j.length 1).isEmpty)) H):=by
 intro ai s σ H x y v u Q I rx ry h
 obtain⟨i,j,rfl,rfl,q⟩:=h
 obtain⟨t,rfl⟩:=rx
 obtain⟨t',rfl⟩:=ry
 exact in_str (FY I q rfl)
theorem xQ:l7 X (compareOp .NotIn) (fun x y H Q=>∃i j,x=.str i/\y=.str j/\Q (.bl (!(!(Builtin.Str.occurrences j i 0 j.length 1).isEmpty))) H):=by
 intro ai s σ H x y v u Q I rx ry h
 obtain⟨i,j,rfl,rfl,q⟩:=h
 obtain⟨t,rfl⟩:=rx
 obtain⟨t',rfl⟩:=ry
 exact notIn_str (FY I q rfl)
theorem FZ(b:Expr)(h:op≠.In:=by decide)(h2:op≠.NotIn:=by decide):behindInMarks op b=false:=by
 have e1:(op==CmpOp.In)=false:=by cases op<;>first|rfl|exact absurd rfl h
 have e2:(op==CmpOp.NotIn)=false:=by cases op<;>first|rfl|exact absurd rfl h2
 cases b<;>simp[behindInMarks,e1,e2]
theorem Kw{r:R2}(ho:l7 X (compareOp op) r)(ha:PE X a ta)(hb:PE X b tb)(hm:behindInMarks op b=false):PE X (.Compare a [op] [b] pos) (Ru r ta tb):=by
 intro ai s σ H Q I h
 exact wpAny_Compare1 (NZ ha hb I h fun v u s2 x y H2 I2 rx ry q=>ho ai s2 σ H2 x y v u Q I2 rx ry q) hm
def RC(t:TE):TT:=fun σ H Q=>t σ H fun x H'=>∃k,x=.bl k/\Q k H'
theorem Kx{r:R2}(ho:l7 X (compareOp op) r)(ha:PE X a ta)(hb:PE X b tb)(hm:behindInMarks op b=false):PT X (.Compare a [op] [b] pos) (RC (Ru r ta tb)):=by
 intro ai s σ H Q I h
 refine n_ (jq (ha ai s σ H _ I h) fun v s1 kt1 ⟨x,H1,I1,r1,q1⟩=>jq (hb ai s1 σ H1 _ I1 q1) fun u s2 kt2 ⟨y,H2,I2,r2,q2⟩=>
  jq (ho ai s2 σ H2 x y v u _ I2 (r1.up kt2) r2 q2) fun c s3 kt3 ⟨z,H3,I3,r3,k,e,q3⟩=>?_) hm
 subst e
 cases r3
 exact d4 ⟨H3,I3,q3⟩
def F0(r r':R2)(ta tb tc:TE):TE:=fun σ H Q=>ta σ H fun x H1=>tb σ H1 fun y H2=>r x y H2 fun z H3=>∃k,z=.bl k /\
 (if k=true then tc σ H3 fun w' H4=>r' y w' H4 Q else Q (.bl false) H3)
theorem F1{QX:CmpOp}{r r':R2}(ho:l7 X (compareOp op) r)(t6:l7 X (compareOp QX) r')(ha:PE X a ta)(hb:PE X b tb)(hc:PE X c tc)
  (hm:lastMarks [op,QX] [b,c]=false:=by with_unfolding_all rfl):PE X (.Compare a [op,QX] [b,c] pos) (F0 r r' ta tb tc):=by
 intro ai s σ H Q I h
 refine Compare_chain (jq (ha ai s σ H _ I h) fun v s1 kt1 ⟨x,H1,I1,r1,q1⟩=>chain_link (jq (hb ai s1 σ H1 _ I1 q1) fun u s2 kt2 ⟨y,H2,I2,r2,q2⟩=>
  jq (ho ai s2 σ H2 x y v u _ I2 (r1.up kt2) r2 q2) fun d s3 kt3 ⟨z,H3,I3,r3,k,e,q3⟩=>?_)) hm
 subst e
 cases r3
 refine d4 ?_
 cases k with
 |false=>exact ite_ff ⟨.bl false,H3,I3,rfl,q3⟩
 |true=>exact ite_tt (chain_last (jq (hc ai s3 σ H3 _ I3 q3) fun w' s4 kt4 ⟨z',H4,I4,r4,q4⟩=>t6 ai s4 σ H4 y z' u w' Q I4 (r2.up (by omega)) r4 q4))
theorem sI:(sizeLine:Nat)<2^63:=by rw[lU];decide
theorem bM.addS{Q:VK}{i j:Str}{t:Tk s.toks i}{t':Tk s.toks j}(I:bM X ai σ H s)(q:Q (.str (i++j)) H)(hz:i.length+j.length<=sizeLine) :
  (if i.length==0 then Made.val (.str j t'.1)else if j.length==0 then Made.val (.str i t.1)else Made.str (i++j)).post (EP X ai σ Q) s:=by
 split
 ·rename_i h
  have e:i++j=j:=by
   have h0:i.cps=#[]:=gE (by simpa[Str.length]using h)
   show Str.append i j=j
   cases hj:j;simp[Str.append,h0]
  rw[e]at q
  exact⟨.str j,H,I,⟨t',rfl⟩,q⟩
 ·split
  ·rename_i h
   have e:i++j=i:=by
    have h0:j.cps=#[]:=gE (by simpa[Str.length]using h)
    show Str.append i j=i
    cases hj:i;simp[Str.append,h0]
   rw[e]at q
   exact⟨.str i,H,I,⟨t,rfl⟩,q⟩
  ·exact⟨by rw[strLen_append];exact hz,⟨.str (i++j),H,I.tok _,I.tkS,q⟩⟩
theorem BJ:l7 X (binaryOp .Add) (fun x y H Q=>∃i j,x=.str i/\y=.str j/\i.length+j.length<=sizeLine/\Q (.str (i++j)) H):=by
 intro ai s σ H x y v u Q I rx ry h
 obtain⟨i,j,rfl,rfl,hz,q⟩:=h
 obtain⟨t,rfl⟩:=rx
 obtain⟨t',rfl⟩:=ry
 exact PySem.P.add_str (I.addS q hz)
theorem ou{x:V}(r:cR nk [x] us):∃u,us=[u]/\cW nk x u:=by
 cases r with
 |cons r1 r2=>cases r2;exact⟨_,rfl,r1⟩
theorem RD{x y:V}(r:cR nk [x,y] us):∃u w',us=[u,w']/\cW nk x u/\cW nk y w':=by
 cases r with
 |cons r1 r2=>
  cases r2 with
  |cons r3 r4=>cases r4;exact⟨_,_,rfl,r1,r3⟩
theorem EE(hc:X.calm=true):ja X (.builtin "max") (fun xs H Q=>∃i j,xs=[.int i,.int j]/\Q (.int (if j>i then j else i)) H):=by
 intro ai s σ H xs us Q I r h
 obtain⟨i,j,rfl,q⟩:=h
 obtain⟨u,w',rfl,⟨t,rfl⟩,⟨t',rfl⟩⟩:=RD r
 refine up (max_two_ints (I.ok.hd hc) fun h' tk k hk=>⟨_,H,I.kept k,?_,q⟩)
 by_cases hj:j>i
 ·rw[aC hj,aC hj];exact⟨_,rfl⟩
 ·rw[aJ hj,aJ hj];exact⟨_,rfl⟩
end
end L2
namespace L2
open PySem PySem.Spec PyProof.Rows
structure Oa(h:Heap)(x dx C:Addr)(mA:Str->Option Value):Prop where
 obj:h.get? x=some (PySem.W.instObj C dx)
 ns:h.Ns1 dx mA
 ne:dx≠x
theorem EF{dx:Addr}(n:h.Ns1 dx mA):∃od,h.get? dx=some od/\∀name,PySem.W.lookIn name od=some (mA name):=by
 obtain⟨o,es,ep,ho,hd,hk,_,hm⟩:=n
 refine⟨o,ho,fun name=>?_⟩
 have e:=hm name
 unfold nsFind findBy at e
 rw[<- Array.find?_toList]at e
 unfold PySem.W.lookIn
 rw[hd]
 dsimp only
 split
 ·rename_i y q
  rw[q]at e
  exact iJ some e
 ·rename_i q
  rw[q]at e
  have a:es.toList.any (·.refKey)=false:=by
   rw[lV]
   intro y hy
   obtain⟨z,t,hkey⟩:=hk y (Array.mem_toList_iff.mp hy)
   simp[DictEntry.refKey,hkey]
  have a':¬ es.toList.any (·.refKey)=true:=by rw[a];exact eJ
  rw[aJ a']
  exact iJ some e
theorem Oa.look{x dx:Addr}(I:Oa h x dx C mA):∃od,PySem.W.InstAt h x (PySem.W.instObj C dx) C (some od)/\∀name,PySem.W.lookIn name od=some (mA name):=
 let ⟨od,ho,hl⟩:=EF I.ns
 ⟨od,⟨I.obj,rfl,rfl,ho⟩,hl⟩
section
variable{w:World}{x dx f:Addr}
end
section
variable{w:World}{dx:Addr}{fs Wx:List (Str×V)}
theorem Ky(hok:pI P w nk H h)(e:H a=some (.ins C dx fs)):∃mA,Oa h a dx C mA/\(∀f,t9 nk (fs.lookup f) (mA f))/\PySem.Within mA (fs.map (·.1))/\fs.length<=1000/\H dx=some (.own a):=by
 obtain⟨d,z,ne,ob,mA,n,r,q⟩:=(show eR P w _ H h a (.ins C dx fs)from hok a _ e)
 exact⟨mA,⟨ob,n,ne⟩,r,q,z,d⟩
end
structure Mj(K:Frag)(C:Addr):Prop where
 pg:PySem.W.plainGet K C Str.empty=true
 hd:PySem.W.hasDictIn K C=true
 po:PySem.W.plainOver K C=true
 sa:findIn K (.ref C) "__setattr__"=some (some (.builtin "object.__setattr__"))
theorem Mj.get(c:Mj K C)(f:Str):PySem.W.plainGet K C f=true:=c.pg
section
variable{dx:Addr}{fs:List (Str×V)}{f:Str}{v:V}
end
section
variable{value:Expr}{f:Str}{VG:Pos}{ta tv:TE}
end
section
variable{c:Value}{b:Bool}
inductive t_(K:Frag)(H:Hp):V->Value->Prop where
 |non:t_ K H .non (.type "NoneType")
 |bl (x:Bool):t_ K H (.bl x) (.type "bool")
 |int (i:Int):t_ K H (.int i) (.type "int")
 |str (x:Str):t_ K H (.str x) (.type "str")
 |flt (x:UInt64):t_ K H (.flt x) (.type "float")
 |lst {a:Addr} {xs:List V} (e:H a=some (.lst xs)):t_ K H (.ref a) (.type "list")
 |frz {a:Addr} {o:Obj} {xs:List V} (e:H a=some (.frz o (.lst xs))):t_ K H (.ref a) (.type "list")
 |tup {a:Addr} {xs:List V} (e:H a=some (.tup xs)):t_ K H (.ref a) (.type "tuple")
 |dK {a:Addr} {kvs:List (jT×V)} (e:H a=some (.dK kvs)):t_ K H (.ref a) (.type "dict")
 |dT {a:Addr} {kvs:List (List jT×V)} (e:H a=some (.dT kvs)):t_ K H (.ref a) (.type "dict")
 |ins {a C dx:Addr} {fs:List (Str×V)} (e:H a=some (.ins C dx fs)) (cl:Mj K C) (ha:findIn K (.ref C) "__class__"=some (some (.builtin "object.__class__")))
   (hn:PySem.W.specialIn K (.builtin "object.__class__") "__get__"=some (some (.builtin "getset_descriptor.__get__"))) (Q7:PySem.W.takesIn K (.builtin "object.__class__")=some true)
   (hm:PySem.W.mroIn K C (.type "object")=some true):t_ K H (.ref a) (.ref C)
theorem pJ{x:V}{t:Value}(I:bM X ai σ H s)(rx:cW s.toks x u)(ty:t_ X.K H x t)(e:kitOne X.K t c=some b)(h:∀tk,Q (.bool b) { s with toks:=tk }) :
  wpAny #[5] A (call (.builtin "isinstance") [u,c]) Q E s:=by
 cases ty with
 |non=>cases(show u=Value.none from rx);exact kia_one PySem.W.kitx_none I.kIn True.intro e (fun z=>nomatch z) h
 |bl y=>cases(show u=Value.bool y from rx);exact kia_one PySem.W.kitx_bool I.kIn True.intro e (fun z=>nomatch z) h
 |int i=>obtain⟨t,q⟩:=(show ∃t,u=Value.int i t from rx);cases q;exact kia_one PySem.W.kitx_int I.kIn True.intro e (fun z=>nomatch z) h
 |str y=>obtain⟨t,q⟩:=(show ∃t:Tk _ y,u=Value.str y t.1 from rx);cases q;exact kia_one PySem.W.kitx_str I.kIn True.intro e (fun z=>nomatch z) h
 |flt y=>obtain⟨t,q⟩:=(show ∃t,u=Value.float y t from rx);cases q;exact kia_one PySem.W.kitx_float I.kIn True.intro e (fun z=>nomatch z) h
 |@lst a xs ea=>
  cases(show u=Value.ref a from rx)
  obtain⟨_,_,n,_,h1⟩:=(show eR X.prog X.w _ H s.heap a (.lst xs)from I.hok a _ ea)
  exact kia_one PySem.W.kitx_list I.kIn ⟨_,h1,rfl⟩ e (fun z=>nomatch z) h
 |@frz a ob xs ea=>
  cases(show u=Value.ref a from rx)
  obtain⟨_,_,_,n,_,h1⟩:=(show eR X.prog X.w _ H s.heap a (.frz ob (.lst xs))from I.hok a _ ea)
  exact kia_one PySem.W.kitx_list I.kIn ⟨_,h1,rfl⟩ e (fun z=>nomatch z) h
 |@tup a xs ea=>
  cases(show u=Value.ref a from rx)
  obtain⟨_,_,_,p⟩:=(show eR X.prog X.w _ H s.heap a (.tup xs)from I.hok a _ ea)
  obtain⟨o,h1,h2,_⟩:=p
  exact kia_one PySem.W.kitx_tuple I.kIn ⟨o,h1,h2⟩ e (fun z=>nomatch z) h
 |@dK a kvs ea=>
  cases(show u=Value.ref a from rx)
  obtain⟨_,_,vs,_,p⟩:=(show eR X.prog X.w _ H s.heap a (.dK kvs)from I.hok a _ ea)
  obtain⟨o,es,ep,h1,h2,_⟩:=p
  exact kia_one PySem.W.kitx_dict I.kIn ⟨o,h1,h2.1⟩ e (fun z=>nomatch z) h
 |@dT a kvs ea=>
  cases(show u=Value.ref a from rx)
  obtain⟨_,_,xs,_,o,es,ep,h1,h2,_⟩:=(show eR X.prog X.w _ H s.heap a (.dT kvs)from I.hok a _ ea)
  exact kia_one PySem.W.kitx_dict I.kIn ⟨o,h1,h2.1⟩ e (fun z=>nomatch z) h
 |@ins a C dx fs ea cl ha hn Q7 hm=>
  cases(show u=Value.ref a from rx)
  obtain⟨mA,O,_⟩:=Ky I.hok ea
  obtain⟨od,J,_⟩:=O.look
  exact kia_one (PySem.W.kitx_own (cl.get _) cl.hd ha hn Q7 hm) I.kIn J e (fun z=>nomatch z) h
end
end L2
namespace L2
open PySem PySem.Spec PyProof.Rows
structure jr(k:Nat)(A:Around):Prop where
 hd:A.handled=none
 dp:A.depth+2*k+5<recursionLimit
 un:A.units+16*k+200<cLine
theorem jr.mono{k:Nat}(r:jr k A)(h:j<=k):jr j A:=⟨r.hd,by have:=r.dp;omega,by have:=r.un;omega⟩
theorem jr.deeper{k:Nat}(r:jr (k+1) A)(env:Env):jr k (A.deeper env):=
 ⟨r.hd,by have:=r.dp;show A.depth+1+2*k+5<_;omega,by have:=r.un;show A.units+3+16*k+200<_;omega⟩
theorem jr.depth{k:Nat}(r:jr k A):A.depth<recursionLimit:=by have:=r.dp;omega
theorem jr.units{k:Nat}(r:jr k A):A.units+64<cLine:=by have:=r.un;omega
def US:TA:=fun _ H Q=>Q [] H
def RE(ta:TE)(tr:TA):TA:=fun σ H Q=>ta σ H fun x H1=>tr σ H1 fun xs H2=>Q (x::xs) H2
section
variable{t:TA}
theorem oy:PA X [] US:=fun _ _ _ _ H Q I h=>fX ⟨[],H,I,.nil,h⟩
theorem iM(ha:PE X e te)(hr:PA X es t)(hs:starEach (e::es) X.env=(false,eval e X.env)::starEach es X.env:=by rfl):PA X (e::es) (RE te t):=by
 intro pos ai s σ H Q I h
 rw[hs]
 show wpAny _ _ (spliced ((false,eval e X.env)::backTo pos (starEach es X.env))) _ _ s
 refine dJ (jq (ha ai s σ H _ I h) fun u s1 kt1 zq=>?_)
 obtain⟨x,H1,I1,r1,q1⟩:=zq
 exact jq (hr pos ai s1 σ H1 _ I1 q1) fun us s2 kt2 ⟨xs,H2,I2,r2,q2⟩=>⟨x::xs,H2,I2,.cons (r1.up kt2) r2,q2⟩
end
abbrev Sp:=List V->Hp->VK->XK->Prop
abbrev Fx:=List Env->Hp->Shared->XK->Value->Shared->Prop
structure Kz(P:Program)(w:World)(K:Frag)(mg:Str->Option Value)(base:Heap)(A:Around)(outer:List Env)(s:Shared)(H:Hp):Prop where
 frames:A.frames=some outer
 mod:Mod K mg base
 bs:∀b o,base.get? b=some o->s.heap.get? b=some o/\H b=none
 bsz:base.objs.size<=s.heap.objs.size
 funs:s.heap.FunFrames base outer
 frf:∀b∈rk outer,H b=none
 hok:pI P w s.toks H s.heap
 bare:AllBare s.gens
def CE(outer:List Env)(P:Program)(w:World)(H:Hp)(s:Shared)(Q:VK)(u:Value)(s':Shared):Prop:=
 ∃v H',s'.os=s.os/\AllBare s'.gens/\Un (rk outer) [] H H' s.heap s'.heap/\pI P w s'.toks H' s'.heap/\cW s'.toks v u/\Q v H'
def CR(CX:Fx)(outer:List Env)(P:Program)(w:World)(H:Hp)(s:Shared)(Q:VK)(E:XK)(r:Result)(s':Shared):Prop:=
 match r with
 |.ok (.ret u)=>CE outer P w H s Q u s'
 |.ok _=>False
 |.error e=>CX outer H s E e s'
structure eY(P:Program)(w:World)(K:Frag)(mg:Str->Option Value)(base:Heap)(CX:Fx)(k:Nat)(f:Addr)(fd:FuncData)(ps:List Str)(sp:Sp):Prop where
 len:∀vs H Q E,sp vs H Q E->vs.length=ps.length
 run:∀(A:Around) (outer:List Env) (s:Shared) (H:Hp) (args:Args) (us:List Value) (vs:List V) (Q:VK) (E:XK),jr k A->Kz P w K mg base A outer s H->(0<s.toks\/∃n,ps=[n]/\fd.scope.names.lookup n=some .local)->BindsTo s fd args (ps.zip us)->cR s.toks vs us->sp vs H Q E ->
  codeAny (model P w) A (.call (.ref f) args) (CR CX outer P w H s Q E) s
theorem eY.mono{w:World}{CX:Fx}{k:Nat}{f:Addr}{sp:Sp}(F:eY P w K mg base CX j f fd ps sp)(h:j<=k) :
  eY P w K mg base CX k f fd ps sp:=⟨F.len,fun A outer s H args us vs Q E hr=>F.run A outer s H args us vs Q E (hr.mono h)⟩
theorem eY.imp{w:World}{CX:Fx}{k:Nat}{f:Addr}{sp Wd:Sp}(F:eY P w K mg base CX k f fd ps sp)
  (h:∀vs H Q E,Wd vs H Q E->sp vs H Q E):eY P w K mg base CX k f fd ps Wd:=
 ⟨fun vs H Q E q=>F.len vs H Q E (h _ _ _ _ q),fun A outer s H args us vs Q E hr he hp hb hv hs=>F.run A outer s H args us vs Q E hr he hp hb hv (h _ _ _ _ hs)⟩
section
variable{s':Shared}
theorem bM.env0(I:bM X ai σ H s):Kz X.prog X.w X.K X.mg X.base X.A X.stack s H:=
 ⟨I.ok.frames,I.ok.mod,I.bs,aH I.ok.bsz I.sz,I.stack,I.stkFree,I.hok,I.bare⟩
theorem bM.after{Q:VK}(I:bM X ai σ H s)(h:CE X.stack X.prog X.w H s Q u s')(hk:s.toks<=s'.toks):EP X ai σ Q u s':=by
 obtain⟨v,H',os,bare,un,hok,r,q⟩:=h
 obtain⟨hh,g,d,t,os'⟩:=s'
 obtain rfl:os'=s.os:=os
 exact⟨v,H',I.call (h':=hh) (g':=g) (d':=d) (t':=t) (ch:=[]) un hok bare (fun b z=>absurd z #[18]) hk,r,q⟩
end
def zh(K:Frag)(fd:FuncData)(ps:List Str)(ds:List Value):Prop:=
 ∀(s:Shared) (us:List Value),K.In s.heap->(us++ds).length=ps.length->BindsTo s fd ⟨us,[]⟩ (ps.zip (us++ds))
theorem zh.all(h:∀us:List Value,us.length=ps.length->bindArgs fd ⟨us,[]⟩=pure (ps.zip us)):zh K fd ps []:=fun s us _ hl=>by
 rw[cC]at hl ⊢
 exact .of_eq (h us hl)
section
variable{CX:Fx}{k:Nat}{f:Addr}{sp:Sp}{WI:List V}{ds:List Value}{E:XK}{m:Str}{ta:TE}{t:TA}
end
section
variable{CX:Fx}{k:Nat}{f:Addr}{sp:Sp}{E:XK}{m:Str}{Wz:Pos}{WE:List Keyword}{ta:TE}{t tk:TA}{nm:Option Str}
variable{g:List Value->List Value->List Value}{gV:List V->List V->List V}
end
structure bJ(N P:List Str)(sc:Scope):Prop where
 kind:sc.kind=.function
 co:sc.isCoroutine=false
 gen:sc.isGenerator=false
 nd:N.Nodup
 pre:N.take P.length=P
 par:∀x∈P,sc.names.lookup x=some .local\/sc.names.lookup x=some .cell
 nofree:∀y∈sc.names,y.2≠.free
theorem wz:∀{binds:List (Str×Value)} {m:Str->Option Value},(∀v,(x,v)∉binds)->bindL kindOf binds m x=m x
 |[],_,_=>rfl
 |(n,v)::r,m,h=>by
  unfold bindL
  rw[wz fun w hw=>h w (bi _ hw)]
  split
  ·have:x≠n:=by rintro rfl;exact h v bY
   simp[this]
  ·rfl
theorem wA:∀{binds:List (Str×Value)} {m:Str->Option Value},(∀v,(x,v)∉binds)->bindC kindOf binds m x=m x
 |[],_,_=>rfl
 |(n,v)::r,m,h=>by
  unfold bindC
  rw[wA fun w hw=>h w (bi _ hw)]
  split
  ·rfl
  ·have:x≠n:=by rintro rfl;exact h v bY
   simp[this]
theorem wB:∀{P:List Str} {vs:List Value} {i:Nat} {m:Str->Option Value},P.Nodup->P[i]?=some x->vs[i]?=some v->kindOf x=some .local ->
  bindL kindOf (P.zip vs) m x=some v
 |[],_,_,_,_,h,_,_=>by simp at h
 |_::_,[],_,_,_,_,h,_=>by simp at h
 |p::P,w::vs,0,m,nd,h1,h2,hk=>by
  simp at h1 h2;subst h1;subst h2
  show bindL kindOf ((p,w)::P.zip vs) m p=_
  unfold bindL
  rw[wz fun v hv=>(iR.mp nd).1 (nQ hv).1,aC hk]
  simp
 |p::P,w::vs,i+1,m,nd,h1,h2,hk=>by
  show bindL kindOf ((p,w)::P.zip vs) m x=_
  unfold bindL
  exact wB (i:=i) (iR.mp nd).2 (by simpa using h1) (by simpa using h2) hk
theorem wC:∀{P:List Str} {vs:List Value} {i:Nat} {m:Str->Option Value},P.Nodup->P[i]?=some x->vs[i]?=some v->kindOf x≠some .local ->
  bindC kindOf (P.zip vs) m x=some v
 |[],_,_,_,_,h,_,_=>by simp at h
 |_::_,[],_,_,_,_,h,_=>by simp at h
 |p::P,w::vs,0,m,nd,h1,h2,hk=>by
  simp at h1 h2;subst h1;subst h2
  show bindC kindOf ((p,w)::P.zip vs) m p=_
  unfold bindC
  rw[wA fun v hv=>(iR.mp nd).1 (nQ hv).1,aJ hk]
  simp
 |p::P,w::vs,i+1,m,nd,h1,h2,hk=>by
  show bindC kindOf ((p,w)::P.zip vs) m x=_
  unfold bindC
  exact wC (i:=i) (iR.mp nd).2 (by simpa using h1) (by simpa using h2) hk
def tH(N:List Str)(vs:List V):St:=vs.map some++List.replicate (N.length-vs.length) none
def BK(CX:Fx)(P:Program)(w:World)(K:Frag)(mg:Str->Option Value)(base:Heap)(N:List Str)(fL:Str)(scope:Scope)(f:Addr)(cd:Value)(A:Around)(outer:List Env)(s:Shared)(H:Hp)(E:XK):Cx where
 prog:=P
 w:=w
 K:=K
 mg:=mg
 base:=base
 A:=A.deeper (envOfC fL scope s.heap.objs.size f cd)
 N:=N
 s₀:=s
 H₀:=H
 env:=envOfC fL scope s.heap.objs.size f cd
 outer:=outer
 stack:=envOfC fL scope s.heap.objs.size f cd::outer
 ex:=[]
 calm:=true
 fn:=fun _=>true
 pn:=[]
 xe:=fun e s'=>wpAny (model P w) (A.deeper (envOfC fL scope s.heap.objs.size f cd)) (leaving (envOfC fL scope s.heap.objs.size f cd) e) (fun _ s''=>CX outer H s E e s'') (fun e' s''=>CX outer H s E e' s'') s'
theorem my{sc:Scope}{n:Nat}(h:sc.names.lookup x=some .cell):∃c,(cellsFrom n sc.names []).lookup x=some c:=by
 have q:=PySem.W.cellsFrom_some sc.names n [] (.inl h)
 exact Option.isSome_iff_exists.mp q
theorem BL{globals:Addr}{n:Str}{func:Option Addr}{code:Value}{builtins:Addr}{Q:Env->Shared->Prop}
  (hk:scope.kind=.function) (hl:scope.names.lookup n=some .local)
  (hQ:∀env,env=newEnv scope s.heap.objs.size globals (cellsFrom #[17] scope.names []) fL func code none builtins ->
   ∀s',s.toks<s'.toks->InCallC s env.locals (bindL env.kindOf [(n,v)] fun _=>none) env.cells (bindC env.kindOf [(n,v)] fun _=>none) s'->Q env s') :
  wpAny M A (newFunctionEnv scope globals [] [(n,v)] fL func code none builtins) Q E s:=by
 simp only[newFunctionEnv,Option.isSome_none,gP,iK]
 refine ag (wpAny_alloc ?_)
 refine ag (wpAny_layCells _ (fun name kind cells=>by cases hkc:kind==NameKind.cell<;>simp[hkc]) _ _ _ _ ?_)
 have ok:=cellsFrom_ok scope.names (s.heap.push { cls:=.type "frame",data:=.dict #[] }) #[17] [] ⟨fun _ _ hm=>(nomatch hm),List.Pairwise.nil⟩ (by rw[cm];exact ay _)
 rw[cm]at ok
 rw[show({ s with heap:=s.heap.push { cls:=.type "frame",data:=.dict #[] } }:Shared).heap.objs.size=s.heap.objs.size+1 from cm ..]
 have x:InCallC s s.heap.objs.size (fun _=>none) (cellsFrom #[17] scope.names []) (fun _=>none) { s with heap:=pushCells (s.heap.push { cls:=.type "frame",data:=.dict #[] }) scope.names }:=
  ⟨⟨⟨_,_,rfl⟩,(Heap.Ns.new s.heap (.type "frame")).keeps (kc _ _),fun b o e=>kc _ _ b o (av _ e),ay _⟩,
   fun n c hc=>(ok.empty n c (PySem.mem_of_lookup hc)).1,ok.apart,fun n c hm=>(ok.empty n c hm).2⟩
 refine ag ?_
 rw[List.forIn_cons]
 refine ag (ag (n9 (env:=newEnv scope s.heap.objs.size globals (cellsFrom #[17] scope.names []) fL func code none builtins) hl x.toInCall.ns (fun h' Uc hs'=>aA ?_) (by show(scope.kind==_||(scope.kind==_&&_))=false;rw[hk];rfl)))
 show wpAny M A (forIn [] _ _) _ _ _
 rw[List.forIn_nil]
 refine aA (aA (hQ _ rfl _ (cM _) ?_))
 have e1:bindL (newEnv scope s.heap.objs.size globals (cellsFrom #[17] scope.names []) fL func code none builtins).kindOf [(n,v)] (fun _=>none)=fun y=>if y=n then some v else none:=by
  show(if _=some NameKind.local then _ else _)=_;exact aC hl
 have e2:bindC (newEnv scope s.heap.objs.size globals (cellsFrom #[17] scope.names []) fL func code none builtins).kindOf [(n,v)] (fun _=>none)=fun _=>none:=by
  show(if _=some NameKind.local then _ else _)=_;exact aC hl
 rw[e1,e2]
 refine⟨⟨?_,Uc,fun b o e=>?_,x.toInCall.fresh⟩,fun k c hc=>?_,x.apart,x.above⟩
 ·exact⟨h',_,rfl⟩
 ·exact hs'.extBut b o (aY (aS (aP e) x.toInCall.fresh)) (x.toInCall.keep b o e)
 ·exact(x.cell k c hc).sameBut hs' (eP (x.above k c (PySem.mem_of_lookup hc)))
theorem EG{CX:Fx}{w:World}{N:List Str}{f:Addr}{cd:Value}{outer:List Env}{s1:Shared}{E:XK}
  (S:bJ N ps scope) (hd:A.handled=none) (e0:Kz P w K mg base A outer s H) (hl:vs.length=ps.length) (r:cR s.toks vs us) (js:s.toks<=s1.toks) (VD:0<s1.toks)
  (x:InCallC s s.heap.objs.size (bindL (envOfC fL scope s.heap.objs.size f cd).kindOf (ps.zip us) fun _=>none) (cellsFrom #[17] scope.names []) (bindC (envOfC fL scope s.heap.objs.size f cd).kindOf (ps.zip us) fun _=>none) s1) :
  bM (BK CX P w K mg base N fL scope f cd A outer s H E) [] (tH N vs) H s1:=by
 have j':ps.length<=N.length:=by have:=iJ List.length S.pre;rw[bE]at this;omega
 obtain⟨h1,tk,rfl,hk⟩:=x.done
 have noA:∀b:Addr,b∉(BK CX P w K mg base N fL scope f cd A outer s H E).ex:=fun b z=>absurd (show b∈([]:List Addr)from z) #[18]
 refine⟨⟨e0.mod,S.kind,rfl,rfl,ay _,fun y z c h1 h2=>?_,fun y hy=>?_,fun y c _ h=>?_,fun _=>hd,Around.frames_deeper e0.frames,.inr ⟨rfl,rfl⟩,fun b z=>absurd z (noA b),e0.bs,e0.bsz,fun b _ _=>noA b,fun b z=>absurd z (noA b),e0.funs,e0.frf⟩,
  rfl,e0.bare,Un.kept hk,⟨_,x.toInCall.ns,fun i y v h1 h2 h3=>?_⟩,fun y c h=>⟨_,x.cell y c h⟩,e0.hok.fresh (ay _),fun y c h=>?_,fun p hp=>absurd (show p∈([]:List (Addr×Obj))from hp) #[18],(e0.hok.kept hk).up js,?_,VD,js⟩
 ·exact name_of_addr x.apart (PySem.mem_of_lookup h1) (PySem.mem_of_lookup h2)
 ·have hy:scope.names.lookup y=some .cell\/scope.names.lookup y=some .free:=hy
  rcases hy with hy|hy
  ·exact my hy
  ·exact absurd rfl (S.nofree _ (PySem.mem_of_lookup hy))
 ·exact fW (x.above y c (PySem.mem_of_lookup h))
 ·have hi:i<vs.length:=by
   unfold tH at h2
   by_cases hi:i<vs.length
   ·exact hi
   ·rw[dg (by simpa using hi)]at h2
    rw[i9]at h2
    split at h2<;>cases h2
  have ha:vs[i]?=some v:=by
   unfold tH at h2
   rw[bj (by simpa using hi),aG]at h2
   cases e:vs[i]? with
   |none=>rw[e]at h2;cases h2
   |some a=>rw[e]at h2;cases h2;rfl
  obtain⟨u,hu,rv⟩:=r.get ha
  have hp:ps[i]?=some y:=by
   rw[<- S.pre,c8 #[0]];exact h1
  have ndP:ps.Nodup:=by rw[<- S.pre];exact S.nd.sublist (List.take_sublist _ _)
  refine⟨u,rv.up js,?_⟩
  rcases S.par y (bC hp)with k|k
  ·exact .inl ⟨k,wB ndP hp hu k⟩
  ·obtain⟨c,e⟩:=my (n:=s.heap.objs.size+1) k
   refine .inr ⟨.inl k,c,e,?_⟩
   have q:=x.cell y c e
   rw[wC ndP hp hu (by show scope.names.lookup y≠_;rw[k];decide)]at q
   exact q
 ·exact e0.hok.fresh (fW (x.above y c (PySem.mem_of_lookup h)))
 ·unfold tH
  show _=N.length
  rw[aE,az,og]
  omega
theorem RF{CX:Fx}{w:World}{k:Nat}{f:Addr}{params:Arguments}{body:List Stmt}{dV kV uL pm gJ ct oc:Value}{an od:Option Addr}
  {ND:Array (Option Value)} {N ps:List Str} {sp:Sp} (lk:K.lookup f=some ⟨oc,od,.func (fnOf name fL params body scope dV kV uL pm an gJ ct),ND⟩) (um:codeIn K gJ fL=true) (S:bJ N ps scope)
  (len:∀vs H Q E,sp vs H Q E->vs.length=ps.length)
  (AU:∀(A:Around) (outer:List Env) (s:Shared) (H:Hp) (vs:List V) (Q:VK) (E:XK),jr k (A.deeper (envOfC fL scope s.heap.objs.size f gJ))->sp vs H Q E ->
   ∃t,Ey (BK CX P w K mg base N fL scope f gJ A outer s H E) body t/\t { nx:=fun _ H'=>Q .non H',rt:=Q } (tH N vs) H) :
  eY P w K mg base CX (k+1) f (fnOf name fL params body scope dV kV uL pm an gJ ct) ps sp:=by
 refine⟨len,fun A outer s H args us vs Q E hr e0 hp hb r Nx=>?_⟩
 have hl:=len _ _ _ _ Nx
 have KX:K.In s.heap:=e0.mod.kin.keeps fun b o e=>(e0.bs b o e).1
 have lim:s.heap.NoLimit:=e0.mod.nolimit.keeps fun b o e=>(e0.bs b o e).1
 have jx:∀y∈ps.zip us,scope.names.lookup y.1=some .local\/(scope.names.lookup y.1=some .cell/\((cellsFrom #[17] scope.names []).lookup y.1).isSome=true):=fun zq hy=>by
  obtain⟨n,v⟩:=zq
  rcases S.par n (nQ hy).1 with q|q
  ·exact .inl q
  ·exact .inr ⟨q,PySem.W.cellsFrom_some _ _ _ (.inl q)⟩
 refine codeAny_call_function hr.depth (KX _ _ lk) rfl S.co S.gen rfl (PySem.W.codeRec_of KX um) (hb _ _ _ _ ?_)
 suffices hh:∀env,env=newEnv scope s.heap.objs.size mainGlobals (cellsFrom #[17] scope.names []) (fL++".<locals>.") (some f) gJ none builtinsNs->∀s1,s.toks<=s1.toks->0<s1.toks->InCallC s env.locals (bindL env.kindOf (ps.zip us) fun _=>none) env.cells (bindC env.kindOf (ps.zip us) fun _=>none) s1->s1.heap.NoLimit/\codeAny (model P w) A (Code.func body env) (CR CX outer P w H s Q E) s1 by
  rcases hp with hp|⟨n,e1,hn⟩
  ·exact up (wpAny_newFunctionEnv_cells S.kind jx fun env he s1 x js=>hh env he s1 js (aS hp js) x)
  ·subst e1
   have vZ:us.length=1:=r.length.symm.trans hl
   obtain⟨u,rfl⟩:∃u,us=[u]:=fB.mp vZ
   exact BL S.kind hn fun env he s1 hlt x=>hh env he s1 (fW hlt) (eK (bU _) hlt) x
 intro env he s1 js VD x
 subst he
 refine⟨lim.keeps x.toInCall.keep,codeAny_func ?_⟩
 obtain⟨t,ht,hq⟩:=AU A outer s H vs Q E (hr.deeper _) Nx
 have I:bM (BK CX P w K mg base N fL scope f gJ A outer s H E) [] (tH N vs) H s1:=EG S hr.hd e0 hl r js VD x
 refine iZ (ht [] s1 (tH N vs) H _ I hq) (fun fl s' hs=>?_) fun e s' hs=>hs
 have ie:∀{σ':St} {H':Hp} {v:V} {u:Value},bM (BK CX P w K mg base N fL scope f gJ A outer s H E) [] σ' H' s'->cW _ v u->Q v H'->CE outer P w H s Q u s':=
  fun{σ' H' v u} J rv q=>⟨v,H',J.os,J.bare,J.base,J.hok,rv,q⟩
 cases fl with
 |ret u=>
  obtain⟨v,σ',H',J,rv,q⟩:=hs
  exact ie J rv q
 |next=>
  obtain⟨σ',H',J,q⟩:=hs
  exact ie (v:=V.non) (u:=Value.none) J rfl q
 |brk=>
  obtain⟨_,_,_,q⟩:=hs
  exact False.elim q
 |cont=>
  obtain⟨_,_,_,q⟩:=hs
  exact False.elim q
end L2
namespace L2
open PySem PySem.Spec PyProof.Rows
section
variable{t:TA}{id:String}{r:List V->Hp->VK->Prop}
def UT(r:List V->Hp->VK->Prop)(t:TA):TE:=fun σ H Q=>t σ H fun vs H1=>r vs H1 Q
theorem oz(hc:ja X (.builtin id) r)(hg:Gl X x)(hm:X.mg x=none)(hv:bootBuiltins x=some (.builtin id))(ha:PA X (e::es) t)(hn:x ≠ "__name__":=by decide)(Mb:(x==("__debug__":Str))=false:=by decide)
  (he:starEach (e::es) X.env=(false,eval e X.env)::starEach es X.env:=by rfl) (j':(backTo pos (starEach es X.env)).any (·.1)=false:=by rfl):PE X (.Call (.Name x p) (e::es) [] pos) (UT r t):=by
 intro ai s σ H Q I h
 refine gQ (oq I hg hm hv ?_ hn Mb)
 exact jF (jq (ha pos ai s σ H _ I h) fun us s1 kt1 ⟨vs,H1,I1,r1,q1⟩=>hc ai s1 σ H1 vs us Q I1 r1 q1) he j'
theorem sJ(hc:ja X (.type T) r)(hg:Gl X x)(hm:X.mg x=none)(hv:bootBuiltins x=some (.type T))(ha:PA X (e::es) t)(hn:x ≠ "__name__":=by decide)(Mb:(x==("__debug__":Str))=false:=by decide)
  (he:starEach (e::es) X.env=(false,eval e X.env)::starEach es X.env:=by rfl) (j':(backTo pos (starEach es X.env)).any (·.1)=false:=by rfl):PE X (.Call (.Name x p) (e::es) [] pos) (UT r t):=by
 intro ai s σ H Q I h
 refine gQ (oq I hg hm hv ?_ hn Mb)
 exact dS (jq (ha pos ai s σ H _ I h) fun us s1 kt1 ⟨vs,H1,I1,r1,q1⟩=>hc ai s1 σ H1 vs us Q I1 r1 q1) he j'
end
end L2
namespace HT
open PySem PyProof.Rows
section
open PySem.SeqAt
open PySem.AutoSeq1 (wpAny_loadPart')
open PySem.MeetsSeq PySem.MeetsSeq2 PySem.MeetsSeq3
end
section
variable{w:World}
theorem cat_tup{t:Addr}{vs ws:List Value}(ht:IsTup s.heap t vs.toArray)(hb:IsTup s.heap b ws.toArray)(hv:vs≠[])
  (h1:ws=[]->Q (.ref t) s) (h2:ws≠[]->Q (.ref s.heap.objs.size) { s with heap:=s.heap.push { cls:=.type "tuple",data:=.seq (vs++ws).toArray } })
  (hsz:vs.length+ws.length<=sizeLine):wpAny #[9] A (binaryOp .Add (.ref t) (.ref b)) Q E s:=by
 obtain⟨⟨cls,dd,data,sl⟩,ho,hc,n,hd⟩:=id ht
 obtain⟨⟨cls2,dd2,data2,sl2⟩,ho2,hc2,n2,hd2⟩:=id hb
 simp only at hc hd hc2 hd2
 subst hc hd hc2 hd2
 have e:vs.toArray++ws.toArray=(vs++ws).toArray:=by simp
 by_cases hw:ws=[]
 ·exact su ⟨_,ho,rfl⟩ ⟨_,ho2,rfl⟩ mK qy PySem.F.slot_tuple_add PySem.F.entry_tuple_add (PySem.F.args_tuple_add_2 _ _)
   (tuple_addW1 t b vs.toArray ws.toArray n n2 dd dd2 sl sl2 (by simpa using hv) (by simp[hw])) ⟨ho,ho2,h1 hw⟩
 ·refine su ⟨_,ho,rfl⟩ ⟨_,ho2,rfl⟩ mK qy PySem.F.slot_tuple_add PySem.F.entry_tuple_add (PySem.F.args_tuple_add_2 _ _)
   (tuple_addW2 t b vs.toArray ws.toArray n n2 dd dd2 sl sl2 (by simpa using hv) (by simpa using hw) (by rw[aZ,aZ];exact hsz)) ⟨ho,ho2,?_⟩
  rw[e]
  exact h2 hw
def sIx(n d:Nat):Option Int->Nat
 |none=>d
 |some v=>if v<0 then(v+(n:Int)).toNat else min v.toNat n
theorem sIx_none(n d:Nat):sIx n d none=d:=rfl
theorem sIx_nat(n d k:Nat):sIx n d (some (k:Int))=min k n:=by
 show(if (k:Int)<0 then((k:Int)+(n:Int)).toNat else min (k:Int).toNat n)=min k n
 rw[aJ #[0],bu]
theorem sIx_le(n d:Nat)(hd:d<=n)(o:Option Int):sIx n d o<=n:=by
 cases o with
 |none=>exact hd
 |some v=>
  show(if v<0 then(v+(n:Int)).toNat else min v.toNat n)<=n
  by_cases hv:v<0
  ·rw[aC hv];omega
  ·rw[aJ hv];exact Nat.min_le_right _ _
theorem De(v:Int)(n d:Nat):(if v<0 then max (v+(n:Int)) 0 else min v (n:Int))=((sIx n d (some v):Nat):Int):=by
 show(if v<0 then max (v+(n:Int)) 0 else min v (n:Int))=(((if v<0 then(v+(n:Int)).toNat else min v.toNat n):Nat):Int)
 by_cases hv:v<0
 ·simp only[aC hv];omega
 ·simp only[aJ hv];omega
theorem BM(lo hi:Option Int)(n:Nat):Builtin.Slice.sliceAdjust lo hi 1 (n:Int)=(((sIx n 0 lo:Nat):Int),((sIx n n hi:Nat):Int)):=by
 have h1:¬ ((1:Int)<0):=by omega
 unfold Builtin.Slice.sliceAdjust
 simp only[h1,iK]
 refine Prod.ext ?_ ?_
 ·cases lo with
  |none=>rfl
  |some v=>exact De v n 0
 ·cases hi with
  |none=>rfl
  |some v=>exact De v n n
theorem BN(i j:Nat):Builtin.Slice.slicePlaces (i:Int) (j:Int) 1=j-i:=by
 unfold Builtin.Slice.slicePlaces
 have h1:(1:Int)>0:=by omega
 simp only[h1,jP,Int.ediv_one]
 split<;>omega
theorem uP{o:Option Int}{Q:Option Int->Shared->Prop}(p:IsPart v o)(h:Q o s):wpAny #[9] A (Builtin.Slice.slicePartIndex v) Q E s:=by
 cases p with
 |none=>exact slicePart_none h
 |int i t=>exact slicePart_int h
theorem sliceApplied_gen{sl:Addr}{vl vu:Value}{lo hi:Option Int}{Q:Int×Int×Nat->Shared->Prop}(hs:s.heap.IsSliceOf sl vl vu .none)(pl:IsPart vl lo)(pu:IsPart vu hi)
  (h:Q (((sIx n 0 lo:Nat):Int),1,sIx n n hi-sIx n 0 lo) s):wpAny #[9] A (Builtin.Slice.sliceApplied (.ref sl) (pure (n:Int))) Q E s:=by
 obtain⟨os,hos,hcs,hds⟩:=id hs
 unfold Builtin.Slice.sliceApplied Builtin.Slice.sliceFields
 refine ag (ag (gK hos hds (x:=vl) rfl (ag (gK hos hds (x:=vu) rfl (ag (gK hos hds (x:=.none) rfl (aA ?_)))))))
 refine ag (slicePart_none ?_)
 show wpAny _ _ (if ((1:Int)==0)=true then _ else _) _ _ s
 rw[aJ #[1]]
 refine ag (uP pl (ag (uP pu (ag (aA ?_)))))
 show wpAny _ _ (match Builtin.Slice.sliceAdjust lo hi 1 (n:Int)with|(lo,hi)=>pure (lo,(1:Int),Builtin.Slice.slicePlaces lo hi 1)) _ _ s
 rw[BM lo hi n]
 show wpAny _ _ (pure (((sIx n 0 lo:Nat):Int),(1:Int),Builtin.Slice.slicePlaces ((sIx n 0 lo:Nat):Int) ((sIx n n hi:Nat):Int) 1)) _ _ s
 rw[BN]
 exact aA h
theorem F2(xs:Array Value)(i k:Nat):((List.range k).filterMap fun(m:Nat)=>xs[((i:Int)+(m:Int)*1).toNat]?).toArray=((xs.toList.drop i).take k).toArray:=by
 have e:(fun(m:Nat)=>xs[((i:Int)+(m:Int)*1).toNat]?)=fun m=>xs[i+m]?:=by
  funext m
  have:((i:Int)+(m:Int)*1).toNat=i+m:=by omega
  rw[this]
 rw[e]
 have:=pick_run xs i k
 rw[List.filterMap_map]at this
 have e2:((fun x=>xs[x]?)∘fun x=>i+x)=fun m=>xs[i+m]?:=rfl
 rw[e2]at this
 rw[this]
theorem getItem_tuple_cut{t sl:Addr}{items:Array Value}{vl vu:Value}{lo hi:Option Int}(ht:IsTup s.heap t items)(hs:s.heap.IsSliceOf sl vl vu .none)(pl:IsPart vl lo)(pu:IsPart vu hi)
  (hw:¬ (sIx items.size 0 lo=0/\sIx items.size items.size hi=items.size))
  (h:Q (.ref s.heap.objs.size) { s with heap:=s.heap.push { cls:=.type "tuple",data:=.seq ((items.toList.drop (sIx items.size 0 lo)).take (sIx items.size items.size hi-sIx items.size 0 lo)).toArray } })
  (hsz:items.size<=sizeLine):wpAny #[9] A (getItem (.ref t) (.ref sl)) Q E s:=by
 have htake:sizeOk (.seq ((items.toList.drop (sIx items.size 0 lo)).take (sIx items.size items.size hi-sIx items.size 0 lo)).toArray):=by
  show((items.toList.drop (sIx items.size 0 lo)).take (sIx items.size items.size hi-sIx items.size 0 lo)).toArray.size<=sizeLine
  rw[aZ,bE,im,d8]
  omega
 have hj:sIx items.size items.size hi<=items.size:=sIx_le _ _ (ay _) hi
 obtain⟨os,hos,hcs,hds⟩:=id hs
 have hTs:s.TypeIs (.ref sl) "slice":=⟨os,hos,hcs⟩
 unfold getItem
 try with_reducible refine dm ?_
 first|refine ag (aA ?_)|skip
 refine ag (wpAny_sequenceKey ht.typeIs #[1] ?_)
 refine ag (cJ (name:=Str.ofString "__getitem__") ht.typeIs eD
  (cN eD ht.typeIs entry_tuple_getitem ?_ (args_tuple_getitem _ _)))
 show wpAny _ _ (Builtin.Tuple.tupleItemsOf (.ref t) >>= _) _ _ s
 refine ag (tupleItemsOf_ ht ?_)
 refine ag (gR hTs ?_)
 rw[aC #[1]]
 refine ag (sliceApplied_gen hs pl pu ?_)
 have hno:¬ ((((sIx items.size 0 lo:Nat):Int)==0&&(1:Int)==1&&(sIx items.size items.size hi-sIx items.size 0 lo)==items.size)=true):=by
  intro q
  rw[cO,cO]at q
  have q1:((sIx items.size 0 lo:Nat):Int)=0:=mL q.1.1
  have q2:sIx items.size items.size hi-sIx items.size 0 lo=items.size:=mL q.2
  exact hw ⟨by omega,by omega⟩
 show wpAny _ _ (if (((sIx items.size 0 lo:Nat):Int)==0&&(1:Int)==1&&(sIx items.size items.size hi-sIx items.size 0 lo)==items.size)=true then _ else _) _ _ s
 rw[aJ hno,F2]
 first
  |exact ag (m:=Builtin.Tuple.tupleExact _) (cD (aA ⟨_,rfl,aA h⟩) htake)
  |exact ag (m:=Builtin.Tuple.tupleExact _) (cD (ag (aA (aA ⟨_,rfl,aA h⟩))) htake)
  |exact ag (ag (m:=Builtin.Tuple.tupleExact _) (cD (aA (aA ⟨_,rfl,aA h⟩)) htake))
  |exact ag (ag (m:=Builtin.Tuple.tupleExact _) (cD (aA ⟨_,rfl,aA h⟩) htake))
end
end HT
namespace L2
open PySem PySem.Spec PyProof.Rows
abbrev TO:=St->Hp->(Option Int->Hp->Prop)->Prop
def PO(X:Cx)(e:Option Expr)(t:TO):Prop:=
 ∀(ai:List (Addr×Obj)) (s:Shared) (σ:St) (H:Hp) (Q:Option Int->Hp->Prop),bM X ai σ H s->t σ H Q ->
  wpAny #[5] X.A (evalPart e X.env) (fun u s'=>∃o H',bM X ai σ H' s'/\IsPart u o/\Q o H') X.xe s
def KA:TO:=fun _ H Q=>Q none H
def RG(t:TE):TO:=fun σ H Q=>t σ H fun x H1=>∃i,x=.int i/\Q (some i) H1
section
variable{lo hi:Option Expr}{tl th:TO}
theorem KB:PO X none KA:=by
 intro ai s σ H Q I h
 rw[evalPart_none]
 exact aA ⟨none,H,I,.none,h⟩
theorem KC(h:PE X e te):PO X (some e) (RG te):=by
 intro ai s σ H Q I hw
 rw[evalPart_some]
 refine jq (h ai s σ H _ I hw) fun u s1 kt1 zq=>?_
 obtain⟨x,H1,I1,r1,q1⟩:=zq
 obtain⟨i,rfl,q⟩:=q1
 obtain⟨t,rfl⟩:=r1
 exact⟨some i,H1,I1,.int i t,q⟩
def RH(X:Cx)(r:V->Option Int->Option Int->Hp->VK->Prop):Prop:=
 ∀(ai:List (Addr×Obj)) (s:Shared) (σ:St) (H:Hp) (x:V) (v vl vu:Value) (lo hi:Option Int) (sl:Addr) (Q:VK),bM X ai σ H s->cW s.toks x v->s.heap.IsSliceOf sl vl vu .none->IsPart vl lo->IsPart vu hi->r x lo hi H Q ->
  ∃T id,typeLookup (.type T) "__getitem__"=pure (some (.builtin id))/\s.TypeIs v T/\wpAny #[5] X.A (getItem v (.ref sl)) (EP X ai σ Q) X.xe s
def Wj(r:V->Option Int->Option Int->Hp->VK->Prop)(te:TE)(tl th:TO):TE:=fun σ H Q=>te σ H fun x H1=>tl σ H1 fun l H2=>th σ H2 fun u H3=>r x l u H3 Q
theorem F3{r:V->Option Int->Option Int->Hp->VK->Prop}(hr:RH X r)(he:PE X e te)(hl:PO X lo tl)(hu:PO X hi th):PE X (.Subscript e (.Slice lo hi none p2) pos) (Wj r te tl th):=by
 intro ai s σ H Q I h
 refine Subscript_ (jq (he ai s σ H _ I h) fun v s1 kt1 zq=>?_)
 obtain⟨x,H1,I1,r1,q1⟩:=zq
 refine wpAny_Slice (jq (hl ai s1 σ H1 _ I1 q1) fun vl s2 kt2 ⟨l,H2,I2,pl,q2⟩=>jq (hu ai s2 σ H2 _ I2 q2) fun vu s3 kt3 zq=>?_)
 obtain⟨u,H3,I3,pu,q3⟩:=zq
 rw[evalPart_none]
 refine aA ?_
 have I4:bM X ai σ H3 { s3 with heap:=s3.heap.push { cls:=.type "slice",data:=.fields #[vl,vu,.none] } }:=I3.kept (t':=s3.toks) fun b ob q=>av _ q
 obtain⟨T,id,hT,ht,hg⟩:=hr ai { s3 with heap:=s3.heap.push { cls:=.type "slice",data:=.fields #[vl,vu,.none] } } σ H3 x v vl vu l u s3.heap.objs.size Q I4 (r1.up (aH kt2 kt3)) (Heap.IsSliceOf.new ..) pl pu q3
 show wpAny #[5] X.A (subscriptTail e (.Slice lo hi none p2) v (.ref s3.heap.objs.size)) (EP X ai σ Q) X.xe { s3 with heap:=s3.heap.push { cls:=.type "slice",data:=.fields #[vl,vu,.none] } }
 exact tail_any (ops:=[.ref s3.heap.objs.size,v]) ht hT hg (by with_unfolding_all rfl)
def uQ(xs:List V)(lo hi:Option Int):List V:=(xs.drop (HT.sIx xs.length 0 lo)).take (HT.sIx xs.length xs.length hi-HT.sIx xs.length 0 lo)
theorem tI(xs:List V)(lo hi:Option Int):(uQ xs lo hi).length<=xs.length:=by
 unfold uQ
 rw[bE,im]
 omega
def UU(K:Frag):V->Option Int->Option Int->Hp->VK->Prop:=fun x lo hi H Q=>∃a xs,x=.ref a/\ic K H a xs /\
 ¬ (HT.sIx xs.length 0 lo=0/\HT.sIx xs.length xs.length hi=xs.length)/\∀p,H p=none->Q (.ref p) (eG H p (.tup (uQ xs lo hi)))
theorem Ob:RH X (UU X.K):=by
 intro ai s σ H x v vl vu lo hi sl Q I rx hs pl pu h
 obtain⟨a,xs,rfl,hx,hw,q⟩:=h
 cases rx
 obtain⟨bT,r,ht,hz⟩:=I.tuple hx
 have dU:bT.toArray.size=xs.length:=by rw[aZ];exact r.length.symm
 refine⟨"tuple",_,eD.lookup,ht.typeIs,?_⟩
 refine HT.getItem_tuple_cut ht hs pl pu (by rw[dU];exact hw) ?_ (by rw[dU];exact hz)
 rw[dU]
 refine⟨.ref s.heap.objs.size,_,I.laid (t':=s.toks) (o:=.tup (uQ xs lo hi)) (fun b ob q=>av _ q) (ay _) ?_,rfl,q _ (I.hok.fresh (ay _))⟩
 exact⟨aH (tI xs lo hi) hz,_,(r.drop (HT.sIx xs.length 0 lo)).take (HT.sIx xs.length xs.length hi-HT.sIx xs.length 0 lo),IsTup.new _ _⟩
def RI(K:Frag):R2:=fun x y H Q=>∃a b xs ys,x=.ref a/\y=.ref b/\ic K H a xs/\ic K H b ys/\xs≠[]/\xs.length+ys.length<=sizeLine /\
 (ys=[]->Q (.ref a) H)/\(ys≠[]->∀p,H p=none->Q (.ref p) (eG H p (.tup (xs++ys))))
theorem cR.nil_iff{xs:List V}(r:cR nk xs us):us=[]↔xs=[]:=by
 cases r with
 |nil=>simp
 |cons _ _=>simp
theorem KD:l7 X (binaryOp .Add) (RI X.K):=by
 intro ai s σ H x y v u Q I rx ry h
 obtain⟨a,b,xs,ys,rfl,rfl,ha,hb,hx,hz,q1,q2⟩:=h
 cases rx
 cases ry
 obtain⟨bT,r1,p1,_⟩:=I.tuple ha
 obtain⟨its2,r2,p2,_⟩:=I.tuple hb
 refine HT.cat_tup p1 p2 (fun z=>hx (r1.nil_iff.mp z)) (fun z=>⟨.ref a,H,I,rfl,q1 (r2.nil_iff.mp z)⟩) (fun z=>?_) (by rw[<- r1.length,<- r2.length];exact hz)
 refine⟨.ref s.heap.objs.size,_,I.laid (t':=s.toks) (o:=.tup (xs++ys)) (fun b ob q=>av _ q) (ay _) ?_,rfl,q2 (fun w=>z (r2.nil_iff.mpr w)) _ (I.hok.fresh (ay _))⟩
 exact⟨by rw[aE];exact hz,_,r1.append r2,IsTup.new _ _⟩
theorem zi:ja X (.type "tuple") (fun xs H Q=>∃a ys,xs=[.ref a]/\ic X.K H a ys/\Q (.ref a) H):=by
 intro ai s σ H xs us Q I r h
 obtain⟨a,ys,rfl,ha,q⟩:=h
 obtain⟨u,rfl,ru⟩:=ou r
 cases ru
 obtain⟨bT,_,p1,_⟩:=I.tuple ha
 exact call_tuple_same (items:=bT.toArray) p1 ⟨.ref a,H,I,rfl,q⟩
end
end L2
namespace L2
open PySem PySem.Spec PyProof.Rows
def By(n:Nat)(i:Int):Option Nat:=if 0<=i then(if i<n then some i.toNat else none)else if -(n:Int)<=i then some (i+n).toNat else none
def rl(xs:List α)(i:Int):Option α:=(By xs.length i).bind fun j=>xs[j]?
theorem Df{i:Int}(h:By n i=some j):seqIndex? i n=some j/\j<n/\-(n:Int)<=i/\i<n:=by
 unfold By at h
 by_cases h0:0<=i
 ·rw[aC h0]at h
  by_cases h1:i<n
  ·rw[aC h1]at h
   have e:i.toNat=j:=bn h
   exact⟨by rw[seqIndex_of h0 h1,e],by omega,by omega,h1⟩
  ·rw[aJ h1]at h;cases h
 ·rw[aJ h0]at h
  by_cases h1:-(n:Int)<=i
  ·rw[aC h1]at h
   have e:(i+n).toNat=j:=bn h
   exact⟨by rw[sv #[0] h1,e],by omega,h1,by omega⟩
  ·rw[aJ h1]at h;cases h
theorem xR{xs:List α}{i:Int}{v:α}(h:rl xs i=some v):∃j,seqIndex? i xs.length=some j/\xs[j]?=some v/\j<xs.length/\-(xs.length:Int)<=i/\i<xs.length:=by
 unfold rl at h
 cases e:By xs.length i with
 |none=>rw[e]at h;cases h
 |some j=>
  rw[e]at h
  obtain⟨h1,h2,h3,h4⟩:=Df e
  exact⟨j,h1,h,h2,h3,h4⟩
def Dg(b:Expr):Prop:=∀o i,subscripted b false o i=operate [o,i] (getItem o i)
def J9(X:Cx)(r:R2):Prop:=
 ∀(value slice:Expr) (ai:List (Addr×Obj)) (s:Shared) (σ:St) (H:Hp) (x y:V) (v u:Value) (Q:VK),bM X ai σ H s->cW s.toks x v->cW s.toks y u->r x y H Q ->
  subscripted slice false v u=operate [v,u] (getItem v u)->wpAny #[5] X.A (subscriptTail value slice v u) (EP X ai σ Q) X.xe s
def EH(X:Cx)(id:String)(r:V->List V->Hp->VK->Prop):Prop:=
 ∀(ai:List (Addr×Obj)) (s:Shared) (σ:St) (H:Hp) (x:V) (xs:List V) (v:Value) (us:List Value) (Q:VK),bM X ai σ H s->cW s.toks x v->cR s.toks xs us->r x xs H Q ->
  wpAny #[5] X.A (call (.builtin id) (v::us)) (EP X ai σ Q) X.xe s
section
variable{a b:Expr}{ta tb:TE}
theorem J9.or{r r':R2}(h:J9 X r)(h':J9 X r'):J9 X (fun x y H Q=>r x y H Q\/r' x y H Q):=by
 intro value slice ai s σ H x y v u Q I rx ry q hs
 rcases q with q|q
 ·exact h value slice ai s σ H x y v u Q I rx ry q hs
 ·exact h' value slice ai s σ H x y v u Q I rx ry q hs
theorem RJ{r:R2}(hr:J9 X r)(ha:PE X a ta)(hb:PE X b tb)(hs:Dg b):PE X (.Subscript a b pos) (Ru r ta tb):=by
 intro ai s σ H Q I h
 exact Subscript_ (NZ ha hb I h fun v u s2 x y H2 I2 rx ry q=>hr a b ai s2 σ H2 x y v u Q I2 rx ry q (hs _ _))
def RL(K:Frag):R2:=fun x y H Q=>∃p xs i v,x=.ref p/\y=.int i/\sH K H p xs/\rl xs i=some v/\Q v H
def RM(K:Frag):R2:=fun x y H Q=>∃p xs i v,x=.ref p/\y=.int i/\ic K H p xs/\rl xs i=some v/\Q v H
def RN:R2:=fun x y H Q=>∃z i c,x=.str z/\y=.int i/\z.length<=sizeLine/\rl z.cps.toList i=some c/\Q (.str ⟨#[c]⟩) H
theorem KF:J9 X (RL X.K):=by
 intro value slice ai s σ H x y v u Q I rx ry h hs
 obtain⟨p,xs,i,z,rfl,rfl,hq,he,q⟩:=h
 cases rx
 obtain⟨t,rfl⟩:=ry
 obtain⟨bT,r,pl,hz⟩:=I.list hq
 obtain⟨j,h1,h2,h3,h4,h5⟩:=xR he
 obtain⟨w,ew,tt⟩:=r.get h2
 have hl:=r.length
 have hn:=sI
 have ie:EP X ai σ Q w s:=⟨z,H,I,tt,q⟩
 by_cases h0:0<=i
 ·have hj:i.toNat=j:=by
   rw[seqIndex_of h0 h5]at h1
   exact bn h1
  exact item_listR pl.isList h0 #[0] (by rw[hj];simpa using ew) ie hs
 ·have hj:(i+(bT.toArray.size:Int)).toNat=j:=by
   rw[sv #[0] h4]at h1
   rw[aZ,<- hl]
   exact bn h1
  exact nv (x:=w) pl.isList.typeIs slot_list_getitem.lookup
   (wpAny_getItem_list_neg (Q:=fun r s'=>r=w/\EP X ai σ Q r s') pl.isList #[0] (by rw[aZ]<;>omega) #[0] (by rw[hj];simpa using ew) ⟨rfl,ie⟩) hs
theorem Oc:J9 X (RM X.K):=by
 intro value slice ai s σ H x y v u Q I rx ry h hs
 obtain⟨p,xs,i,z,rfl,rfl,hq,he,q⟩:=h
 cases rx
 obtain⟨t,rfl⟩:=ry
 obtain⟨bT,r,pl,hz⟩:=I.tuple hq
 obtain⟨j,h1,h2,h3,h4,h5⟩:=xR he
 obtain⟨w,ew,tt⟩:=r.get h2
 have hl:=r.length
 have hn:=sI
 have ie:EP X ai σ Q w s:=⟨z,H,I,tt,q⟩
 exact nv (x:=w) pl.typeIs slot_tuple_getitem.lookup
  (getItem_tuple (j:=j) (Q:=fun r s'=>r=w/\EP X ai σ Q r s') pl #[0] #[0] (by rw[aZ,<- hl];exact h1) (by simpa using ew) ⟨rfl,ie⟩) hs
theorem Od:J9 X RN:=by
 intro value slice ai s σ H x y v u Q I rx ry h hs
 obtain⟨z,i,c,rfl,rfl,hz,he,q⟩:=h
 obtain⟨t,rfl⟩:=rx
 obtain⟨t',rfl⟩:=ry
 obtain⟨j,h1,h2,h3,h4,h5⟩:=xR he
 have hl:z.cps.toList.length=z.length:=by simp[Str.length]
 rw[hl]at h1 h4 h5
 have hn:=sI
 exact tail_any (jG s z t) slot_str_getitem.lookup (getItem_str (c:=c) (by
  have e1:decide (i < -(2^63:Int))=false:=aI #[0]
  have e2:decide (i≥2^63)=false:=aI #[0]
  rw[e1,e2,ms]) (by rw[h1];simpa using h2) ⟨.str ⟨#[c]⟩,H,I.tok _,I.tkS,q⟩) hs
def Wk(K:Frag):R2:=fun x y H Q=>RL K x y H Q\/RM K x y H Q\/RN x y H Q
theorem Oe:J9 X (Wk X.K):=KF.or (Oc.or Od)
theorem BO(bT:List Value)(n j:Nat)(u:Value):Obj.mapSeq (·.setIfInBounds j u) { cls:=.type "list",data:=.seq bT.toArray n }={ cls:=.type "list",data:=.seq (bT.set j u).toArray n }:=by
 simp[Obj.mapSeq]
theorem bM.lst{p:Addr}{xs:List V}(I:bM X ai σ H s)(h:H p=some (.lst xs)) :
  ∃(bT:List Value) (n:Nat),cR s.toks xs bT/\s.heap.get? p=some { cls:=.type "list",data:=.seq bT.toArray n }/\xs.length<=sizeLine:=by
 obtain⟨z,bT,n,r,e⟩:=I.hok p _ h
 exact⟨bT,n,r,e,z⟩
theorem bM.lstUpd{p:Addr}{xs ys:List V}{its':List Value}{f:Obj->Obj}(I:bM X ai σ H s)(h:H p=some (.lst xs))
  (ho:s.heap.get? p=some { cls:=.type "list",data:=.seq bT.toArray n }) (hf:f { cls:=.type "list",data:=.seq bT.toArray n }={ cls:=.type "list",data:=.seq its'.toArray n' }) (r:cR s.toks ys its') (hz:ys.length<=sizeLine) (t:Nat) (hk:s.toks<=t:=by first|exact ay _|exact bB _|assumption|omega) :
  bM X ai σ (eG H p (.lst ys)) { s with heap:=s.heap.update p f,toks:=t }:=by
 have e:(s.heap.update p f).get? p=some { cls:=.type "list",data:=.seq its'.toArray n' }:=by
  rw[dF f ho (by rw[hf]<;>rfl),hf]
 refine I.write (x:=p) (e:=p) (by rw[h];trivial) (.inl rfl) (fun b u hb q=>(cP _ _ (Ne.symm hb)).trans q) ⟨_,e⟩ ?_
 exact⟨hz,its',n',r.up hk,e⟩
def RO:V->V->V->Hp->(Hp->Prop)->Prop:=fun o i v H Q=>∃p xs k j,o=.ref p/\i=.int k/\H p=some (.lst xs)/\By xs.length k=some j/\Q (eG H p (.lst (xs.set j v)))
theorem F4:Ez X RO:=by
 intro ai s σ H o i v ov iv u Q I ro ri rv h
 obtain⟨p,xs,k,j,rfl,rfl,hp,hj,q⟩:=h
 cases ro
 obtain⟨t,rfl⟩:=ri
 obtain⟨bT,n,r,ho,hz⟩:=I.lst hp
 obtain⟨h1,h2,h3,h4⟩:=Df hj
 have hl:=r.length
 have hn:=sI
 have I':bM X ai σ (eG H p (.lst (xs.set j v))) { s with heap:=s.heap.update p (Obj.mapSeq (·.setIfInBounds j u)) }:=
  I.lstUpd hp ho (BO bT n j u) (r.set rv j) (by rw[ke];exact hz) s.toks
 by_cases h0:0<=k
 ·have hk:k.toNat=j:=by
   rw[seqIndex_of h0 h4]at h1
   exact bn h1
  exact PySem.W.ki_setAt ho h0 #[0] (by rw[aZ,<- hl];exact h4) (by rw[hk];exact⟨_,I',q⟩)
 ·have hk:(k+(bT.toArray.size:Int)).toNat=j:=by
   rw[sv #[0] h3]at h1
   rw[aZ,<- hl]
   exact bn h1
  exact PySem.W.ki_setBack ho #[0] (by rw[aZ,<- hl];exact h3) #[0] (by rw[hk];exact⟨_,I',q⟩)
theorem xS(lo hi:Option Int)(n:Nat):(sliceBounds lo hi none n).1=((HT.sIx n 0 lo:Nat):Int)/\(sliceBounds lo hi none n).2.1=((HT.sIx n n hi:Nat):Int)/\(sliceBounds lo hi none n).2.2=1:=by
 refine⟨?_,?_,rfl⟩
 ·cases lo with
  |none=>simp[sliceBounds,HT.sIx]
  |some i=>
   simp only[sliceBounds,HT.sIx,Option.getD_none,show(1:Int)>0 by decide,jP]
   by_cases h:i<0
   ·simp only[h,jP]<;>omega
   ·simp only[h,iK]<;>omega
 ·cases hi with
  |none=>simp[sliceBounds,HT.sIx]
  |some i=>
   simp only[sliceBounds,HT.sIx,Option.getD_none,show(1:Int)>0 by decide,jP]
   by_cases h:i<0
   ·simp only[h,jP]<;>omega
   ·simp only[h,iK]<;>omega
theorem v0(bT:List Value)(lo hi:Option Int):slicePick bT.toArray lo hi none=((bT.drop (HT.sIx bT.length 0 lo)).take (HT.sIx bT.length bT.length hi-HT.sIx bT.length 0 lo)).toArray:=by
 obtain⟨h1,h2,h3⟩:=xS lo hi bT.toArray.size
 unfold slicePick
 rw[h1,h2,h3]
 simp only[sliceRange_one,pick_run,aZ]<;>rfl
def UV(K:Frag):V->Option Int->Option Int->Hp->VK->Prop:=fun x lo hi H Q=>∃a xs,x=.ref a/\sH K H a xs/\∀p,H p=none->Q (.ref p) (eG H p (.lst (uQ xs lo hi)))
theorem KG:RH X (UV X.K):=by
 intro ai s σ H x v vl vu lo hi sl Q I rx hs pl pu h
 obtain⟨a,xs,rfl,hx,q⟩:=h
 cases rx
 obtain⟨bT,r,ht,hz⟩:=I.list hx
 have dU:=r.length
 refine⟨"list",_,slot_list_getitem.lookup,ht.isList.typeIs,?_⟩
 refine wpAny_getItem_list_slice ht.isList hs pl pu .none #[18] ?_ (by rw[aZ]<;>omega)
 rw[v0,<- dU]
 refine⟨.ref s.heap.objs.size,_,I.laid (t':=s.toks) (o:=.lst (uQ xs lo hi)) (fun b ob q=>av _ q) (ay _) ?_,rfl,q _ (I.hok.fresh (ay _))⟩
 exact⟨aH (tI xs lo hi) hz,_,0,(r.drop (HT.sIx xs.length 0 lo)).take (HT.sIx xs.length xs.length hi-HT.sIx xs.length 0 lo),aO _ rfl⟩
theorem rq:ja X (.builtin "len") (fun xs H Q=>∃p ys,xs=[.ref p]/\(sH X.K H p ys\/ic X.K H p ys)/\Q (.int ys.length) H):=by
 intro ai s σ H xs us Q I r h
 obtain⟨p,ys,rfl,hq,q⟩:=h
 obtain⟨u,rfl,rx⟩:=ou r
 cases rx
 have hn:=sI
 rcases hq with hq|hq
 ·obtain⟨bT,r',pl,hz⟩:=I.list hq
  have dU:=r'.length
  exact Calls.call_len_list pl.isList (by simp only[aZ]<;>omega) ⟨.int ys.length,H,I.tok _,⟨s.toks+1,by rw[aZ,dU]⟩,q⟩
 ·obtain⟨bT,r',pl,hz⟩:=I.tuple hq
  have dU:=r'.length
  exact len_tuple pl (by simp only[aZ]<;>omega) ⟨.int ys.length,H,I.tok _,⟨s.toks+1,by rw[aZ,dU]⟩,q⟩
theorem xU:ja X (.builtin "len") (fun xs H Q=>∃z,xs=[.str z]/\z.length<=sizeLine/\Q (.int z.length) H):=by
 intro ai s σ H xs us Q I r h
 obtain⟨z,rfl,hz,q⟩:=h
 obtain⟨u,rfl,t,rfl⟩:=ou r
 have hn:=sI
 exact len_str #[0] ⟨.int z.length,H,I.tok _,⟨_,rfl⟩,q⟩
theorem v3:ja X (.type "tuple") (fun xs H Q=>∃p ys,xs=[.ref p]/\((sH X.K H p ys/\∀l,H l=none->Q (.ref l) (eG H l (.tup ys)))\/(ic X.K H p ys/\Q (.ref p) H))):=by
 intro ai s σ H xs us Q I r h
 obtain⟨p,ys,rfl,h⟩:=h
 obtain⟨u,rfl,rx⟩:=ou r
 cases rx
 rcases h with⟨hq,q⟩|⟨hq,q⟩
 ·obtain⟨bT,r',pl,hz⟩:=I.list hq
  have dU:=r'.length
  refine call_tuple_list pl.isList (fun h' kp=>?_) (by simp only[aZ]<;>omega)
  have I1:bM X ai σ H { s with heap:=h' }:=I.kept (t':=s.toks) kp
  have I2:bM X ai σ (eG H h'.objs.size (.tup ys)) { s with heap:=h'.push { cls:=.type "tuple",data:=.seq bT.toArray } }:=
   I1.laid (t':=s.toks) (fun b o e=>av _ e) (ay _) (show eR X.prog X.w _ _ _ _ (.tup ys)from⟨hz,bT,r',IsTup.new _ _⟩)
  exact⟨.ref h'.objs.size,_,I2,rfl,q _ (I1.hok.fresh (ay _))⟩
 ·obtain⟨bT,r',pl,hz⟩:=I.tuple hq
  exact call_tuple_same pl ⟨.ref p,H,I,rfl,q⟩
def Uo(K:Frag)(T:String)(x:V)(H:Hp):Prop:=match x with
 |.str _=>T="str"
 |.int _=>T="int"
 |.ref p=>(T="list"/\∃xs,sH K H p xs)\/(T="tuple"/\∃o,K.lookup p=some o/\o.cls=.type "tuple"/\o.dict=none) \/
   (T="dict"/\((∃kvs,H p=some (.dK kvs))\/∃kvs,H p=some (.dT kvs)))\/(T="set"/\∃S n,H p=some (.set S n))
 |_=>False
theorem BP{x:V}(I:bM X ai σ H s)(r:cW s.toks x v)(ty:Uo X.K T x H) :
  s.TypeIs v T/\∀a,v=.ref a->∃ob,s.heap.get? a=some ob/\ob.dict=none:=by
 cases x with
 |str z=>
  obtain⟨t,rfl⟩:=r
  cases(show T="str" from ty)
  exact⟨jG s z t,fun _ e=>nomatch e⟩
 |int i=>
  obtain⟨t,rfl⟩:=r
  cases(show T="int" from ty)
  exact⟨typeIs_int s i t,fun _ e=>nomatch e⟩
 |ref p=>
  cases r
  rcases ty with⟨rfl,xs,hq⟩|⟨rfl,o,hk,hc,hd⟩|⟨rfl,hk⟩|⟨rfl,S,n,hk⟩
  ·obtain⟨bT,_,pl,_⟩:=I.list hq
   refine⟨pl.isList.typeIs,fun a e=>?_⟩
   cases e
   obtain⟨o,n,e,c,hd,_⟩:=pl
   exact⟨o,e,hd⟩
  ·refine⟨⟨o,I.kIn p o hk,hc⟩,fun a e=>?_⟩
   cases e
   exact⟨o,I.kIn _ o hk,hd⟩
  ·have z:∃o,s.heap.get? p=some o/\o.ExactDict:=by
    rcases hk with⟨kvs,hk⟩|⟨kvs,hk⟩
    ·obtain⟨_,_,_,_,o,_,_,e,ex,_⟩:=I.hok p _ hk
     exact⟨o,e,ex⟩
    ·obtain⟨_,_,_,_,o,_,_,e,ex,_⟩:=I.hok p _ hk
     exact⟨o,e,ex⟩
   obtain⟨o,e,ex⟩:=z
   refine⟨⟨o,e,ex.1⟩,fun a e2=>?_⟩
   cases e2
   exact⟨o,e,ex.2.1⟩
  ·obtain⟨o,_,_,_,e,ex,_⟩:=I.hok p _ hk
   refine⟨⟨o,e,ex.1⟩,fun a e2=>?_⟩
   cases e2
   exact⟨o,e,ex.2.1⟩
 |_=>exact False.elim ty
variable{to:TE}{t:TA}{id:String}{r:V->List V->Hp->VK->Prop}
end
end L2
namespace L2
open PySem PySem.Spec PyProof.Rows
def VN(X:Cx)(id:String)(r:V->List V->Hp->VK->Prop):Prop:=
 ∀(ai:List (Addr×Obj)) (s:Shared) (σ:St) (H:Hp) (x:V) (xs:List V) (v:Value) (us:List Value) (Q:VK),bM X ai σ H s->cW s.toks x v->cR s.toks xs us->r x xs H Q ->
  wpAny #[5] X.A (call (.builtin id) (v::us)) (EP X ai σ Q) X.xe s
theorem cR.one{x:V}(h:cR nk [x] us):∃u,us=[u]/\cW nk x u:=by cases h with|cons r t=>cases t;exact⟨_,rfl,r⟩
theorem cR.two{x y:V}(h:cR nk [x,y] us):∃u v,us=[u,v]/\cW nk x u/\cW nk y v:=by cases h with|cons r t=>obtain⟨v,rfl,q⟩:=cR.one t;exact⟨_,v,rfl,r,q⟩
theorem cR.zero:∀{us:List Value},cR nk [] us->us=[]
 |_,.nil=>rfl
theorem cR.dropLast{xs:List V}(h:cR nk xs us):cR nk xs.dropLast us.dropLast:=by
 induction h with
 |nil=>exact .nil
 |cons r t ih=>
  cases t with
  |nil=>exact .nil
  |cons q t'=>exact .cons r ih
theorem BQ(l:List α):l.eraseIdx (l.length-1)=l.dropLast:=by
 induction l with
 |nil=>rfl
 |cons a r ih=>
  cases r with
  |nil=>rfl
  |cons b r=>
   have e:(a::b::r).length-1=((b::r).length-1)+1:=by
    have h1:(a::b::r).length=r.length+2:=rfl
    have h2:(b::r).length=r.length+1:=rfl
    omega
   rw[e,List.eraseIdx_cons_succ,ih]
   all_goals rfl
section
variable{l:Addr}{xs ys zs:List V}
theorem bM.lset{its':List Value}{f:Array Value->Array Value}(I:bM X ai σ H s)(hH:H l=some (.lst xs))
  (e:s.heap.get? l=some { cls:=.type "list",data:=.seq bT.toArray n }) (hf:f bT.toArray=its'.toArray) (hv:cR t' ys its') (hz:ys.length<=sizeLine) (hk:s.toks<=t':=by first|exact ay _|exact bB _|assumption|omega) :
  bM X ai σ (eG H l (.lst ys)) { s with heap:=s.heap.update l (Obj.mapSeq f),toks:=t' }:=by
 have q:=PySem.IsL.update e f
 rw[hf]at q
 refine I.write (x:=l) (e:=l) (by rw[hH];exact trivial) (.inl rfl) (fun b' u hb hu=>(cP s.heap (Obj.mapSeq f) (Ne.symm hb)).trans hu) ⟨_,q⟩ ?_
 exact⟨hz,its',_,hv,q⟩
theorem bM.lnew{t':Nat}(I:bM X ai σ H s)(hv:cR t' ys bT)(hz:ys.length<=sizeLine)(hk:s.toks<=t':=by first|exact ay _|exact bB _|assumption|omega) :
  bM X ai σ (eG H s.heap.objs.size (.lst ys)) { s with heap:=s.heap.push { cls:=.type "list",data:=.seq bT.toArray },toks:=t' }:=
 I.laid (fun _ _ q=>av _ q) (ay _) ⟨hz,bT,0,hv,aO _ rfl⟩
theorem bM.fresh(I:bM X ai σ H s):H s.heap.objs.size=none:=I.hok.fresh (ay _)
theorem bM.lstM(I:bM X ai σ H s)(hH:H l=some (.lst xs)):xs.length<=sizeLine/\∃(bT:List Value) (n:Nat),cR s.toks xs bT/\xs.length=bT.length/\s.heap.get? l=some { cls:=.type "list",data:=.seq bT.toArray n }:=by
 obtain⟨z,bT,n,r,e⟩:=I.hok l _ hH
 exact⟨z,bT,n,r,r.length,e⟩
end
section
def Dh:V->List V->Hp->VK->Prop:=fun x vs H Q=>∃l xs y,x=.ref l/\vs=[y]/\H l=some (.lst xs)/\xs.length<sizeLine/\Q .non (eG H l (.lst (xs++[y])))
theorem EI:VN X "list.append" Dh:=by
 intro ai s σ H x vs v us Q I rx rv h
 obtain⟨l,xs,y,rfl,rfl,hH,hz,q⟩:=h
 cases rx
 obtain⟨u,rfl,ru⟩:=rv.one
 obtain⟨z,bT,n,r,hl,e⟩:=I.lstM hH
 refine rj F.slot_list_append ⟨_,e,rfl⟩ F.entry_list_append (F.args_list_append_2 _ _) (PySem.list_append l bT.toArray n u (by rw[aZ];omega)) ⟨e,?_⟩
 refine⟨.non,_,I.lset (its':=bT++[u]) hH e #[18] (r.append (.cons ru .nil)) ?_,rfl,q⟩
 rw[aE,oh]
 omega
def RP:V->List V->Hp->VK->Prop:=fun x vs H Q=>∃l xs y,x=.ref l/\vs=[]/\H l=some (.lst xs)/\xs[xs.length-1]?=some y/\Q y (eG H l (.lst xs.dropLast))
theorem Of:VN X "list.pop" RP:=by
 intro ai s σ H x vs v us Q I rx rv h
 obtain⟨l,xs,y,rfl,rfl,hH,hy,q⟩:=h
 cases rx
 have vZ:=rv.zero
 subst vZ
 obtain⟨z,bT,n,r,hl,e⟩:=I.lstM hH
 obtain⟨u,hu,ru⟩:=r.get hy
 have hy':bT.toArray[bT.toArray.size-1]?=some u:=by
  show bT.toArray[bT.length-1]?=some u
  rw[<- fO,<- hl]
  exact hu
 refine rj F.slot_list_pop ⟨_,e,rfl⟩ F.entry_list_pop (F.args_list_pop_1 _) (MeetsSeq.list_pop_last l bT.toArray n u hy' (by rw[aZ];omega)) ⟨e,?_⟩
 refine⟨y,_,I.lset (its':=bT.dropLast) hH e ?_ r.dropLast ?_,ru,q⟩
 ·show bT.toArray.eraseIdxIfInBounds (bT.toArray.size-1)=bT.dropLast.toArray
  rw[aZ,List.eraseIdxIfInBounds_toArray,BQ]
 ·rw[List.length_dropLast]
  omega
def UW:R2:=fun x y H Q=>∃l b xs zs,x=.ref l/\y=.ref b/\H l=some (.lst xs)/\H b=some (.lst zs)/\xs.length+zs.length<=sizeLine/\∀p,H p=none->Q (.ref p) (eG H p (.lst (xs++zs)))
theorem Og:l7 X (binaryOp .Add) UW:=by
 intro ai s σ H x y v u Q I rx ry h
 obtain⟨l,b,xs,zs,rfl,rfl,hH,hB,hz,q⟩:=h
 cases rx
 cases ry
 obtain⟨z,bT,n,r,hl,e⟩:=I.lstM hH
 obtain⟨z2,its2,n2,r2,Kf,e2⟩:=I.lstM hB
 refine PySem.P.add_list e e2 ?_ (by rw[aZ,aZ];omega)
 have ea:bT.toArray++its2.toArray=(bT++its2).toArray:=by simp
 rw[ea]
 exact⟨.ref _,_,I.lnew (t':=s.toks) (r.append r2) (by rw[aE];omega),rfl,q _ I.fresh⟩
end
section
variable{w:World}
end
section
end
end L2
namespace Att
open PySem PySem.W PySem.Calls PyProof.Rows
theorem uc{P:Params}:∀(ns:List Int) (vs:List Value),WellAll P h vs (ns.map WData.int)->IntsAre vs ns:=by
 intro ns
 induction ns with
 |nil=>
  intro vs w
  rw[kD]at w
  cases w
  exact .nil
 |cons n ns ih=>
  intro vs w
  rw[aW]at w
  cases w with
  |cons a b=>
   cases a
   exact .cons _ _ (ih _ b)
theorem EJ{l:OpenLaw}(hn:l.most=some n){P:Params}{args:List WData}{nq:List Value}
  (Fu:l.row.toRowW.claim.pre args=true) (Vv:WellAll P h nq args) :
  ∃a vs ns,nq=[Value.ref a]/\args=[WData.list (ns.map WData.int)]/\h.get? a=some { cls:=.type "list",data:=.seq vs.toArray }/\IntsAre vs ns/\ns.length<=n:=by
 have hsh:WShape.hasAll [] args [.list .int]=true:=(pre_splitW Fu).1
 have hc:l.pre.holds [] { args:=args }=true:=(pre_splitW Fu).2
 obtain⟨d,r,rfl,h1,h2⟩:=hasAllW_cons hsh
 obtain rfl:=hasAllW_nil h2
 obtain⟨xs,rfl,h3⟩:=hasW_list h1
 obtain⟨ns,rfl⟩:=items_int h3
 have dU:ns.length<=n:=by
  unfold OpenLaw.pre at hc
  have h4:(WTm.not (.lt (.lit (.int (n:Int))) (.len (.arg 0)))).holds [] { args:=[.list (ns.map .int)] }=true:=by
   have h4:=(holds_andW hc).1
   rw[hn]at h4
   exact h4
  have h5:=condW_of h4 (w_not (w_lt w_lit (w_len_list (w_arg rfl))))
  rw[az]at h5
  refine Nat.le_of_not_lt fun q=>?_
  have q':(n:Int)<((ns.length:Nat):Int):=by omega
  first
   |(rw[aN q']at h5;exact absurd h5 (by decide))
   |(simp at h5;omega)
 cases Vv with
 |cons w1 w2=>
  cases w2
  cases w1 with
  |list ho hall=>exact⟨_,_,ns,rfl,rfl,ho,uc ns _ hall,dU⟩
theorem EK(l:OpenLaw)(args:List WData):l.row.toRowW.claim.post args (.bool true) args=true:=
 postW_of (r:=l.row.toRowW) (X:=(true==true))
  (show WShape.has [] (.bool true) .bool=true by first|rfl|decide|simp[WShape.has,WShape.arms,WShape.armsAll])
  (show(WTm.eq .res (.lit (.bool true))).value [] { args:=args,res:=some (.bool true),after:=args }=some (.bool (true==true))from w_eq_bool (w_res rfl) w_lit) rfl
theorem attach_call{l:OpenLaw}{q:Program}{xG:List Str}{d:DefRec}
  (hn:l.most=some n) (T5:d.params.defaults=[])
  (call:∀(w:World) (s₀ s₁:Shared) (mg mb:Str->Option Value) (fa:Addr) (o:Obj) (pm cd uL:Value) (a:Addr) (vs:List Value) (ns:List Int),
   Ground q xG [] XP w s₀ mg mb s₁.heap->YP w s₁.heap ->
   s₁.heap.get? fa=some o->o.data=.func (docDef d.name d.params d.body d.scope pm cd uL)->s₁.heap.CodeRec cd d.name->mg d.name=some (.ref fa) ->
   s₁.heap.get? a=some { cls:=.type "list",data:=.seq vs.toArray }->IntsAre vs ns->ns.length<=n->s₁.gens=#[] ->
   codeAny (model l.prog w) callerA (.call (.ref fa) ⟨[.ref a],[]⟩) (fun r s'=>r=.ok (.ret (.bool true))/\OldK s₁.heap s'.heap/\s'.os=s₁.os/\AllBare s'.gens) s₁) :
  WalkO q xG XP YP l.row.toRowW d [] (fun f vs=>PySem.call f vs):=by
 intro w s₀ s₁ mg mb G Y fa o pm cd uL dV kV ho hd um hD hmg hg args nq as Fu hlay hrd Vv hlo
 obtain rfl:dV=.none:=Dflts.none hD T5
 obtain rfl:kV=.none:=Dflts.noKw hD
 obtain⟨a,vs,ns,rfl,rfl,hobj,hints,dU⟩:=EJ hn Fu Vv
 refine enter_call (jk (call w s₀ s₁ mg mb fa o pm cd uL a vs ns G Y ho (fd_plain hd) um hmg hobj hints dU hg) fun r s' hq=>?_)
 obtain⟨rfl,h2,h3,h4⟩:=hq
 exact⟨.inl ⟨.bool true,.bool true,[],rfl,fun _=>rfl,.bool true,EK l _,fun _=>⟨List.Pairwise.nil,fun _ hm=>(nomatch hm)⟩⟩,h2,h3,h4⟩
section
variable{w:World}
end
end Att
namespace L2
open PySem PySem.Spec PyProof.Rows
theorem wD:∀{vs:List Value} {ns:List Int},IntsAre vs ns->cR nk (ns.map V.int) vs
 |_,_,.nil=>.nil
 |_,_,.cons n t h=>.cons ⟨t,rfl⟩ (wD h)
def KH(H:Hp):Prop:=∀b,H b=none\/∃o xs,H b=some (.frz o (.lst xs))
theorem F5{P:Program}{w:World}{mb:Str->Option Value}{CX:Fx}{k:Nat}{fa:Addr}{fd:FuncData}{sp:Sp}{s₁:Shared}{vs:List Value}{ns:List Int}
  (KX:K.In s₁.heap) (V6:s₁.heap.Ns mainGlobals mg) (hb:s₁.heap.Ns builtinsNs mb) (QQ:∀x:Str,x ≠ "__name__"->mb x=bootBuiltins x) (VC:s₁.heap.NoLimit) (hg:s₁.gens=#[])
  (ha:s₁.heap.get? a=some { cls:=.type "list",data:=.seq vs.toArray }) (hi:IntsAre vs ns) (hl:ns.length<=sizeLine) (hr:jr k callerA)
  (F:∀base:Heap,K.In base->base.Ns mainGlobals mg->eY P w K mg base CX k fa fd [x] sp) (TY:∀(s:Shared) (u:Value),BindsTo s fd ⟨[u],[]⟩ [(x,u)]) (QN:fd.scope.names.lookup x=some .local)
  (Nx:∀H:Hp,KH H->sH K H a (ns.map V.int)->sp [.ref a] H (fun v _=>v=.bl true) fun _ _ _=>False)
  (VE:∀H e s',CX [] H s₁ (fun _ _ _=>False) e s'->False) :
  codeAny (model P w) callerA (.call (.ref fa) ⟨[.ref a],[]⟩) (fun r s'=>r=.ok (.ret (.bool true))/\OldK s₁.heap s'.heap/\s'.os=s₁.os/\AllBare s'.gens) s₁:=by
 have rv:cR 0 _ _:=wD hi
 have lenV:=hi.length
 have core:∀H:Hp,KH H->sH K H a (ns.map V.int)->pI P w s₁.toks H s₁.heap->(∀b,H b≠none->b=a)->(H a≠none->K.lookup a=none) ->
   codeAny (model P w) callerA (.call (.ref fa) ⟨[.ref a],[]⟩) (fun r s'=>r=.ok (.ret (.bool true))/\OldK s₁.heap s'.heap/\s'.os=s₁.os/\AllBare s'.gens) s₁:=by
  intro H hO hS hok hA hK
  have base_of:∀{b:Addr} {o:Obj},s₁.heap.get? b=some o->H b=none->(xN s₁.heap H).get? b=some o:=fun e n=>FJ e n
  have noA:∀{b:Addr} {o:Obj} {es:Array DictEntry} {ep:Nat},s₁.heap.get? b=some o->o.data=.dict es ep->H b=none:=fun{b o es ep} e d=>by
   cases q:H b with
   |none=>rfl
   |some u=>
    have e':b=a:=hA b (by rw[q];simp)
    subst e'
    rw[ha]at e;cases e
    have d':Data.seq vs.toArray _=Data.dict es ep:=d
    cases d'
  have nsK:∀{b:Addr} {m:Str->Option Value},s₁.heap.Ns b m->(xN s₁.heap H).Ns b m:=fun{b m} ⟨o,es,ep,e,d,r⟩=>⟨o,es,ep,base_of e (noA e d),d,r⟩
  have hKb:K.In (xN s₁.heap H):=fun b o e=>base_of (KX b o e) (by
   cases q:H b with
   |none=>rfl
   |some u=>
    have e':b=a:=hA b (by rw[q];simp)
    subst e'
    rw[hK (by rw[q];simp)]at e;cases e)
  have hM:Mod K mg (xN s₁.heap H):=⟨hKb,nsK V6,⟨mb,nsK hb,QQ⟩,let ⟨mc,h1,h2⟩:=VC;⟨mc,nsK h1,h2⟩⟩
  have e0:Kz P w K mg (xN s₁.heap H) callerA [] s₁ H:=⟨rfl,hM,fun b o e=>Kh e,Nat.le_of_eq (Ew _ _),trivial,fun b hb=>absurd (show b∈([]:List Addr)from hb) #[18],hok,.of_eq hg⟩
  refine jk ((F _ hKb (nsK V6)).run callerA [] s₁ H ⟨[.ref a],[]⟩ [.ref a] [.ref a] _ _ hr e0 (.inr ⟨x,rfl,QN⟩) (TY s₁ (.ref a)) (.cons rfl .nil) (Nx H hO hS)) fun r s' h=>?_
  cases r with
  |error e=>exact(VE H e s' h).elim
  |ok fl=>
   cases fl with
   |next=>exact False.elim h
   |brk=>exact False.elim h
   |cont=>exact False.elim h
   |ret u=>
    obtain⟨v,H',os,bare,un,hok',r',q⟩:=h
    have q':v=.bl true:=q
    subst q'
    obtain rfl:u=Value.bool true:=r'
    refine⟨rfl,OldK.of_keep fun b o e=>?_,os,bare⟩
    cases q:H b with
    |none=>exact un.keep b o e q (by intro z;exact absurd (show b∈([]:List Addr)from z) (by simp)) (by simp)
    |some u=>
     rcases hO b with z|⟨ob,xs,z⟩
     ·rw[q]at z;cases z
     ·have z2:=un.frzs b ob _ z
      obtain⟨e1,_⟩:=hok b _ z
      obtain⟨e2,_⟩:=hok' b _ z2
      rw[e]at e1;cases e1
      exact e2
 cases hk:K.lookup a with
 |some o=>
  have e:=KX a o hk
  rw[ha]at e
  cases e
  refine core (fun _=>none) (fun _=>.inl rfl) (.inr ⟨_,vs.toArray,_,hk,rfl,rfl,rfl,by rw[aZ,lenV];exact hl,by simpa using rv⟩) (fun b u z=>by have z':(none:Option HO)=some u:=z;cases z') (fun b z=>absurd rfl z) fun z=>absurd rfl z
 |none=>
  refine core (fun b=>if b=a then some (.frz { cls:=.type "list",data:=.seq vs.toArray } (.lst (ns.map V.int)))else none) (fun b=>?_) (.inl (.inr ⟨{ cls:=.type "list",data:=.seq vs.toArray },aC rfl⟩)) (fun b u z=>?_) (fun b z=>?_) fun _=>hk
  ·by_cases hb:b=a
   ·exact .inr ⟨_,_,aC hb⟩
   ·exact .inl (aJ hb)
  ·by_cases hb:b=a
   ·have z':=(aC hb).symm.trans z
    cases z'
    subst hb
    exact⟨ha,by rw[az];exact hl,vs,_,rv.up (bU _),ha⟩
   ·have z':=(aJ hb).symm.trans z
    cases z'
  ·by_cases hb:b=a
   ·exact hb
   ·exact absurd (aJ hb) z
end L2
namespace L2
open PySem PySem.Spec PyProof.Rows
theorem walk_of{l:PySem.W.OpenLaw}{n k:Nat}{q:Program}{xG:List Str}{d:DefRec}{K:Params->Frag}{CX:World->Fx}{sp:World->Sp}{x:Str}
  (hn:l.most=some n) (We:n<=sizeLine) (T5:d.params.defaults=[]) (hr:jr k callerA)
  (hY:∀(w:World) (h:Heap),YP w h->(K w.params).In h)
  (F:∀(w:World) (mg:Str->Option Value) (fa:Addr) (h:Heap),(K w.params).In h->h.Ns mainGlobals mg->mg d.name=some (.ref fa) ->
   ∃fd:FuncData,fd.scope.names.lookup x=some .local/\(∀(s:Shared) (u:Value),BindsTo s fd ⟨[u],[]⟩ [(x,u)]) /\
    ∀base:Heap,(K w.params).In base->base.Ns mainGlobals mg->eY l.prog w (K w.params) mg base (CX w) k fa fd [x] (sp w))
  (Nx:∀(w:World) (H:Hp) (a:Addr) (ns:List Int),ns.length<=n->KH H->sH (K w.params) H a (ns.map V.int)->sp w [.ref a] H (fun v _=>v=.bl true) fun _ _ _=>False)
  (VE:∀(w:World) (H:Hp) (s:Shared) (e:Value) (s':Shared),CX w [] H s (fun _ _ _=>False) e s'->False) :
  PySem.W.WalkO q xG XP YP l.row.toRowW d [] (fun f vs=>PySem.call f vs):=by
 refine Att.attach_call hn T5 fun w s₀ s₁ mg mb fa o pm cd uL a vs ns G Y ho hd um hmg hobj hints dU hg=>?_
 have KX:=hY w _ Y
 obtain⟨fd,QN,hb,hF⟩:=F w mg fa _ KX G.T.g hmg
 exact F5 KX G.T.g G.T.b G.T.builtins G.T.nolimit hg hobj hints (aH dU We) hr hF hb QN (fun H hO hS=>Nx w H a ns dU hO hS) fun H e s'=>VE w H s₁ e s'
end L2
namespace L2
open PySem PySem.Spec PyProof.Rows
def jK(s:Stmt):Arguments:=match s with
 |.FunctionDef _ a _ _ _ _ _ _ _ _=>a
 |_=>{ posonlyargs:=[],args:=[],vararg:=none,kwonlyargs:=[],kw_defaults:=[],kwarg:=none,defaults:=[] }
def iN(s:Stmt):List Stmt:=match s with
 |.FunctionDef _ _ b _ _ _ _ _ _ _=>b
 |_=>[]
def a8(s:Stmt):Scope:=match s with
 |.FunctionDef _ _ _ _ _ _ sc _ _ _=>sc
 |_=>{ kind:=.function,names:=[],isGenerator:=false,isCoroutine:=false }
structure j9(K:Frag)(x fL:Str)(st:Stmt)(f:Addr)(fd:FuncData):Prop where
 ex:∃(oc:Value) (od:Option Addr) (kV uL pm:Value) (an:Option Addr) (gJ ct:Value) (ND:Array (Option Value)),
  fd=fnOf x fL (jK st) (iN st) (a8 st) .none kV uL pm an gJ ct/\K.lookup f=some ⟨oc,od,.func fd,ND⟩/\codeIn K gJ fL=true
 kp:keepIn K (.ref f)=true
section
variable{w:World}
theorem j9.binds{st:Stmt}{f:Addr}(F:j9 K x fL st f fd)
  (h:∀(kV uL pm:Value) (an:Option Addr) (gJ ct:Value) (us:List Value),us.length=ps.length->bindArgs (fnOf x fL (jK st) (iN st) (a8 st) .none kV uL pm an gJ ct) ⟨us,[]⟩=pure (ps.zip us)):zh K fd ps []:=by
 obtain⟨oc,od,kV,uL,pm,an,gJ,ct,ND,rfl,lk,um⟩:=F.ex
 exact .all (h kV uL pm an gJ ct)
theorem F6{st:Stmt}{f:Addr}{oc:Value}{od an:Option Addr}{ND:Array (Option Value)}{kV uL pm gJ ct:Value}(l:K.lookup f=some ⟨oc,od,.func (fnOf x fL (jK st) (iN st) (a8 st) .none kV uL pm an gJ ct),ND⟩)
  (c:codeIn K gJ fL=true) (k:keepIn K (.ref f)=true):j9 K x fL st f (fnOf x fL (jK st) (iN st) (a8 st) .none kV uL pm an gJ ct):=⟨⟨oc,od,kV,uL,pm,an,gJ,ct,ND,rfl,l,c⟩,k⟩
end
theorem F7{k:Nat}(hr:jr k A):A.units+1<cLine:=eK (Nat.add_le_add_left (by decide:1<=64) _) hr.units
section
theorem pv(i:Nat){pos:Pos}(hN:X.N[i]?=some x:=by rfl)(hv:Ra X.env.scope x:=by first|exact Or.inl rfl|exact Or.inr (Or.inl rfl)|exact Or.inr (Or.inr rfl))(hd:(x==("__debug__":Str))=false:=by decide)
  (um:(x==("__classdict__":Str))=false:=by decide):PE X (.Name x pos) (Rb i):=NI hN hv hd um
end
def ud(H H':Hp):Prop:=∀b o,H b=some o->H' b=some o
theorem ud.refl(H:Hp):ud H H:=fun _ _ h=>h
end L2
namespace L2
open PySem PySem.Spec PyProof.Rows
section
variable{κ:Type}[DecidableEq κ]
def oA(kvs:List (κ×V))(k:κ):Option V:=(kvs.find? fun kv=>decide (kv.1=k)).map (·.2)
def sK(kvs:List (κ×V))(k:κ)(v:V):List (κ×V):=
 if (kvs.any fun kv=>decide (kv.1=k))=true then kvs.map (fun kv=>if kv.1=k then(kv.1,v)else kv)else kvs++[(k,v)]
theorem rA{p:κ×V}{r:List (κ×V)}{k:κ}(e:p.1=k):oA (p::r) k=some p.2:=by simp[oA,dr,e]
theorem rB{p:κ×V}{r:List (κ×V)}{k:κ}(e:¬ p.1=k):oA (p::r) k=oA r k:=by simp[oA,dr,e]
theorem zj(k:κ):∀kvs:List (κ×V),(kvs.any fun kv=>decide (kv.1=k))=(oA kvs k).isSome
 |[]=>rfl
 |p::r=>by
  rw[mv]
  by_cases e:p.1=k
  ·simp only[rA e,aN e,sw,Option.isSome_some]
  ·rw[rB e,aI e,mx];exact zj k r
theorem tJ(kvs:List (κ×V))(k:κ)(v:V):(sK kvs k v).length<=kvs.length+1:=by
 unfold sK
 split
 ·rw[az];omega
 ·rw[aE,eM,gY];omega
theorem t9.isSome_eq{o:Option V}{u:Option Value}(r:t9 nk o u):o.isSome=u.isSome:=by
 cases o with
 |none=>cases u with
  |none=>rfl
  |some _=>exact(show False from r).elim
 |some _=>cases u with
  |none=>exact(show False from r).elim
  |some _=>rfl
theorem t9.getD{o:Option V}{u:Option Value}{d:V}{d':Value}(r:t9 nk o u)(rd:cW nk d d'):cW nk (o.getD d) (u.getD d'):=by
 cases o with
 |none=>cases u with
  |none=>exact rd
  |some _=>exact(show False from r).elim
 |some _=>cases u with
  |none=>exact(show False from r).elim
  |some _=>exact r
theorem KV.val{kvs:List (κ×V)}{vs:List (κ×Value)}(r:KV nk kvs vs)(k:κ):t9 nk (oA kvs k) (valueAt vs k):=by
 unfold KV at r
 induction r with
 |nil=>exact True.intro
 |@cons p q ps qs h t ih=>
  obtain⟨h1,h2⟩:=h
  by_cases e:p.1=k
  ·have e':q.1=k:=h1.symm.trans e
   have b:valueAt (q::qs) k=some q.2:=by simp[valueAt,dr,e']
   rw[rA e,b];exact h2
  ·have e':¬ q.1=k:=fun z=>e (h1.trans z)
   have b:valueAt (q::qs) k=valueAt qs k:=by simp[valueAt,dr,e']
   rw[rB e,b];exact ih
theorem KV.any{kvs:List (κ×V)}{vs:List (κ×Value)}(r:KV nk kvs vs)(k:κ):(kvs.any fun kv=>decide (kv.1=k))=vs.any fun kv=>decide (kv.1=k):=by
 unfold KV at r
 induction r with
 |nil=>rfl
 |cons h t ih=>rw[mv,mv,ih,h.1]
theorem KV.repl{kvs:List (κ×V)}{vs:List (κ×Value)}(r:KV nk kvs vs)(k:κ){y:V}(ry:cW nk y u) :
  KV nk (kvs.map fun kv=>if kv.1=k then(kv.1,y)else kv) (vs.map fun kv=>if kv.1=k then(kv.1,u)else kv):=by
 unfold KV at r ⊢
 induction r with
 |nil=>exact .nil
 |@cons p q ps qs h t ih=>
  rw[aW,aW]
  refine .cons ?_ ih
  obtain⟨h1,h2⟩:=h
  by_cases e:p.1=k
  ·rw[aC e,aC (h1.symm.trans e)];exact⟨h1,ry⟩
  ·rw[aJ e,aJ (fun z=>e (h1.trans z))];exact⟨h1,h2⟩
theorem KV.put{kvs:List (κ×V)}{vs:List (κ×Value)}(r:KV nk kvs vs)(k:κ){y:V}(ry:cW nk y u):KV nk (sK kvs k y) (stored vs k u):=by
 unfold sK stored
 rw[r.any k]
 by_cases e:(vs.any fun kv=>decide (kv.1=k))=true
 ·rw[aC e,aC e];exact r.repl k ry
 ·rw[aJ e,aJ e];exact Paired.snoc r ⟨rfl,ry⟩
theorem KV.length{kvs:List (κ×V)}{vs:List (κ×Value)}(r:KV nk kvs vs):kvs.length=vs.length:=Paired.length r
end
theorem Di{w:World}{k:jT}(r:cW nk (kV k) u):(gk P w).is k u=true:=by
 cases k with
 |inl i=>obtain⟨t,e⟩:=(show ∃t,u=Value.int i t from r);subst e;exact zc P w i t
 |inr x=>obtain⟨t,e⟩:=(show ∃t:Tk _ x,u=Value.str x t.1 from r);subst e;exact zd P w x t
theorem wE{w:World}:∀{ks:List jT} {us:List Value},cR nk (ks.map kV) us->ItemsAre (gk P w) ks us
 |[],_,r=>by rw[kD]at r;cases r;exact .nil
 |k::ks,_,r=>by
  rw[aW]at r
  cases r with
  |cons h t=>exact .cons (Di h) (wE t)
abbrev KT(nk:Nat)(H:Hp):List (List jT×V)->List (List jT×Addr×Value)->Prop:=Paired fun p q=>p.1=q.1/\H q.2.1=some (.tup (p.1.map kV))/\cW nk p.2 q.2.2
theorem KT.val{kvs:List (List jT×V)}(r:KT nk H kvs xs)(k:List jT):t9 nk (oA kvs k) ((atKey xs k).map (·.2)):=by
 induction r with
 |nil=>exact True.intro
 |@cons p q ps qs h t ih=>
  obtain⟨h1,_,h2⟩:=h
  by_cases e:p.1=k
  ·have e':q.1=k:=h1.symm.trans e
   have b:atKey (q::qs) k=some q.2:=by simp[atKey,dr,e']
   rw[rA e,b];exact h2
  ·have e':¬ q.1=k:=fun z=>e (h1.trans z)
   have b:atKey (q::qs) k=atKey qs k:=by simp[atKey,dr,e']
   rw[rB e,b];exact ih
theorem KT.repl{kvs:List (List jT×V)}(r:KT nk H kvs xs)(k:List jT){y:V}(ry:cW nk y u) :
  KT nk H (kvs.map fun kv=>if kv.1=k then(kv.1,y)else kv) (xs.map (putAt k u)):=by
 induction r with
 |nil=>exact .nil
 |@cons p q ps qs h t ih=>
  rw[aW,aW]
  refine .cons ?_ ih
  obtain⟨h1,h2,h3⟩:=h
  unfold putAt
  by_cases e:p.1=k
  ·rw[aC e,aC (h1.symm.trans e)];exact⟨h1,h2,ry⟩
  ·rw[aJ e,aJ (fun z=>e (h1.trans z))];exact⟨h1,h2,h3⟩
theorem KT.put{kvs:List (List jT×V)}(r:KT nk H kvs xs)(k:List jT){y:V}(hb:H b=some (.tup (k.map kV)))(ry:cW nk y u) :
  KT nk H (sK kvs k y) (storedH xs k b u):=by
 have e:(kvs.any fun kv=>decide (kv.1=k))=(atKey xs k).isSome:=by
  rw[zj,(r.val k).isSome_eq,Option.isSome_map]
 unfold sK storedH
 rw[e]
 by_cases q:(atKey xs k).isSome=true
 ·rw[aC q,aC q];exact r.repl k ry
 ·rw[aJ q,aJ q];exact Paired.snoc r ⟨rfl,hb,ry⟩
theorem KT.keeps{kvs:List (List jT×V)}(r:KT nk H kvs xs)(ht:∀b ys,H b=some (.tup ys)->H' b=some (.tup ys)):KT nk H' kvs xs:=
 Paired.mapP r fun _ _ z=>⟨z.1,ht _ _ z.2.1,z.2.2⟩
section
variable{w:World}
theorem Mk{u:HO}(ok:pI P w nk H h)(e:Rd H a u):eR P w nk H h a u:=e.ok ok
theorem zk{kvs:List (jT×V)}(ok:pI P w nk H h)(e:Rd H a (.dK kvs)):kvs.length<=sizeLine/\(a==sysModules)=false/\∃vs,KV nk kvs vs/\h.DictOf (gk P w) a vs:=
 show eR P w _ H h a (.dK kvs)from Mk ok e
theorem RQ{kvs:List (jT×V)}(ok:pI P w nk H h)(e:H a=some (.dK kvs)):kvs.length<=sizeLine/\(a==sysModules)=false/\∃vs,KV nk kvs vs/\h.DictOf (gk P w) a vs:=zk ok (.inl e)
theorem xV{ks:List jT}(ok:pI P w nk H h)(e:H a=some (.tup (ks.map kV))):(tupleKind (gk P w)).is h ks a:=by
 obtain⟨_,bT,r,o,h1,h2,n,h3⟩:=(show eR P w _ H h a (.tup (ks.map kV))from ok a _ e)
 exact⟨o,bT.toArray,n,h1,h2,h3,by simpa using wE r⟩
theorem Dj{kvs:List (List jT×V)}(ok:pI P w nk H h)(e:Rd H a (.dT kvs)):kvs.length<=sizeLine/\(a==sysModules)=false /\
  ∃xs,KT nk H kvs xs/\h.DictOfH (tupleKind (gk P w)) a xs:=by
 obtain⟨z,y,xs,r,o,es,ep,h1,h2,h3,h4,h5⟩:=(show eR P w _ H h a (.dT kvs)from Mk ok e)
 refine⟨z,y,xs,r,o,es,ep,h1,h2,h3,h4,fun x hx=>?_,h5⟩
 have all:∀{l:List (List jT×V)} {m:List (List jT×Addr×Value)},KT nk H l m->∀x∈m,(tupleKind (gk P w)).is h x.1 x.2.1:=by
  intro l m q
  induction q with
  |nil=>intro x hx;exact nomatch hx
  |@cons p q ps qs hq t ih=>
   intro x hx
   rcases a7.mp hx with e|hx
   ·subst e
    exact xV ok (by rw[<- hq.1];exact hq.2.1)
   ·exact ih x hx
 exact all r x hx
theorem RR{kvs:List (List jT×V)}(ok:pI P w nk H h)(e:H a=some (.dT kvs)):kvs.length<=sizeLine/\(a==sysModules)=false /\
  ∃xs,KT nk H kvs xs/\h.DictOfH (tupleKind (gk P w)) a xs:=Dj ok (.inl e)
end
def zl(H:Hp)(a:Addr)(y:V)(r:Option V):Prop:=
 (∃kvs k,Rd H a (.dK kvs)/\y=kV k/\r=oA kvs k)\/∃kvs k b,Rd H a (.dT kvs)/\y=.ref b/\H b=some (.tup (k.map kV))/\r=oA kvs k
def KI(H:Hp)(a:Addr)(y v:V)(H':Hp):Prop:=
 (∃kvs k,H a=some (.dK kvs)/\y=kV k/\kvs.length<sizeLine/\H'=eG H a (.dK (sK kvs k v))) \/
 ∃kvs k b,H a=some (.dT kvs)/\y=.ref b/\H b=some (.tup (k.map kV))/\kvs.length<sizeLine/\H'=eG H a (.dT (sK kvs k v))
theorem KI.k{kvs:List (jT×V)}{k:jT}{v:V}(e:H a=some (.dK kvs))(hl:kvs.length<sizeLine):KI H a (kV k) v (eG H a (.dK (sK kvs k v))):=.inl ⟨kvs,k,e,rfl,hl,rfl⟩
section
variable{y v:V}{r:Value}{o:Option V}
theorem bM.big(I:bM X ai σ H s):sysModules<s.heap.objs.size:=by
 have h:mainGlobals<s.heap.objs.size:=(I.mod.glob.keeps I.bk).lt
 exact Nat.lt_trans #[1] h
theorem UX(hu:A.units+1<cLine)(I:bM X ai σ H s)(g:zl H a y o)(ry:cW s.toks y u)(h:∀s',bM X ai σ H s'->Q (.bool o.isSome) s') :
  wpAny #[5] A (compareOp .In u (.ref a)) Q E s:=by
 rcases g with⟨kvs,k,e,ey,l⟩|⟨kvs,k,b,e,ey,eb,l⟩
 ·subst ey
  obtain⟨z,hd,vs,rel,dd⟩:=zk I.hok e
  refine wpAny_in_of (Di ry) hd dd.mapOf ?_
  rw[<- (rel.val k).isSome_eq,<- l]
  exact h _ (I.tok _)
 ·subst ey
  cases(show u=Value.ref b from ry)
  obtain⟨z,hd,xs,rel,dd⟩:=Dj I.hok e
  refine wpAny_in_heap (k9 hu) (xV I.hok eb) hd dd ?_
  have q:=(rel.val k).isSome_eq
  rw[Option.isSome_map]at q
  rw[<- q,<- l]
  exact h _ (I.tok _)
theorem Dk{ob:HO}(I:bM X ai σ H s)(mu:Q_ (H a))(hs:Heap.SameBut a s.heap h')(he:∃q,h'.get? a=some q)(new:eR X.prog X.w s.toks (eG H a ob) h' a ob)(hk:s.toks<=t':=by first|exact ay _|exact bB _|assumption|omega) :
  bM X ai σ (eG H a ob) { s with heap:=h',toks:=t' }:=
 I.write (x:=a) (e:=a) mu (.inl rfl) (fun b q hb z=>(hs.2 b hb).trans z) he (new.up hk)
theorem F8{w:World}{kvs:List (jT×V)}{vs:List (jT×Value)}(z:kvs.length<=sizeLine)(hd:(a==sysModules)=false)(rel:KV nk kvs vs)(dd:h'.DictOf (gk P w) a vs) :
  eR P w nk H' h' a (.dK kvs):=⟨z,hd,vs,rel,dd⟩
theorem EL{Q:Unit->Shared->Prop}(hu:A.units+1<cLine)(I:bM X ai σ H s)(g:KI H a y v H')(ry:cW s.toks y u)(rv:cW s.toks v r)(h:∀s',bM X ai σ H' s'->Q () s') :
  wpAny #[5] A (setItem (.ref a) u r) Q E s:=by
 rcases g with⟨kvs,k,e,ey,l,eH⟩|⟨kvs,k,b,e,ey,eb,l,eH⟩
 ·subst ey eH
  obtain⟨z,hd,vs,rel,dd⟩:=RQ I.hok e
  have hz:vs.length<=sizeLine:=by rw[<- rel.length];exact z
  have hl:(sK kvs k v).length<=sizeLine:=by have:=tJ kvs k v;omega
  refine wpAny_setItem_pairs (hsz:=hz) (Di ry) dd fun h' NB hs=>h _ ?_
  have he:∃q,h'.get? a=some q:=let ⟨q,_,_,hq,_⟩:=NB;⟨q,hq⟩
  exact Dk I (by rw[e];exact True.intro) hs he (F8 hl hd (rel.put k rv) NB)
 ·subst ey eH
  cases(show u=Value.ref b from ry)
  obtain⟨z,hd,xs,rel,dd⟩:=RR I.hok e
  have hz:xs.length<=sizeLine:=by rw[<- Paired.length rel];exact z
  have hl:(sK kvs k v).length<=sizeLine:=by have:=tJ kvs k v;omega
  refine wpAny_setItem_heap (hsz:=hz) (k9 hu) (xV I.hok eb) dd fun h' NB hs=>h _ ?_
  obtain⟨q,es,ep,hq,h2,h3,h4,_,h5⟩:=NB
  refine Dk I (by rw[e];exact True.intro) hs ⟨q,hq⟩ ⟨hl,hd,_,(rel.put k eb rv).keeps fun c ys ec=>?_,q,es,ep,hq,h2,h3,h4,h5⟩
  rw[c9 (Q9 ec e (fun z=>nomatch z))]
  exact ec
end
section
variable{kvs:List (jT×V)}{k:jT}
end
section
variable{i value:Expr}{VG:Pos}{td ty tv:TE}
end
theorem F9{w:World}(h:Heap)(hb:sysModules<h.objs.size):eR P w nk H (h.push { cls:=.type "dict",data:=.dict #[] }) h.objs.size (.dK []):=
 ⟨bU _,bz.mpr (Ne.symm (aY hb)),[],.nil,Heap.DictOf.new h⟩
def Oh:TE:=fun _ H Q=>∀p,H p=none->Q (.ref p) (eG H p (.dK []))
section
theorem F_:PE X (.Dict [] [] pos) Oh:=fun ai s σ H Q I h=>
 wpAny_Dict_empty ⟨.ref s.heap.objs.size,_,I.laid (a:=s.heap.objs.size) (o:=.dK []) (t':=s.toks) (fun _ _ q=>av _ q) (ay _) (F9 s.heap I.big),rfl,h _ (I.hok.fresh (ay _))⟩
end
structure M2(X:Cx)(o:Expr)(m:Str)(gH:Pos)(e f:Expr)(dD:Pos):Prop where
 base:attributeBase o m X.env (eval o X.env)=eval o X.env
 few:((backTo dD (starEach [e,f] X.env)).all (fun x=>!x.1)&&(backToKw dD (keywordEach [] X.env)).all (fun x=>x.1.isSome)
  && decide (([e,f]:List Expr).length+([]:List Keyword).length+(if ([]:List Keyword).isEmpty then 0 else 1)<30))=true
 line:(gH.endLine==dD.line)=true
 trees:backTo dD (starEach [e,f] X.env)=[(false,eval e X.env),(false,eval f X.env)]
def VO(H:Hp)(a:Addr):Prop:=(∃kvs,Rd H a (.dK kvs))\/∃kvs,Rd H a (.dT kvs)
theorem Oi(I:bM X ai σ H s)(d:VO H a) :
  s.TypeIs (.ref a) "dict"/\(∀b,Value.ref a=.ref b->∃ob,s.heap.get? b=some ob/\ob.dict=none)/\(a==sysModules)=false:=by
 rcases d with⟨kvs,e⟩|⟨kvs,e⟩
 ·obtain⟨_,hd,vs,_,dd⟩:=zk I.hok e
  refine⟨dd.typeIs,fun b q=>?_,hd⟩
  cases q
  obtain⟨ob,_,_,h1,h2,_⟩:=dd
  exact⟨ob,h1,h2.2.1⟩
 ·obtain⟨_,hd,xs,_,dd⟩:=Dj I.hok e
  refine⟨dd.typeIs,fun b q=>?_,hd⟩
  cases q
  obtain⟨ob,_,_,h1,h2,_⟩:=dd
  exact⟨ob,h1,h2.2.1⟩
section
variable{y d:V}{r:Value}{o:Option V}
theorem Oj(hu:A.units+1<cLine)(I:bM X ai σ H s)(g:zl H a y o)(ry:cW s.toks y u)(rd:cW s.toks d r)(h:∀w' s',bM X ai σ H s'->cW s'.toks (o.getD d) w'->Q w' s') :
  wpAny #[5] A (call (.builtin "dict.get") [.ref a,u,r]) Q E s:=by
 rcases g with⟨kvs,k,e,ey,l⟩|⟨kvs,k,b,e,ey,eb,l⟩
 ·subst ey
  obtain⟨z,hd,vs,rel,dd⟩:=zk I.hok e
  refine call_meetsIn PySem.F.slot_dict_get dd.typeIs PySem.F.entry_dict_get (PySem.F.args_dict_get_3 _ _ _) (meets_dict_get_default (gk X.prog X.w) a (Di ry) hd r) ⟨_,dd.mapOf,h _ _ (I.tok _) ?_⟩
  rw[l]
  exact((rel.val k).getD rd).up (mM _ _)
 ·subst ey
  cases(show u=Value.ref b from ry)
  obtain⟨z,hd,xs,rel,dd⟩:=Dj I.hok e
  refine call_meetsIn PySem.F.slot_dict_get dd.typeIs PySem.F.entry_dict_get (PySem.F.args_dict_get_3 _ _ _) (meetsH_dict_get_default (tupleKind (gk X.prog X.w)) a b hd r) ⟨k9 hu,k,xs,xV I.hok eb,dd,h _ _ (I.tok _) ?_⟩
  rw[l]
  exact((rel.val k).getD rd).up (mM _ _)
end
def Ol(td ty tx:TE):TE:=fun σ H Q=>td σ H fun x H1=>∃a,x=.ref a/\VO H1 a/\ty σ H1 fun y H2=>tx σ H2 fun z H3=>∃o,zl H3 a y o/\Q (o.getD z) H3
section
variable{f:Expr}{td ty tx:TE}
theorem F'(hu:X.A.units+1<cLine)(ho:PE X o td)(he:PE X e ty)(hf:PE X f tx)(m:M2 X o "get" gH e f dD):PE X (.Call (.Attribute o "get" gH) [e,f] [] dD) (Ol td ty tx):=by
 intro ai s σ H Q I h
 refine wpAny_Call_method m.base m.few m.line PySem.F.plainAttrs_dict PySem.F.slot_dict_get PySem.F.type_dict_get (jq (ho ai s σ H _ I h) fun u s1 kt1 zq=>?_)
 obtain⟨x,H1,I1,rx,a,ex,d,q1⟩:=zq
 subst ex
 obtain rfl:u=Value.ref a:=rx
 obtain⟨t1,t2,_⟩:=Oi I1 d
 refine⟨t1,t2,?_⟩
 rw[m.trees]
 refine gT rfl (ig (dJ (jq (he ai s1 σ H1 _ I1 q1) fun iv s2 kt2 ⟨y,H2,I2,ry,q2⟩=>
  dJ (jq (hf ai s2 σ H2 _ I2 q2) fun fv s3 kt3 ⟨z,H3,I3,rz,ov,g,q3⟩=>fX ?_))))
 exact Oj hu I3 g (ry.up kt3) rz fun w' s4 I4 tt=>⟨_,H3,I4,tt,q3⟩
end
section
variable{kvs:List (jT×V)}
end
section
variable{y:V}
end
end L2
namespace L2
open PySem PySem.Spec PyProof.Rows
section
end
section
variable{κ:Type}[DecidableEq κ]
end
end L2
set_option maxHeartbeats 4000000
namespace L2
open PySem PySem.Spec PyProof.Rows
theorem sL{t:Sem α}{Q Q':α->Shared->Prop}(h:wpAny M A t Q (fun _ _=>False) s)(hQ:∀a s',s.toks<=s'.toks->Q a s'->Q' a s'):wpAny M A t Q' E s:=
 up (iZ h (fun a s' q k=>hQ a s' k q) fun _ _ z=>z.elim)
abbrev dW(X:Cx)(nm:List Str)(scope:Scope)(cl:List (Str×Addr))(C:Addr)(s0:Shared)(H0:Hp)(fp:List Addr):Cx:=
 { X with N:=nm,s₀:=s0,H₀:=H0,env:=compEnvC scope cl C X.env,outer:=X.stack,stack:=X.stack,ex:=fp,fn:=fun _=>false,pn:=[],xe:=fun _ _=>False }
def Ga(X:Cx)(mU:List Expr)(t:TT):Prop:=
 ∀(ai:List (Addr×Obj)) (s:Shared) (σ:St) (H:Hp) (Q:Bool->Hp->Prop),bM X ai σ H s->t σ H Q ->
  wpAny #[5] X.A (forIn mU true fun c r=>if r=true then do let ok <- isTrue c X.env (eval c X.env);pure (ForInStep.yield ok)else pure (ForInStep.yield r)) (TP X ai σ Q) X.xe s
def UY:TT:=fun _ H Q=>Q true H
theorem KJ:Ga X [] UY:=fun _ _ _ H _ I h=>wpAny_tests_nil ⟨H,I,h⟩
theorem KL{c:Expr}{t:TT}(hc:PT X c t):Ga X [c] t:=fun ai s σ H Q I h=>wpAny_tests_one (hc ai s σ H Q I h)
def qd(cap:List (Option Nat))(σ:St):St:=cap.map fun o=>o.bind fun j=>(σ[j]?).join
def uR(cap:List (Option Nat))(wi:TI)(g:TG)(tc:TT)(te:TE):TE:=fun σ H Q=>wi σ H fun J H1=>∃W:Nat->Nat->List V->Hp->Prop,(∃m,W 0 m [] H1)/\∀i m ys H2,W i m ys H2 ->
 (J.stop i H2/\ys.length<=sizeLine/\∀p,H2 p=none->Q (.ref p) (eG H2 p (.lst ys))) \/
 (J.go i H2/\∀x H3,J.yld i H2 x H3->g x (qd cap σ) H3 fun σ2 H4=>tc σ2 H4 fun b H5=>if b=true then te σ2 H5 fun y H6=>ys.length<sizeLine/\∃m',m'<m/\W (i+1) m' (ys++[y]) H6 else ∃m',m'<m/\W (i+1) m' ys H5)
theorem Un.cellK{fs ex:List Addr}(u:Un fs ex H H' h h'){c:Addr}{v:Option Value}(x:h.IsCell c v)(n:H c=none)(he:c∉ex):h'.IsCell c v:=by
 obtain⟨o,ho,hd⟩:=x
 obtain⟨sl,q⟩:=u.any ho n he
 exact⟨_,q,hd⟩
structure uS(X:Cx)(scope:Scope)(cl:List (Str×Addr))(x:Str):Prop where
 vis:Ra X.env.scope x
 nl:X.env.scope.names.lookup x≠some .local
 cl:cl.lookup x=X.env.cells.lookup x
 kd:(relabel scope X.env).names.lookup x=some .cell\/(relabel scope X.env).names.lookup x=some .free
theorem l8:∀(names:List (Str×NameKind)) (n:Nat) (gg:List (Str×Addr)) {y:Str} {c:Addr},(y,c)∈cellsFrom n names gg->(y,NameKind.cell)∈names\/(y,c)∈gg
 |[],_,_,_,_,h=>.inr h
 |(x,k)::r,n,gg,y,c,h=>by
  have h:(y,c)∈(if k==.cell then cellsFrom (n+1) r ((x,n)::gg)else cellsFrom n r gg):=h
  split at h
  ·rename_i hk
   rcases l8 r _ _ h with q|q
   ·exact .inl (bi _ q)
   ·rcases a7.mp q with e|q
    ·cases e
     exact .inl (by rw[mL hk];exact bY)
    ·exact .inr q
  ·rcases l8 r _ _ h with q|q
   ·exact .inl (bi _ q)
   ·exact .inr q
theorem i6:∀{l:List (Str×β)} {x:Str} {b:β},l.lookup x=some b->(x,b)∈l
 |[],_,_,h=>by simp at h
 |(y,c)::r,x,b,h=>by
  rw[jH]at h
  cases hx:x==y with
  |true=>rw[hx]at h;have:=mL hx;subst this;cases h;exact bY
  |false=>rw[hx]at h;exact bi _ (i6 h)
theorem jL:∀(names:List (Str×NameKind)) (n:Nat) (gg:List (Str×Addr)),cellsFrom n names gg=cellsFrom n names []++gg
 |[],_,_=>rfl
 |(x,k)::r,n,gg=>by
  show(if k==.cell then cellsFrom (n+1) r ((x,n)::gg)else cellsFrom n r gg)=(if k==.cell then cellsFrom (n+1) r [(x,n)]else cellsFrom n r [])++gg
  split
  ·rw[jL r (n+1) ((x,n)::gg),jL r (n+1) [(x,n)],aM];rfl
  ·exact jL r n gg
abbrev fq(X:Cx)(nm:List Str)(scope:Scope)(cl:List (Str×Addr))(C:Addr)(s0:Shared)(H0:Hp)(fp:List Addr):Cx:=
 { dW X nm scope cl C s0 H0 fp with fn:=fun y=>scope.names.lookup y==some .cell }
theorem KM{M:Model}{A:Around}{E:Value->Shared->Prop}{globals:Addr}{env:Env}{Q:Env->Shared->Prop}
  (hQ:∀h':Heap,h'.Ns s.heap.objs.size (fun x=>([]:List (Str×Value)).reverse.lookup x)->(∀b o,s.heap.get? b=some o->h'.get? b=some o)->CellsOk h' #[17] (cellsFrom #[17] scope.names []) ->
   Q (newEnv scope s.heap.objs.size globals (cellsFrom #[17] scope.names []++cl) fL none .none (some env) builtinsNs) { s with heap:=h' }) :
  wpAny M A (newFunctionEnv scope globals cl [] fL none .none (some env)) Q E s:=by
 simp only[newFunctionEnv,Option.isSome_some,jP]
 refine ag (wpAny_alloc ?_)
 refine ag (wpAny_layCells _ (fun name kind cells=>by cases hkc:kind==NameKind.cell<;>simp[hkc]) _ _ _ _ ?_)
 have ok:=cellsFrom_ok scope.names (s.heap.push { cls:=.type "dict",data:=.dict #[] }) #[17] [] ⟨fun _ _ hm=>(nomatch hm),List.Pairwise.nil⟩ (by rw[cm];exact ay _)
 rw[cm]at ok
 rw[show({ s with heap:=s.heap.push { cls:=.type "dict",data:=.dict #[] } }:Shared).heap.objs.size=s.heap.objs.size+1 from cm ..,jL _ _ cl]
 exact ag (aA (aA (hQ _ ((Heap.Ns.new s.heap (.type "dict")).keeps (kc _ _)) (fun b o e=>kc _ _ b o (av _ e)) ok)))
section
variable{wi:TI}{g:TG}{tc:TT}
theorem xW{prog:Program}{w:World}{A:Around}{E:Value->Shared->Prop}{l:Addr}{u:Value}{Q:Value->Shared->Prop}
  (e:s.heap.get? l=some { cls:=.type "list",data:=.seq bT.toArray n }) (hz:bT.length<sizeLine)
  (h:∀(h':Heap) (n' tk:Nat),h'.get? l=some { cls:=.type "list",data:=.seq (bT++[u]).toArray n' }->(∀b o,b≠l->s.heap.get? b=some o->h'.get? b=some o)->Q .none { s with heap:=h',toks:=tk }) :
  wpAny #[9] A (call (.builtin "list.append") [.ref l,u]) Q E s:=by
 refine rj F.slot_list_append ⟨_,e,rfl⟩ F.entry_list_append (F.args_list_append_2 _ _) (PySem.list_append l bT.toArray n u (by rw[aZ];omega)) ⟨e,?_⟩
 have q:=PySem.IsL.update e (fun a=>a.push u)
 have q2:(s.heap.update l (Obj.mapSeq fun x=>x.push u)).get? l=some { cls:=.type "list",data:=.seq (bT++[u]).toArray (if ((bT.toArray.push u).size==bT.toArray.size)=true then n else n+1) }:=by
  rw[show(s.heap.update l (Obj.mapSeq fun x=>x.push u)).get? l=_ from q];simp
 exact h _ _ s.toks q2 fun b o hb ho=>(cP s.heap (Obj.mapSeq _) (Ne.symm hb)).trans ho
structure zm(X:Cx)(ai:List (Addr×Obj))(H:Hp)(s:Shared)(C:Addr)(m:Str->Option Value):Prop where
 ns:s.heap.Ns C m
 fr:H C=none
 nl:C≠X.env.locals
 nf:C∉X.fs
 hi:X.s₀.heap.objs.size<=C
 nc:∀x c,X.env.cells.lookup x=some c->c≠C
 np:∀p∈X.pn++ai,p.1≠C
theorem zm.off{m:Str->Option Value}(B:zm X ai H s C m)(I:bM X ai σ H s)(hs:Heap.SameBut C s.heap h'):bM X ai σ H { s with heap:=h' }:=I.turned (t':=s.toks) (it:=C) (fun b o hb e=>hs.extBut b o hb e) B.fr B.nl (.inr B.hi) B.nc B.np
theorem Gb{Ny:List (Addr×Obj)}{σ2:St}{H1:Hp}{s2:Shared}
  (uo:∀(i j:Nat),cap[i]?=some (some j)->∃x,nm[i]?=some x/\X.N[j]?=some x/\uS X scope cl x) (dU:cap.length=nm.length)
  (I2:bM X ai σ H1 s2) (T7:∀b∈fp,∀x c,X.env.cells.lookup x=some c->c≠b)
  (I:bM (fq X nm scope cl C s2 H1 fp) Ny σ2 H s):bM (fq X nm scope cl C s2 H1 fp) Ny (qd cap σ) H s:=by
 refine⟨I.ok,I.os,I.bare,I.base,?_,I.cell,I.free,I.freeC,I.pin,I.hok,by show(qd cap σ).length=nm.length;unfold qd;rw[az];exact dU,I.pos,I.tk⟩
 obtain⟨m,hn,_⟩:=I.loc
 refine⟨m,hn,fun i x v e1 e2 e3=>?_⟩
 unfold qd at e2
 rw[aG]at e2
 cases hc:cap[i]? with
 |none=>rw[hc]at e2;cases e2
 |some oj=>
  cases oj with
  |none=>rw[hc]at e2;cases e2
  |some j=>
   rw[hc]at e2
   have e2':(σ[j]?).join=some v:=by simpa using e2
   have e2:σ[j]?=some (some v):=by
    cases hs:σ[j]? with
    |none=>rw[hs]at e2';cases e2'
    |some ov=>rw[hs]at e2';simp at e2';rw[e2']
   obtain⟨x',f1,f2,k⟩:=uo i j hc
   have hx:x'=x:=by
    have z:nm[i]?=some x:=e1
    rw[f1]at z;exact bn z
   subst hx
   obtain⟨m2,_,Kf⟩:=I2.loc
   obtain⟨u,r,l⟩:=Kf j x' v f2 e2 k.vis
   refine⟨u,r.up I.tk,?_⟩
   rcases l with⟨kl,_⟩|⟨_,c,hcc,dI⟩
   ·exact absurd kl k.nl
   ·refine .inr ⟨k.kd,c,by rw[<- hcc];exact k.cl,?_⟩
    exact I.base.cellK dI (I2.freeC _ _ hcc) fun z=>T7 c z _ _ hcc rfl
theorem BR{Qk:VK}(jw:X.calm=true)(vW:closureFor scope X.env=pure cl)(vY:∀x c,cl.lookup x=some c->X.env.cells.lookup x=some c)
  (jx:scope.kind=.function) (re:∀x∈scope.names,x.2=.local->scope.names.lookup x.1=some .local) (WB:∀y∈scope.names,y.2=.cell->cl.lookup y.1=none)
  (CZ:∀x,scope.names.lookup x≠some .cell->#[13]->∃c,cl.lookup x=some c)
  (uo:∀(i j:Nat),cap[i]?=some (some j)->∃x,nm[i]?=some x/\X.N[j]?=some x/\uS X scope cl x/\(x,NameKind.cell)∉scope.names) (dU:cap.length=nm.length)
  (hi:PI X tg d3 wi) (hg:∀k C s0 H0 fp,PG (fq X nm scope (cellsFrom k scope.names []++cl) C s0 H0 fp) tg g) (ht:∀k C s0 H0 fp,Ga (fq X nm scope (cellsFrom k scope.names []++cl) C s0 H0 fp) mU tc)
  (he:∀k C s0 H0 fp,PE (fq X nm scope (cellsFrom k scope.names []++cl) C s0 H0 fp) rh te) (hs:∀x,foldedSetIterable d3 X.env x=pure x)
  (I:bM X ai σ H s) (h:uR cap wi g tc te σ H Qk) (ie:∀(s4:Shared) (C D:Addr) (m4:Str->Option Value) (Hn:Hp),bM X ai σ Hn s4->zm X ai Hn s4 C m4->Qk (.ref D) Hn->compPost #[5] X.A X.xe use Qv (.ref D) C (.ok .next) s4) :
  wpAny #[5] X.A (comprehension #[11] scope X.env (firstIterPos [⟨tg,d3,mU,0⟩] pos) (newList []) (firstAsync [⟨tg,d3,mU,0⟩]) (firstIter [⟨tg,d3,mU,0⟩] X.env) use) Qv X.xe s:=by
 refine wpAny_comprehension_free (use:=use) rfl hs vW jx re (BE (hi ai s σ H _ I h) fun v s1 h1=>BE h1 fun Vz s2 h2=>?_)
 obtain⟨it,fp,tn,J,H1,e,I2,T,cT,f2,W,⟨m0,w0⟩,turn⟩:=h2
 subst e
 have hfpn:∀b∈fp,b<s2.heap.objs.size:=fun b hb=>let ⟨o,ho,_⟩:=T.obj _ _ cT b hb;aP ho
 have hfpc:∀b∈fp,∀x c,X.env.cells.lookup x=some c->c≠b:=fun b hb=>(f2 b hb).2.2.2.2.1
 refine cD (KM (fun h₁ hns₁ hsb₁ cok=>?_))
 dsimp only at hns₁ hsb₁ cok ⊢
 generalize hH2:s2.heap.push { cls:=.type "list",dict:=none,data:=.seq ([]:List Value).toArray }=G2 at hns₁ hsb₁ cok ⊢
 have hC:G2.objs.size=s2.heap.objs.size+1:=by rw[<- hH2,cm]
 have hDC:s2.heap.objs.size≠G2.objs.size:=by rw[hC];exact aY (cM _)
 have old:∀b o,s2.heap.get? b=some o->h₁.get? b=some o:=fun b o e=>hsb₁ b o (hH2▸av _ e)
 have hacc:h₁.get? s2.heap.objs.size=some { cls:=.type "list",data:=.seq ([]:List Value).toArray }:=hsb₁ _ _ (hH2▸aO _ rfl)
 have both:∀y c,(cellsFrom (G2.objs.size+1) scope.names []++cl).lookup y=some c->(cellsFrom (G2.objs.size+1) scope.names []).lookup y=some c\/cl.lookup y=some c:=fun y c e=>by
  rw[i4]at e
  cases h:(cellsFrom (G2.objs.size+1) scope.names []).lookup y with
  |none=>rw[h]at e;exact .inr e
  |some b=>rw[h]at e;exact .inl e
 have ownhi:∀y c,(cellsFrom (G2.objs.size+1) scope.names []).lookup y=some c->h₁.IsCell c none/\G2.objs.size+1<=c:=fun y c e=>cok.empty y c (PySem.mem_of_lookup e)
 have cllow:∀y c,cl.lookup y=some c->c<s2.heap.objs.size:=fun y c e=>by obtain⟨v,hv⟩:=I2.cell y c (vY _ _ e);exact hv.lt
 have hcap0:=uo
 have uo:∀(i j:Nat),cap[i]?=some (some j)->∃x,nm[i]?=some x/\X.N[j]?=some x/\uS X scope (cellsFrom (G2.objs.size+1) scope.names []++cl) x:=fun i j e=>by
  obtain⟨x,q1,q2,k,q3⟩:=hcap0 i j e
  refine⟨x,q1,q2,k.vis,k.nl,?_,k.kd⟩
  rw[i4]
  cases h:(cellsFrom (G2.objs.size+1) scope.names []).lookup x with
  |none=>exact k.cl
  |some c=>
   rcases l8 _ _ _ (PySem.mem_of_lookup h)with z|z
   ·exact absurd z q3
   ·cases z
 have okB:#[4].Ok:=by
  refine⟨I2.ok.mod,jx,I2.ok.glob,I2.ok.blt,by show s2.heap.objs.size<=G2.objs.size;omega,fun x y c h1 h2=>?_,fun x hx=>?_,fun x c h0 hc=>?_,fun hc=>I2.ok.hd jw,I2.ok.frames,.inl rfl,?_,?_,?_,?_,?_,?_,?_⟩
  ·rcases both x c h1 with q1|q1<;>rcases both y c h2 with q2|q2
   ·exact name_of_addr cok.apart (PySem.mem_of_lookup q1) (PySem.mem_of_lookup q2)
   ·exact absurd (cllow y c q2) (i5.mpr (aH #[0] (ownhi x c q1).2))
   ·exact absurd (cllow x c q1) (i5.mpr (aH #[0] (ownhi y c q2).2))
   ·exact I2.ok.inj x y c (vY _ _ q1) (vY _ _ q2)
  ·show ∃c,(cellsFrom (G2.objs.size+1) scope.names []++cl).lookup x=some c
   rw[i4]
   by_cases hq:scope.names.lookup x=some .cell
   ·obtain⟨c,e⟩:=my (n:=G2.objs.size+1) hq
    exact⟨c,by rw[e];rfl⟩
   ·obtain⟨c,e⟩:=CZ x hq hx
    cases h:(cellsFrom (G2.objs.size+1) scope.names []).lookup x with
    |none=>exact⟨c,e⟩
    |some b=>exact⟨b,rfl⟩
  ·have hq:scope.names.lookup x=some .cell:=by simpa using h0
   obtain⟨b,e⟩:=my (n:=G2.objs.size+1) hq
   have hc:(cellsFrom (G2.objs.size+1) scope.names []++cl).lookup x=some c:=hc
   rw[i4,e]at hc
   cases hc
   have:=(ownhi x _ e).2
   show s2.heap.objs.size<=_
   omega
  ·intro b hb
   exact⟨aY (aS (hfpn b hb) (by show _<=G2.objs.size;omega)),fun x c hx=>(both x c hx).elim (fun q=>eP (aS (hfpn b hb) (aH #[0] (ownhi x c q).2))) fun q=>hfpc b hb x c (vY _ _ q)⟩
  ·exact fun b o hb=>I2.bs b o hb
  ·exact aH I2.ok.bsz I2.sz
  ·intro b o hb z
   rcases(f2 b z).2.2.2.1 with q|q
   ·exact I2.ok.noex b o hb q
   ·exact absurd (aP (I2.ok.bs b o hb).1) (i5.mpr q)
  ·intro b hb z
   rcases a7.mp (I2.stkSub b z)with q|q
   ·exact(f2 b hb).2.1 q
   ·exact(f2 b hb).2.2.1 q
  ·exact I2.stack
  ·exact I2.stkFree
 have I4:bM #[4] [] (qd cap σ) H1 { s2 with heap:=h₁ }:=by
  refine Gb uo dU I2 hfpc (σ2:=List.replicate nm.length none) ⟨okB,rfl,I2.bare,Un.kept old,⟨_,hns₁,fun i x v _ e2=>?_⟩,fun x c hx=>?_,?_,fun x c hx=>(both x c hx).elim (fun q=>I2.hok.fresh (by have:=(ownhi x c q).2;omega)) fun q=>I2.freeC x c (vY _ _ q),fun p hp=>absurd hp #[18],I2.hok.kept old,by simp,I2.pos,ay _⟩
  ·rw[i9]at e2;split at e2<;>cases e2
  ·rcases both x c hx with q|q
   ·exact⟨none,(ownhi x c q).1⟩
   ·obtain⟨v,hv⟩:=I2.cell x c (vY _ _ q)
    exact⟨v,hv.keeps old⟩
  ·exact I2.hok.fresh (by show _<=G2.objs.size;omega)
 have hsz0:∀{Hx:Hp} {sx:Shared} {px:List (Addr×Obj)} {σx:St},bM #[4] px σx Hx sx->Hx s2.heap.objs.size=none->∀{oa:Obj},sx.heap.get? s2.heap.objs.size=some oa->(∀v,oa.data≠.cell v) ->
   bM #[4] [(s2.heap.objs.size,oa)] σx Hx sx:=fun{Hx sx px σx} Ix hn {oa} ho hd=>Ix.pins_of fun p hp=>by
  have e:p=(s2.heap.objs.size,oa):=by simpa using hp
  subst e
  exact⟨ho,hn,hDC,fun z=>by
   obtain⟨_,o,q,_⟩:=I2.stack.mem z
   exact absurd (aP q) (dh _),hd⟩
 have hfpB:∀{Hx:Hp} {oa:Obj},(∀b∈fp,Hx b=none)->∀b∈fp,uO #[4] [(s2.heap.objs.size,oa)] Hx b:=fun{Hx oa} hn b hb=>
  ⟨hn b hb,(okB.exf b hb).1,okB.exfs b hb,.inl hb,(okB.exf b hb).2,fun p hp=>by
   have e:p=(s2.heap.objs.size,oa):=by simpa using hp
   subst e
   exact eP (hfpn b hb)⟩
 have hcalmB:#[4].calm=true:=jw
 have loop:∀sx:Shared,sx={ s2 with heap:=h₁ } ->
   codeAny #[5] X.A (.compLoop #[11] 0 (.ref it) (.ref s2.heap.objs.size) (compEnvC scope (cellsFrom (G2.objs.size+1) scope.names []++cl) G2.objs.size X.env))
    (compPost #[5] X.A X.xe use Qv (.ref s2.heap.objs.size) G2.objs.size) sx:=by
  rintro sx rfl
  refine codeAny_loop rfl (fun n s'=>∃i ys H',bM #[4] [] (qd cap σ) H' s'/\tn i s'.heap/\(∀b∈fp,H' b=none)/\H' s2.heap.objs.size=none /\
   (∃bT k,cR s'.toks ys bT/\s'.heap.get? s2.heap.objs.size=some { cls:=.type "list",data:=.seq bT.toArray k })/\W i n ys H') ?_ m0
   ⟨0,[],H1,I4,T.keep _ _ _ cT (fun b _ o e=>old b o e),fun b hb=>(f2 b hb).1,I2.fresh,⟨[],0,.nil,hacc⟩,w0⟩
  rintro n s3 ⟨i,ys,H3,I3,j_,fr3,na3,⟨bT,ka,rv,ea⟩,w3⟩
  show wpAny _ X.A ((compTurn #[11] 0 (.ref it) (.ref s2.heap.objs.size) (compEnvC scope (cellsFrom (G2.objs.size+1) scope.names []++cl) G2.objs.size X.env)).onRaise (fun x=>do noteFrame x (compEnvC scope (cellsFrom (G2.objs.size+1) scope.names []++cl) G2.objs.size X.env);theTreesLotGoes x)) _ _ s3
  refine wpAny_noted ?_
  rw[compTurn_list]
  refine ag (qx ?_)
  have I3p:=hsz0 I3 na3 ea (fun v z=>by cases z)
  rcases turn i n ys H3 w3 with⟨stop,hz,qn⟩|⟨go,step⟩
  ·refine ag (sL (T.done #[4] rfl rfl rfl hcalmB i _ s3 _ H3 (fun _ _=>False) I3p (hfpB fr3) j_ stop) (fun r s4 kt4 hr=>?_))
   obtain⟨hr,I4'⟩:=hr
   subst hr
   refine aA ?_
   obtain⟨m4,hn4,_⟩:=id I4'.loc
   have pa:=I4'.pin (s2.heap.objs.size,{ cls:=.type "list",data:=.seq bT.toArray ka }) #[18]
   have ne:∀b o,s2.heap.get? b=some o->b≠s2.heap.objs.size/\b≠G2.objs.size:=fun b o e=>⟨aY (aP e),aY (by rw[hC];exact cX (aP e))⟩
   have I5:bM X ai σ (eG H3 s2.heap.objs.size (.lst ys)) s4:=by
    refine I2.call' (ch:=fp) I4'.os ⟨fun b o e n hb hx=>?_,fun b o e n hb hx=>?_,fun b o e n hx=>?_,fun b o e hx=>?_,fun b xs e=>?_,fun b o u e=>?_,fun b ps e=>?_⟩ ?_ I4'.bare (fun b hb=>?_) I4'.tk
    ·exact I4'.base.keep b o e n hb hx
    ·exact I4'.base.slot b o e n hb hx
    ·rw[c9 (ne b o e).1];exact I4'.base.free b o e n hx
    ·exact I4'.base.there b o e hx
    ·have q:=I4'.base.tups b xs e
     rw[c9 (fF q na3)];exact q
    ·have q:=I4'.base.frzs b o u e
     rw[c9 (fF q na3)];exact q
    ·obtain⟨mr,q⟩:=I4'.base.tbls b ps e
     exact⟨mr,by rw[c9 (fF q na3)];exact q⟩
    ·intro b o e
     by_cases hb:b=s2.heap.objs.size
     ·subst hb
      rw[gU]at e;cases e
      exact⟨hz,bT,ka,rv.up kt4,pa.1⟩
     ·rw[c9 hb]at e
      exact(I4'.hok b o e).stay (fun c u hc q=>q) (fun c q=>by rw[c9 (fF q na3)];exact q) fun c xs q=>by rw[c9 (fF q na3)];exact q
    ·obtain⟨_,g1,_,g3,g4,g5⟩:=f2 b hb
     exact⟨g3,g1,g4,g5⟩
   have lC:s2.heap.objs.size<=G2.objs.size:=by rw[hC];exact bB _
   exact ie s4 G2.objs.size _ m4 _ I5 ⟨hn4,by rw[c9 (Ne.symm hDC)];exact I4'.free,eP (aS I2.lt lC),I2.nofs lC,aH I2.sz lC,fun x c hx z=>(by
    obtain⟨v,o,ho,_⟩:=I2.cell x c hx
    exact absurd (aP ho) (by rw[z];exact i5.mpr lC)),fun p hp z=>(by
    have:=(I2.pin p hp).1
    exact absurd (aP this) (by rw[z];exact i5.mpr lC))⟩ (qn _ na3)
  ·refine ag (sL (T.item #[4] rfl rfl rfl hcalmB i _ s3 _ H3 (fun _ _=>False) I3p (hfpB fr3) j_ go) (fun r s4 kt4 hr=>?_))
   obtain⟨u,hr,h4⟩:=hr
   subst hr
   dsimp only
   refine ag (sL h4 (fun _ s5 kt5 h5=>?_))
   obtain⟨x,H5,I5,r5,y5,JC,fr5⟩:=h5
   have I5':=I5.pinned (hfpB fr5) (T.obj _ _ JC)
   refine ag (sL (hg _ _ _ _ _ _ s5 _ H5 x u _ I5' r5 (step x H5 y5)) (fun _ s6 kt6 h6=>?_))
   obtain⟨σ6,H6,I6,q6⟩:=h6
   refine ag (sL (ht _ _ _ _ _ _ s6 σ6 H6 _ I6 q6) (fun ok s7 kt7 h7=>?_))
   obtain⟨H7,I7,q7⟩:=h7
   have back:∀{H8:Hp} {s8:Shared} {Ue:List V} {its':List Value} {k':Nat},bM #[4] [] σ6 H8 s8->(∀b∈fp,∀o,s5.heap.get? b=some o->s8.heap.get? b=some o)->(∀b∈fp,H8 b=none)->H8 s2.heap.objs.size=none ->
     cR s8.toks Ue its'->s8.heap.get? s2.heap.objs.size=some { cls:=.type "list",data:=.seq its'.toArray k' }->(∃m',m'<n/\W (i+1) m' Ue H8) ->
     ∃m,m<n/\∃i ys H',bM #[4] [] (qd cap σ) H' s8/\tn i s8.heap/\(∀b∈fp,H' b=none)/\H' s2.heap.objs.size=none /\
      (∃bT k,cR s8.toks ys bT/\s8.heap.get? s2.heap.objs.size=some { cls:=.type "list",data:=.seq bT.toArray k })/\W i m ys H':=
    fun{H8 s8 Ue its' k'} I8 kf f8 n8 rv8 e8 ⟨m',hm,w8⟩=>⟨m',hm,i+1,Ue,H8,Gb uo dU I2 hfpc I8,T.keep _ _ _ JC kf,f8,n8,⟨its',k',rv8,e8⟩,w8⟩
   cases ok with
   |false=>
    refine aA ⟨rfl,?_⟩
    have q7':∃m',m'<n/\W (i+1) m' ys H7:=by simpa using q7
    have pa:=I7.pin (s2.heap.objs.size,{ cls:=.type "list",data:=.seq bT.toArray ka }) #[18]
    refine back (I7.pins_of fun p hp=>absurd hp #[18]) (fun b hb o e=>?_) (fun b hb=>?_) pa.2.1 (rv.up #[0]) pa.1 q7'
    ·exact(I7.pin (b,o) (bf _ (bf _ (jA hb e)))).1
    ·obtain⟨o,e,d⟩:=T.obj _ _ JC b hb
     exact(I7.pin (b,o) (bf _ (bf _ (jA hb e)))).2.1
   |true=>
    rw[aC rfl]at q7
    refine ag (ag (sL (he _ _ _ _ _ _ s7 σ6 H7 _ I7 q7) (fun xv s8 kt8 h8=>?_)))
    obtain⟨y,H8,I8,r8,hzy,q8⟩:=h8
    have pa:=I8.pin (s2.heap.objs.size,{ cls:=.type "list",data:=.seq bT.toArray ka }) #[18]
    refine ag (up (xW pa.1 (by rw[<- rv.length];exact hzy) fun h' k' tk e9 sb hk=>?_))
    refine aA (aA ⟨rfl,?_⟩)
    have I9:bM #[4] [] σ6 H8 { s8 with heap:=h',toks:=tk }:=
     (bM.pins_of (pins':=[]) I8 fun p hp=>absurd hp #[18]).turned (it:=s2.heap.objs.size) (fun b o hb e=>sb b o hb e) pa.2.1 hDC (.inr (ay _)) (fun x c hx z=>by
      rcases both x c hx with q|q
      ·exact i5.mpr (ownhi x c q).2 (by rw[z];omega)
      ·exact dh _ (by have:=cllow x c q;rw[z]at this;exact this)) (fun p hp=>absurd hp #[18])
    refine back I9 (fun b hb o e=>?_) (fun b hb=>?_) pa.2.1 ((rv.up #[0]).append (.cons (r8.up hk) .nil)) e9 q8
    ·exact sb b o (aY (hfpn b hb)) (I8.pin (b,o) (bf _ (bf _ (jA hb e)))).1
    ·obtain⟨o,e,d⟩:=T.obj _ _ JC b hb
     exact(I8.pin (b,o) (bf _ (bf _ (jA hb e)))).2.1
 exact codeAny_compStart_list (loop _ rfl) (T.self _ _ _ _ _ (T.keep _ _ _ cT fun b _ o e=>old b o e) (loop _ rfl))
theorem rC:∀(names:List (Str×NameKind)) (n:Nat),(∀y∈names,y.2≠.cell)->cellsFrom n names []=[]
 |[],_,_=>rfl
 |(x,k)::r,n,h=>by
  show(if k==.cell then cellsFrom (n+1) r [(x,n)]else cellsFrom n r [])=[]
  rw[aJ (by have:=h (x,k) #[18];simpa using this)]
  exact rC r n fun y hy=>h y (by simp[hy])
theorem wF{Qk:VK}(jw:X.calm=true)(vW:closureFor scope X.env=pure cl)(vY:∀x c,cl.lookup x=some c->X.env.cells.lookup x=some c)
  (jx:scope.kind=.function) (re:∀x∈scope.names,x.2=.local->scope.names.lookup x.1=some .local) (dI:∀y∈scope.names,y.2≠.cell)
  (CZ:∀x,#[13]->∃c,cl.lookup x=some c)
  (uo:∀(i j:Nat),cap[i]?=some (some j)->∃x,nm[i]?=some x/\X.N[j]?=some x/\uS X scope cl x) (dU:cap.length=nm.length)
  (hi:PI X tg d3 wi) (hg:∀C s0 H0 fp,PG #[8] tg g) (ht:∀C s0 H0 fp,Ga #[8] mU tc)
  (he:∀C s0 H0 fp,PE #[8] rh te) (hs:∀x,foldedSetIterable d3 X.env x=pure x)
  (I:bM X ai σ H s) (h:uR cap wi g tc te σ H Qk) (ie:∀(s4:Shared) (C D:Addr) (m4:Str->Option Value) (Hn:Hp),bM X ai σ Hn s4->zm X ai Hn s4 C m4->Qk (.ref D) Hn->compPost #[5] X.A X.xe use Qv (.ref D) C (.ok .next) s4) :
  wpAny #[5] X.A (comprehension #[11] scope X.env (firstIterPos [⟨tg,d3,mU,0⟩] pos) (newList []) (firstAsync [⟨tg,d3,mU,0⟩]) (firstIter [⟨tg,d3,mU,0⟩] X.env) use) Qv X.xe s:=by
 have nc:∀k,cellsFrom k scope.names []++cl=cl:=fun k=>by rw[rC _ _ dI];rfl
 have nx:∀C s0 H0 fp,fq X nm scope cl C s0 H0 fp=dW X nm scope cl C s0 H0 fp:=fun C s0 H0 fp=>by
  have:(fun y=>scope.names.lookup y==some .cell)=fun _=>false:=funext fun y=>by
   rw[bz]
   exact fun e=>dI _ (i6 e) rfl
  unfold fq dW
  rw[this]
 exact BR jw vW vY jx re (fun y hy h=>absurd h (dI y hy)) (fun x _ h=>CZ x h) (fun i j h=>let ⟨x,a,b,d⟩:=uo i j h;⟨x,a,b,d,fun z=>dI _ z rfl⟩) dU hi
  (fun k C s0 H0 fp=>by rw[nc,nx];exact hg C s0 H0 fp) (fun k C s0 H0 fp=>by rw[nc,nx];exact ht C s0 H0 fp) (fun k C s0 H0 fp=>by rw[nc,nx];exact he C s0 H0 fp) hs I h ie
theorem KN(jw:X.calm=true)(vW:closureFor scope X.env=pure cl)(vY:∀x c,cl.lookup x=some c->X.env.cells.lookup x=some c)
  (jx:scope.kind=.function) (re:∀x∈scope.names,x.2=.local->scope.names.lookup x.1=some .local) (dI:∀y∈scope.names,y.2≠.cell)
  (CZ:∀x,#[13]->∃c,cl.lookup x=some c)
  (uo:∀(i j:Nat),cap[i]?=some (some j)->∃x,nm[i]?=some x/\X.N[j]?=some x/\uS X scope cl x) (dU:cap.length=nm.length)
  (hi:PI X tg d3 wi) (hg:∀C s0 H0 fp,PG #[8] tg g) (ht:∀C s0 H0 fp,Ga #[8] mU tc)
  (he:∀C s0 H0 fp,PE #[8] rh te) (hs:∀x,foldedSetIterable d3 X.env x=pure x:=by intro _;rfl) :
  PE X #[11] (uR cap wi g tc te):=by
 intro ai s σ H Q I h
 rw[eval_ListComp]
 exact wF jw vW vY jx re dI CZ uo dU hi hg ht he hs I h fun s4 C D m4 Hn I4 B q=>⟨m4,B.ns,fun h' hs'=>⟨.ref D,Hn,B.off I4 hs',rfl,q⟩⟩
end
end L2
namespace L2
open PySem PySem.Spec PyProof.Rows
def tx(l:List Nat):Str:=⟨l.toArray⟩
theorem Om(l:List Nat):(tx l).cps.toList=l:=rfl
theorem RT(z:Str):tx z.cps.toList=z:=by cases z;rfl
theorem iV(l:List Nat):(tx l).length=l.length:=by show l.toArray.size=_;simp
theorem BS(a b:List Nat):tx a++tx b=tx (a++b):=by
 show(⟨a.toArray++b.toArray⟩:Str)=⟨(a++b).toArray⟩
 simp
theorem xX{a b:List Nat}:tx a=tx b↔a=b:=⟨fun h=>by have:=iJ (fun z:Str=>z.cps.toList) h;exact this,fun h=>by rw[h]⟩
def RU(nq:List V):It:=⟨fun i _=>i<nq.length,fun i H x H'=>H'=H/\nq[i]?=some x,fun i _=>nq.length<=i⟩
theorem BU{w:World}{nq:List V}{Pr:Nat->Value->Prop}{S:Nat->Heap->Prop}{ty:String}
  (W:∀A:Around,A.handled=none->Walks P w A it [it] [it] nq.length Pr S) (hv:∀i v,i<nq.length->Pr i v->∃x,nq[i]?=some x/\cW 0 x v)
  (JQ:∀i h,S i h->∃o vs,h.get? it=some o/\o.cls=.type ty/\o.data=.fields vs)
  (Bu:["enumerate","zip","dict_itemiterator","dict_reverseitemiterator","odict_iterator","itertools.zip_longest","itertools.pairwise"].contains ty=false)
  (JW:∀(A:Around) (i:Nat) (s:Shared) (Q:Value->Shared->Prop) (E:Value->Shared->Prop),S i s.heap->Q (.ref it) s->wpAny (model P w) A (pyIter (.ref it)) Q E s) :
  BF P w K tg (RU nq) [it] it (fun i h=>i<=nq.length/\S i h) where
 mem:=by simp
 obj:=fun i h st b hb=>by
  have e:b=it:=by simpa using hb
  subst e
  obtain⟨o,vs,e,c,d⟩:=JQ i h st.2
  exact⟨o,e,fun v z=>by rw[d]at z;cases z⟩
 keep:=fun i h h' st k=>⟨st.1,(W { depth:=0,handled:=none,frames:=none } rfl).frame i h h' st.2 k⟩
 item:=by
  walk_at "4"
  subst hP hw hK
  walk_at "5"
  refine up ((W X.A (I.ok.hd hc)).item i s _ _ hg st.2 fun v h' tk hp bF kk hk=>?_)
  have I1:bM X ai σ H { s with heap:=h',toks:=tk }:=I.turned (fun b o hb e=>kk b o (by simpa using hb) e) f0 f1 f3 f4 f5
  obtain⟨x,hx,rx⟩:=hv i v hg hp
  obtain⟨o,vs,e,c,d⟩:=JQ _ _ bF
  exact⟨v,rfl,zg (s:={ s with heap:=h',toks:=tk }) e c d Bu ⟨x,H,I1,rx.up (bU _),⟨rfl,hx⟩,⟨hg,bF⟩,fun b hb=>(hf b hb).1⟩⟩
 done:=by
  walk_at "4"
  subst hP hw hK
  walk_at "5"
  have e:i=nq.length:=Nat.le_antisymm st.1 hg
  refine up ((W X.A (I.ok.hd hc)).done s _ _ (e▸st.2) fun h' tk kk hk=>⟨rfl,I.turned (fun b o hb e=>kk b o (by simpa using hb) e) f0 f1 f3 f4 f5⟩)
 self:=fun A i s Q E st h=>JW A i s Q E st.2 h
section
def jb(l:List Nat):List V:=l.map fun c=>.str (tx [c])
def UZ(tl:TE):TI:=fun σ H R=>tl σ H fun x H1=>∃l,x=.str (tx l)/\R (RU (jb l)) H1
theorem uT{w:World}{K:Frag}{tg:Expr}{l:List Nat}{t:Tok}{ty:String}(Bu:["enumerate","zip","dict_itemiterator","dict_reverseitemiterator","odict_iterator","itertools.zip_longest","itertools.pairwise"].contains ty=false)
  (next:∀{A:Around} {s:Shared} {i c:Nat} {Q:Option Value->Shared->Prop} {E:Value->Shared->Prop},s.heap.IsStrIter it ty (tx l) t i->(tx l).cps[i]?=some c ->
   (∀h',h'.IsStrIter it ty (tx l) t (i+1)->Heap.SameBut it s.heap h'->Q (some (.str ⟨#[c]⟩ s.toks)) { s with heap:=h',toks:=s.toks+1 })->wpAny (model P w) A (pyNext (.ref it)) Q E s)
  (stop:∀{A:Around} {s:Shared} {i:Nat} {Q:Option Value->Shared->Prop} {E:Value->Shared->Prop},A.handled=none->s.heap.IsStrIter it ty (tx l) t i->(tx l).cps[i]?=none ->
   (∀h',Heap.ExtBut it s.heap h'->Q none { s with heap:=h' })->wpAny (model P w) A (pyNext (.ref it)) Q E s)
  (JW:∀(A:Around) (i:Nat) (s:Shared) (Q:Value->Shared->Prop) (E:Value->Shared->Prop),s.heap.IsStrIter it ty (tx l) t i->Q (.ref it) s->wpAny (model P w) A (pyIter (.ref it)) Q E s) :
  BF P w K tg (RU (jb l)) [it] it (fun i h=>h.IsStrIter it ty (tx l) t i) where
 mem:=by simp
 obj:=fun i h st b hb=>by
  have e:b=it:=by simpa using hb
  subst e
  obtain⟨o,e,_,d⟩:=st
  exact⟨o,e,fun v z=>by rw[d]at z;cases z⟩
 keep:=fun i h h' st k=>by
  obtain⟨o,e,r⟩:=st
  exact⟨o,k it #[18] o e,r⟩
 item:=by
  walk_at "4"
  subst hP hw hK
  walk_at "5"
  have hg:i<l.length:=by have hg:i<(jb l).length:=hg;simpa[jb]using hg
  obtain⟨c,hx⟩:∃c,l[i]?=some c:=⟨_,aq hg⟩
  refine next st (c:=c) (by simpa[tx]using hx) fun h' bF hs=>?_
  have I1:bM X ai σ H { s with heap:=h',toks:=s.toks+1 }:=I.turned (fun b o hb e=>hs.extBut b o hb e) f0 f1 f3 f4 f5
  obtain⟨o,e,cl,d⟩:=id bF
  exact⟨_,rfl,zg (s:={ s with heap:=h',toks:=s.toks+1 }) e cl d Bu ⟨.str (tx [c]),H,I1,I.tkS,⟨rfl,by unfold jb;rw[aG,hx];rfl⟩,bF,fun b hb=>(hf b hb).1⟩⟩
 done:=by
  walk_at "4"
  subst hP hw hK
  walk_at "5"
  have hg:l.length<=i:=by have hg:(jb l).length<=i:=hg;simpa[jb]using hg
  exact stop (I.ok.hd hc) st (by simpa[tx]using hg) fun h' hs=>⟨rfl,I.turned (t':=s.toks) (fun b o hb e=>hs b o hb e) f0 f1 f3 f4 f5⟩
 self:=fun A i s Q E st h=>JW A i s Q E st h
theorem On{l:Expr}{tl:TE}(hl:PE X l tl):PI X tg l (UZ tl):=by
 intro ai s σ H R I h
 refine jq (hl ai s σ H _ I h) fun v s1 kt1 zq=>?_
 obtain⟨x,H1,I1,r1,q1⟩:=zq
 obtain⟨l,e,q⟩:=q1
 subst e
 obtain⟨t,rfl⟩:=r1
 have fp:∀b∈[s1.heap.objs.size],uO X ai H1 b:=fun b hb=>by
  have e:b=s1.heap.objs.size:=by simpa using hb
  subst e
  exact I1.fpOk (ay _) (I1.hok.fresh (ay _))
 cases ha:(tx l).cps.all (· < 128)
 ·exact lW ha ⟨s1.heap.objs.size,[s1.heap.objs.size],_,_,H1,rfl,I1.kept (t':=s1.toks) fun b o e=>av _ e,uT (l:=l) (t:=t.1) (ty:="str_iterator") #[1] (fun a b c=>jl a b c) (fun hh a b c=>wpAny_pyNext_wide_end hh a b c) (fun A i s Q E st h=>wpAny_pyIter_striter_wide st h),⟨_,aO _ rfl,rfl,rfl⟩,fp,q⟩
 ·exact k_ ha ⟨s1.heap.objs.size,[s1.heap.objs.size],_,_,H1,rfl,I1.kept (t':=s1.toks) fun b o e=>av _ e,uT (l:=l) (t:=t.1) (ty:="str_ascii_iterator") #[1] (fun a b c=>i_ a b c) (fun hh a b c=>wpAny_pyNext_ascii_end hh a b c) (fun A i s Q E st h=>wpAny_pyIter_striter_ascii st h),⟨_,aO _ rfl,rfl,rfl⟩,fp,q⟩
def BV(l:List Nat)(lo hi:Option Int):List Nat:=(l.drop (HT.sIx l.length 0 lo)).take (HT.sIx l.length l.length hi-HT.sIx l.length 0 lo)
theorem zn(l:List Nat)(lo hi:Option Int):(BV l lo hi).length<=l.length:=by unfold BV;rw[bE,im];omega
theorem BW(l:List Nat)(i k:Nat):((List.range k).map fun(m:Nat)=>i+m).filterMap (fun j=>l[j]?)=(l.drop i).take k:=by
 induction k generalizing i with
 |zero=>simp
 |succ k ih=>
  rw[ny,aW,bp]
  have e:((fun m=>i+m)∘Nat.succ)=fun m=>(i+1)+m:=by funext m;simp[Function.comp];omega
  rw[e]
  by_cases h:i<l.length
  ·rw[gm]
   simp only[sy,aq h]
   rw[ih (i+1),ip h,List.take_succ_cons]
  ·rw[gm]
   have h':l.length<=i:=by omega
   simp only[sy,bq h']
   rw[ih (i+1),nz h',nz #[0]]
   simp
theorem Ml(v:Int)(n d:Nat):(if (1:Int)>0 then max 0 (min (if v<0 then v+(n:Int)else v) (n:Int))else max (-1) (min (if v<0 then v+(n:Int)else v) ((n:Int)-1)))=((HT.sIx n d (some v):Nat):Int):=by
 rw[aC #[0]]
 show _=(((if v<0 then(v+(n:Int)).toNat else min v.toNat n):Nat):Int)
 by_cases hv:v<0
 ·simp only[aC hv];omega
 ·simp only[aJ hv];omega
theorem Oo(lo hi:Option Int)(n:Nat):Builtin.Str.strSliceIndices lo hi 1 n=(List.range (HT.sIx n n hi-HT.sIx n 0 lo)).map fun(m:Nat)=>HT.sIx n 0 lo+m:=by
 have key:∀a b:Nat,sliceRange (a:Int) (b:Int) 1=(List.range (b-a)).map fun(m:Nat)=>a+m:=fun a b=>by
  unfold sliceRange
  have e:(if (1:Int)>0 then(if (a:Int)<(b:Int)then((b:Int)-a+1-1)/1 else 0)else(if (a:Int)>b then((a:Int)-b-1-1)/(-1)else 0)).toNat=b-a:=by
   rw[aC #[0]]
   by_cases h:(a:Int)<b
   ·rw[aC h];omega
   ·rw[aJ h];omega
  dsimp only
  rw[e]
  refine d9 fun k _=>?_
  omega
 unfold Builtin.Str.strSliceIndices
 rw[<- key]
 dsimp only
 congr 1
 ·cases lo with
  |none=>rfl
  |some v=>exact Ml v n 0
 ·cases hi with
  |none=>rfl
  |some v=>exact Ml v n n
theorem Gd(l:List Nat)(lo hi:Option Int):Txt.slice (tx l) lo hi=tx (BV l lo hi):=by
 unfold Txt.slice
 rw[Oo,iV]
 split
 ·rename_i h
  simp only[beq_self_eq_true,jQ,dL,az,cE]at h
  unfold BV
  have h1:=HT.sIx_le l.length l.length (ay _) hi
  have h2:=HT.sIx_le l.length 0 (bU _) lo
  by_cases hz:l.length=0
  ·have:l=[]:=gM hz
   subst this;simp
  ·have e0:HT.sIx l.length 0 lo=0:=by omega
   rw[e0,List.drop_zero,dv #[0]]
 ·unfold BV tx
  have:∀j:Nat,(l.toArray)[j]?=l[j]?:=fun j=>by simp
  simp only[this]
  rw[BW]
def U0:V->Option Int->Option Int->Hp->VK->Prop:=fun x lo hi H Q=>∃l,x=.str (tx l)/\l.length<=sizeLine/\Q (.str (tx (BV l lo hi))) H
theorem Dl{o:Option Int}(p:IsPart v o):∃q:Option (Int×Tok),v=partValue q/\q.map (·.1)=o:=by
 cases p with
 |none=>exact⟨none,rfl,rfl⟩
 |int i t=>exact⟨some (i,t),rfl,rfl⟩
theorem Op:RH X U0:=by
 intro ai s σ H x v vl vu lo hi sl Q I rx hs pl pu h
 obtain⟨l,e,hz,q⟩:=h
 subst e
 obtain⟨t,rfl⟩:=rx
 obtain⟨pl',rfl,rfl⟩:=Dl pl
 obtain⟨pu',rfl,rfl⟩:=Dl pu
 refine⟨"str",_,F.slot_str_getitem.lookup,jG _ _ _,?_⟩
 refine wpAny_getItem_str_slice (l:=pl') (u:=pu') (st:=none) hs rfl ?_
 have e:=Gd l (pl'.map (·.1)) (pu'.map (·.1))
 unfold Txt.slice at e
 have hl:(tx (BV l (pl'.map (·.1)) (pu'.map (·.1)))).length<=sizeLine:=by rw[iV];exact aH (zn l _ _) hz
 show(if ((1:Int)==1&&(Builtin.Str.strSliceIndices (pl'.map (·.1)) (pu'.map (·.1)) 1 (tx l).length).length==(tx l).length)=true then Made.val (.str (tx l) t.1)else Made.str ⟨((Builtin.Str.strSliceIndices (pl'.map (·.1)) (pu'.map (·.1)) 1 (tx l).length).filterMap ((tx l).cps[·]?)).toArray⟩).post (EP X ai σ Q) s
 split
 ·rename_i hc
  rw[aC hc]at e
  rw[<- e]at q
  exact⟨.str (tx l),H,I,⟨t,rfl⟩,q⟩
 ·rename_i hc
  rw[aJ hc]at e
  rw[e]
  exact⟨hl,⟨.str _,H,I.tok _,I.tkS,q⟩⟩
theorem Ge(c:Nat)(l:List Nat):(!(Builtin.Str.occurrences (tx l) (tx [c]) 0 (tx l).length 1).isEmpty)=decide (c∈l):=StrLaws.found_one (tx l) c
def RW(neg:Bool):R2:=fun x y H Q=>∃c l,x=.str (tx [c])/\y=.str (tx l)/\Q (.bl (if neg then !decide (c∈l)else decide (c∈l))) H
theorem EM:l7 X (compareOp .In) (RW false):=by
 intro ai s σ H x y v u Q I rx ry h
 obtain⟨c,l,rfl,rfl,q⟩:=h
 exact ED ai s σ H _ _ v u Q I rx ry ⟨_,_,rfl,rfl,by rw[Ge];exact q⟩
theorem xY:l7 X (compareOp .NotIn) (RW true):=by
 intro ai s σ H x y v u Q I rx ry h
 obtain⟨c,l,rfl,rfl,q⟩:=h
 exact xQ ai s σ H _ _ v u Q I rx ry ⟨_,_,rfl,rfl,by rw[Ge];exact q⟩
theorem EN:l7 X (compareOp .LtE) (fun x y H Q=>∃c d,x=.str (tx [c])/\y=.str (tx [d])/\Q (.bl (decide (c<=d))) H):=by
 intro ai s σ H x y v u Q I rx ry h
 obtain⟨c,d,rfl,rfl,q⟩:=h
 obtain⟨t,rfl⟩:=rx
 obtain⟨t',rfl⟩:=ry
 refine PySem.P.le_str ⟨.bl _,H,I,?_,q⟩
 show Value.bool _=Value.bool _
 congr 1
 show(!decide ([d]<[c]))=decide (c<=d)
 by_cases um:c<=d
 ·rw[aN um,aI];rfl
  intro z
  cases z with
  |rel z=>omega
  |cons z=>cases z
 ·rw[aI um,aN];rfl
  exact .rel #[0]
theorem uU:∀{ys:List (List Nat)} {bT:List Value},cR nk (ys.map fun l=>V.str (tx l)) bT->StrsAre bT (ys.map tx)
 |[],_,r=>by cases r;exact .nil
 |y::ys,_,r=>by
  cases r with
  |cons r rr=>
   obtain⟨t,rfl⟩:=r
   exact .cons _ _ (uU rr)
def iA(n:Nat)(bT:List Value):Prop:=∀(x:Str) (t:Tok),Value.str x t∈bT->x.length=1->0<t/\t<n
theorem mV:∀{bT:List Value} {ss:List Str},StrsAre bT ss->iA nk bT->cR nk (ss.map fun z=>V.str z) bT
 |_,_,.nil,_=>.nil
 |_,_,.cons y t r,h=>.cons ⟨⟨t,h y t bY⟩,rfl⟩ (mV r fun x u hx=>h x u (bi _ hx))
theorem rD:∀{vs:List V} {bT:List Value},cR nk vs bT->iA nk bT
 |_,_,.nil=>fun _ _ h=>nomatch h
 |v::_,_,.cons r t=>fun x u hx=>by
  rcases a7.mp hx with e|hx
  ·subst e
   cases v with
   |str y=>obtain⟨tk,e⟩:=r;cases e;exact tk.2
   |non=>cases r
   |bl b=>cases r
   |int i=>obtain⟨_,e⟩:=r;cases e
   |byt b=>obtain⟨_,e⟩:=r;cases e
   |flt b=>obtain⟨_,e⟩:=r;cases e
   |ref a=>cases r
   |ty n=>cases r
  ·exact rD t x u hx
theorem Dm:∀{ys:List (List Nat)} {bT:List Value},cR nk (ys.map fun l=>V.str (tx l)) bT->∃zs:List (Str×Tok),bT=strValues zs/\zs.map (·.1)=ys.map tx
 |[],_,r=>by cases r;exact⟨[],rfl,rfl⟩
 |y::ys,_,r=>by
  cases r with
  |cons r rr=>
   obtain⟨t,rfl⟩:=r
   obtain⟨zs,rfl,e⟩:=Dm rr
   exact⟨(tx y,t.1)::zs,rfl,by rw[aW,aW,e]⟩
def kM(sep:List Nat):List (List Nat)->List Nat
 |[]=>[]
 |[x]=>x
 |x::y::r=>x++sep++kM sep (y::r)
theorem mz:∀ys:List (List Nat),kM [] ys=ys.flatten
 |[]=>rfl
 |[x]=>by simp[kM]
 |x::y::r=>by rw[kM,mz (y::r)];simp
theorem Dn(sep:List Nat):∀ys:List (List Nat),Txt.join (tx sep) (ys.map tx)=tx (kM sep ys):=fun ys=>by
 show Builtin.Str.glued (tx sep) (ys.map tx)=_
 rw[g_]
 induction ys with
 |nil=>rfl
 |cons x r ih=>
  cases r with
  |nil=>rfl
  |cons y r=>
   show tx x++tx sep++Str.join (tx sep) ((y::r).map tx)=tx (x++sep++kM sep (y::r))
   rw[ih,BS,BS]
def RX(K:Frag):V->List V->Hp->VK->Prop:=fun x vs H Q=>∃(sep:List Nat) (a:Addr) (ys:List (List Nat)),x=.str (tx sep)/\vs=[.ref a]/\sH K H a (ys.map fun l=>V.str (tx l))/\(ys.map List.length).sum+ys.length*sep.length<=16777216/\Q (.str (tx (kM sep ys))) H
theorem bM.joinS{Q:VK}{sep:Str}{zs:List (Str×Tok)}(I:bM X ai σ H s)(hl:(Builtin.Str.glued sep (zs.map (·.1))).length<=sizeLine)(hk:iA s.toks (strValues zs))(q:Q (.str (Txt.join sep (zs.map (·.1)))) H):(joinMade sep zs).post (EP X ai σ Q) s:=by
 have ie:(Made.str (Builtin.Str.glued sep (zs.map (·.1)))).post (EP X ai σ Q) s:=⟨hl,⟨.str _,H,I.tok _,I.tkS,q⟩⟩
 cases zs with
 |nil=>exact ie
 |cons p r=>
  cases r with
  |nil=>
   have e:Txt.join sep [p.1]=p.1:=by
    show Builtin.Str.glued sep [p.1]=_
    rw[g_];rfl
   rw[show([p]:List (Str×Tok)).map (·.1)=[p.1]from rfl,e]at q
   exact⟨.str p.1,H,I,⟨⟨p.2,hk p.1 p.2 (by simp[strValues])⟩,rfl⟩,q⟩
  |cons _ _=>exact ie
theorem KO:EH X "str.join" (RX X.K):=by
 intro ai s σ H x vs v us Q I rx rv h
 obtain⟨sep,a,ys,rfl,rfl,hS,hz,q⟩:=h
 obtain⟨t,rfl⟩:=rx
 obtain⟨u,rfl,ru⟩:=rv.one
 cases ru
 obtain⟨bT,r,p,_⟩:=I.list hS
 have hk:iA s.toks bT:=rD r
 obtain⟨zs,rfl,ez⟩:=Dm (by simpa using r)
 have hok:JoinOk (tx sep) (zs.map (·.1))=true:=joinOk_of (by
  rw[ez,bp,iV,az]
  have e:((fun z:Str=>z.length)∘tx)=List.length:=by funext l;exact iV l
  rw[e];exact hz)
 have hj:=hok
 unfold JoinOk at hj
 rw[fY]at hj
 exact rj F.slot_str_join (jG _ _ _) F.entry_str_join (F.args_str_join_2 _ _) (meets_str_join_list (tx sep) t.1 a zs hj) ⟨p.isList,I.joinS (joinFit_length hj) hk (by rw[ez,Dn];exact q)⟩
end
end L2
namespace L2
open PySem PySem.Spec PyProof.Rows
inductive D where
 |non|bl (b:Bool)|int (i:Int)|str (l:List Nat)|tnil|tcons (d r:D)
 deriving DecidableEq
structure fw(K:Frag)(H H':Hp):Prop where
 t:∀p xs,ic K H p xs->ic K H' p xs
 z:∀b o u,H b=some (.frz o u)->H' b=some (.frz o u)
instance {K:Frag} {H H':Hp}:CoeFun (fw K H H') (fun _=>∀p xs,ic K H p xs->ic K H' p xs):=⟨fw.t⟩
theorem ic.same{K:Frag}(e:ud H H'):fw K H H':=⟨fun p xs h=>by
 rcases h with(h|⟨o,h⟩)|h
 ·exact .inl (.inl (e _ _ h))
 ·exact .inl (.inr ⟨o,e _ _ h⟩)
 ·exact .inr h,fun b o u h=>e _ _ h⟩
theorem cY{p:Addr}(h:H p=none)(o:HO):ud H (eG H p o):=fun b u q=>by rw[c9 (fF q h)];exact q
def U1(l:Addr)(H H':Hp):Prop:=∀b o,b≠l->H b=some o->H' b=some o
theorem mW{l:Addr}{o:HO}:U1 l H (eG H l o):=fun b u h q=>by rw[c9 h];exact q
theorem ic.but{l:Addr}{xs:List V}(e:U1 l H H')(hl:H l=some (.lst xs)):fw K H H':=by
 have vS:∀{p:Addr} {o:HO},H p=some o->(∀zs,o≠.lst zs)->p≠l:=fun{p o} q hn z=>by subst z;rw[hl]at q;cases q;exact hn _ rfl
 refine⟨fun p ys h=>?_,fun b o u h=>e _ _ (vS h (fun _ z=>by cases z)) h⟩
 rcases h with(h|⟨o,h⟩)|h
 ·exact .inl (.inl (e _ _ (vS h (fun _ z=>by cases z)) h))
 ·exact .inl (.inr ⟨o,e _ _ (vS h (fun _ z=>by cases z)) h⟩)
 ·exact .inr h
theorem fw.refl:fw K H H:=⟨fun _ _ h=>h,fun _ _ _ h=>h⟩
theorem fw.trans{H1 H2:Hp}(a:fw K H H1)(b:fw K H1 H2):fw K H H2:=⟨fun p xs h=>b p xs (a p xs h),fun c o u h=>b.z c o u (a.z c o u h)⟩
theorem ic.new{p:Addr}{xs:List V}:ic K (eG H p (.tup xs)) p xs:=ic.of gU
end L2
namespace L2
open PySem PySem.Spec PyProof.Rows
theorem RY{v:V}{pos:Pos}(h:∃u,X.mg x=some u/\cW 0 v u)(hg:Gl X x:=by rfl)(hd:(x==("__debug__":Str))=false:=by decide):PE X (.Name x pos) (tC v):=by
 obtain⟨u,a,b⟩:=h
 exact xO hg a b hd
end L2
namespace L2
open PySem PySem.Spec PyProof.Rows
section
variable{to:TE}{t:TA}{id:String}{r:V->List V->Hp->VK->Prop}
def Wl(r:V->List V->Hp->VK->Prop)(to:TE)(t:TA):TE:=fun σ H Q=>to σ H fun x H1=>(∃l ys,x=.ref l/\H1 l=some (.lst ys))/\t σ H1 fun xs H2=>r x xs H2 Q
def Wm(r:V->List V->Hp->VK->Prop)(to:TE)(t:TA):TE:=fun σ H Q=>to σ H fun x H1=>(∃l,x=.str (tx l))/\t σ H1 fun xs H2=>r x xs H2 Q
def U2(r:V->List V->Hp->VK->Prop)(to:TE):TE:=fun σ H Q=>to σ H fun x H1=>(∃l ys,x=.ref l/\H1 l=some (.lst ys))/\r x [] H1 Q
theorem zo{x:V}(h:∃l ys,x=.ref l/\H l=some (.lst ys)):Uo K "list" x H:=by
 obtain⟨l,ys,rfl,h⟩:=h
 exact .inl ⟨rfl,_,.of h⟩
theorem Do{x:V}(h:∃l,x=.str (tx l)):Uo K "str" x H:=by
 obtain⟨l,rfl⟩:=h
 exact rfl
theorem Gf{ty:V->Hp->Prop}(Vu:∀x H,ty x H->Uo X.K T x H)(pa:PlainAttrs T)(slot:Slot T name id)(Bu:typeOf (.builtin id)=pure (.type "method_descriptor"))(hm:EH X id r)(ho:PE X o to)(ha:PA X (e::es) t)
  (ji:attributeBase o name X.env (eval o X.env)=eval o X.env)
  (qW:((backTo dD (starEach (e::es) X.env)).all (fun x=>!x.1)&&(backToKw dD (keywordEach [] X.env)).all (fun x=>x.1.isSome)
   && decide #[19])=true)
  (j4:(gH.endLine==dD.line)=true) (hs:starEach (e::es) X.env=(false,eval e X.env)::starEach es X.env) (no:(backTo dD (starEach es X.env)).any (·.1)=false) :
  PE X (.Call (.Attribute o name gH) (e::es) [] dD) (fun σ H Q=>to σ H fun x H1=>ty x H1/\t σ H1 fun xs H2=>r x xs H2 Q):=by
 intro ai s σ H Q I h
 refine nA ji qW j4 rfl (jq (ho ai s σ H _ I h) fun v s1 kt1 zq=>?_)
 obtain⟨x,H1,I1,r1,ty,q1⟩:=zq
 obtain⟨h1,h2⟩:=BP I1 r1 (Vu _ _ ty)
 refine⟨T,id,pa,slot,Bu,h1,h2,?_⟩
 have hA:=ha dD ai s1 σ H1 _ I1 q1
 rw[hs]at hA ⊢
 refine gT (by show(false||(backTo dD (starEach es X.env)).any (·.1))=false;rw[no]<;>rfl) (ig ?_)
 exact jq hA fun us s2 kt2 ⟨vs,H2,I2,r2,q2⟩=>hm ai s2 σ H2 x vs v us Q I2 (r1.up kt2) r2 q2
theorem RZ(slot:Slot "list" name id)(Bu:typeOf (.builtin id)=pure (.type "method_descriptor"))(hm:EH X id r)(ho:PE X o to)(ha:PA X (e::es) t)
  (ji:attributeBase o name X.env (eval o X.env)=eval o X.env:=by rfl)
  (qW:((backTo dD (starEach (e::es) X.env)).all (fun x=>!x.1)&&(backToKw dD (keywordEach [] X.env)).all (fun x=>x.1.isSome)
   && decide #[19])=true:=by rfl)
  (j4:(gH.endLine==dD.line)=true:=by rfl) (hs:starEach (e::es) X.env=(false,eval e X.env)::starEach es X.env:=by rfl) (no:(backTo dD (starEach es X.env)).any (·.1)=false:=by rfl) :
  PE X (.Call (.Attribute o name gH) (e::es) [] dD) (Wl r to t):=Gf (ty:=fun x H1=>∃l ys,x=.ref l/\H1 l=some (.lst ys)) (fun _ _ h=>zo h) F.plainAttrs_list slot Bu hm ho ha ji qW j4 hs no
theorem R0(slot:Slot "str" name id)(Bu:typeOf (.builtin id)=pure (.type "method_descriptor"))(hm:EH X id r)(ho:PE X o to)(ha:PA X (e::es) t)
  (ji:attributeBase o name X.env (eval o X.env)=eval o X.env:=by rfl)
  (qW:((backTo dD (starEach (e::es) X.env)).all (fun x=>!x.1)&&(backToKw dD (keywordEach [] X.env)).all (fun x=>x.1.isSome)
   && decide #[19])=true:=by rfl)
  (j4:(gH.endLine==dD.line)=true:=by rfl) (hs:starEach (e::es) X.env=(false,eval e X.env)::starEach es X.env:=by rfl) (no:(backTo dD (starEach es X.env)).any (·.1)=false:=by rfl) :
  PE X (.Call (.Attribute o name gH) (e::es) [] dD) (Wm r to t):=Gf (ty:=fun x H1=>∃l,x=.str (tx l)) (fun _ _ h=>Do h) F.plainAttrs_str slot Bu hm ho ha ji qW j4 hs no
theorem Oq(slot:Slot "list" name id)(Bu:typeOf (.builtin id)=pure (.type "method_descriptor"))(hm:EH X id r)(ho:PE X o to)
  (ji:attributeBase o name X.env (eval o X.env)=eval o X.env:=by rfl) (j4:(gH.endLine==dD.line)=true:=by rfl):PE X (.Call (.Attribute o name gH) [] [] dD) (U2 r to):=by
 intro ai s σ H Q I h
 refine wpAny_Call_method0_late ji j4 (jq (ho ai s σ H _ I h) fun v s1 kt1 zq=>?_)
 obtain⟨x,H1,I1,r1,ty,q1⟩:=zq
 obtain⟨h1,h2⟩:=BP I1 r1 (zo ty)
 exact⟨"list",id,F.plainAttrs_list,slot,Bu,h1,h2,gT rfl (PySem.evalArgs_none (hm ai s1 σ H1 x [] v [] Q I1 r1 .nil q1))⟩
end
end L2
namespace L2
open PySem PySem.Spec PyProof.Rows
end L2
namespace L2
open PySem PySem.Spec PyProof.Rows
section
variable{t:TA}
def R1(t:TA):TE:=fun σ H Q=>t σ H fun xs H1=>xs.length<=sizeLine/\∀p H2,H1 p=none->H2=eG H1 p (.tup xs)->Q (.ref p) H2
def R3(t:TA):TE:=fun σ H Q=>t σ H fun xs H1=>xs.length<=sizeLine/\∀p H2,H1 p=none->H2=eG H1 p (.lst xs)->Q (.ref p) H2
theorem Dp{x1}(h:PA X es t):PE X (.Tuple es x1 pos) (R1 t):=by
 intro ai s σ H Q I hq
 refine wpAny_Tuple_spliced (jq (h pos ai s σ H _ I hq) fun us s1 kt1 ⟨xs,H1,I1,r,z,q⟩=>⟨by rw[<- r.length];exact z,?_⟩)
 have hf:H1 s1.heap.objs.size=none:=I1.hok.fresh (ay _)
 refine⟨.ref s1.heap.objs.size,eG H1 s1.heap.objs.size (.tup xs),I1.laid (t':=s1.toks) (fun b u e=>av _ e) (ay _) ?_,rfl,q _ _ hf rfl⟩
 exact⟨z,us,r,⟨_,aO _ rfl,rfl,_,rfl⟩⟩
theorem KP(h:PA X es t):PE X (.List es pos) (R3 t):=by
 intro ai s σ H Q I hq
 refine wpAny_List_spliced (jq (h pos ai s σ H _ I hq) fun us s1 kt1 ⟨xs,H1,I1,r,z,q⟩=>⟨by rw[<- r.length];exact z,?_⟩)
 have hf:H1 s1.heap.objs.size=none:=I1.hok.fresh (ay _)
 refine⟨.ref s1.heap.objs.size,eG H1 s1.heap.objs.size (.lst xs),I1.laid (t':=s1.toks) (fun b u e=>av _ e) (ay _) ?_,rfl,q _ _ hf rfl⟩
 exact⟨z,us,0,r,aO _ rfl⟩
theorem EH.imp{id:String}{r r':V->List V->Hp->VK->Prop}(h:EH X id r)(i:∀x xs H Q,r' x xs H Q->r x xs H Q):EH X id r':=fun ai s σ H x xs v us Q I rx rv q=>h ai s σ H x xs v us Q I rx rv (i _ _ _ _ q)
theorem ja.imp{f:Value}{r r':List V->Hp->VK->Prop}(h:ja X f r)(i:∀xs H Q,r' xs H Q->r xs H Q):ja X f r':=fun ai s σ H xs us Q I rv q=>h ai s σ H xs us Q I rv (i _ _ _ q)
theorem l7.imp{f:Value->Value->Sem Value}{r r':R2}(h:l7 X f r)(i:∀x y H Q,r' x y H Q->r x y H Q):l7 X f r':=fun ai s σ H x y v u Q I rx ry q=>h ai s σ H x y v u Q I rx ry (i _ _ _ _ q)
def Gh:V->List V->Hp->VK->Prop:=fun x vs H Q=>∃l xs y,x=.ref l/\vs=[y]/\H l=some (.lst xs)/\xs.length<sizeLine/\∀H2,H2=eG H l (.lst (xs++[y]))->Q .non H2
theorem BX:EH X "list.append" Gh:=EH.imp (r:=Dh) EI fun _ _ _ _ ⟨l,xs,y,a,b,c,d,q⟩=>⟨l,xs,y,a,b,c,d,q _ rfl⟩
def R4:V->List V->Hp->VK->Prop:=fun x vs H Q=>∃l xs y,x=.ref l/\vs=[]/\H l=some (.lst (xs++[y]))/\∀H2,H2=eG H l (.lst xs)->Q y H2
theorem KQ:EH X "list.pop" R4:=EH.imp (r:=RP) Of fun _ _ _ _ ⟨l,xs,y,a,b,c,q⟩=>⟨l,xs++[y],y,a,b,c,by simp,by rw[List.dropLast_concat];exact q _ rfl⟩
def Os:V->V->V->Hp->(Hp->Prop)->Prop:=fun o i v H Q=>∃p xs k j,o=.ref p/\i=.int k/\H p=some (.lst xs)/\By xs.length k=some j/\∀H2,H2=eG H p (.lst (xs.set j v))->Q H2
theorem EO:Ez X Os:=fun ai s σ H o i v ov iv u Q I r1 r2 r3 q=>by
 obtain⟨p,xs,k,j,a,b,c,d,q⟩:=q
 exact F4 ai s σ H o i v ov iv u Q I r1 r2 r3 ⟨p,xs,k,j,a,b,c,d,q _ rfl⟩
def Gi(K:Frag):List V->Hp->VK->Prop:=fun xs H Q=>∃p ys,xs=[.ref p]/\sH K H p ys/\∀l H2,H l=none->H2=eG H l (.tup ys)->Q (.ref l) H2
theorem zp:ja X (.type "tuple") (Gi X.K):=ja.imp v3 fun _ _ _ ⟨p,ys,a,b,q⟩=>⟨p,ys,a,.inl ⟨b,fun l hl=>q l _ hl rfl⟩⟩
def R5:R2:=fun x y H Q=>∃l b xs zs,x=.ref l/\y=.ref b/\H l=some (.lst xs)/\H b=some (.lst zs)/\xs.length+zs.length<=sizeLine/\∀p H2,H p=none->H2=eG H p (.lst (xs++zs))->Q (.ref p) H2
theorem KR:l7 X (binaryOp .Add) R5:=l7.imp Og fun _ _ _ _ ⟨l,b,xs,zs,h1,h2,h3,h4,h5,q⟩=>⟨l,b,xs,zs,h1,h2,h3,h4,h5,fun p hp=>q p _ hp rfl⟩
end
end L2
namespace L2
open PySem PySem.Spec PyProof.Rows
end L2
namespace L2
open PySem PySem.Spec PyProof.Rows
def Gj(T:String):Prop:=T="tuple"\/T="bool"\/T="int"\/T="str"
end L2
namespace L2
end L2
namespace L2
open PySem PySem.Spec PyProof.Rows
inductive CS:List Expr->List Str->Prop where
 |nil:CS [] []
 |cons {x:Str} {j:Nat} {p:Pos} {r:List Expr} {zs:List Str}:CS r zs->CS (.Constant (.str x) j p::r) (x::zs)
def R6(zs:List Str):TA:=fun _ H Q=>Q (zs.map V.str) H
theorem KS{X:Cx}{zs:List Str}(h:CS es zs):PA X es (R6 zs):=by
 induction h with
 |nil=>exact oy
 |@cons x j p r zs _ ih=>
  intro pos ai s σ H Q I hq
  exact iM (X:=X) (FK (X:=X) (x:=x) (j:=j) (pos:=p)) ih (by rfl) pos ai s σ H Q I hq
end L2
namespace L2
open PySem PySem.Spec PyProof.Rows
structure QE(X:Cx)(e:Expr)(t:TE):Prop where
 h:PE X e t
structure QA(X:Cx)(es:List Expr)(t:TA):Prop where
 h:PA X es t
structure QS(X:Cx)(s:Stmt)(t:TS):Prop where
 h:PS X s t
structure QG(X:Cx)(e:Expr)(t:TG):Prop where
 h:PG X e t
structure QI(X:Cx)(tg it:Expr)(t:TI):Prop where
 h:PI X tg it t
structure U3(X:Cx)(es:List Expr)(t:TT):Prop where
 h:Ga X es t
structure VP(X:Cx)(f:Value->Value->Sem Value)(r:R2):Prop where
 h:l7 X f r
structure Mm(X:Cx)(f:Value)(r:List V->Hp->VK->Prop):Prop where
 h:ja X f r
section
variable{a b c:Expr}{ta tb tc to:TE}{t u:TA}{tA Ug:TT}{gb:List Expr}
theorem tK:VP X (binaryOp .LShift) (rI N1 fun i j=>.int (i*2^j.toNat)):=⟨FX⟩
variable{st:Stmt}{sr:List Stmt}{ts us:TS}{g:TG}
end
section
variable{c:Expr}{body:List Stmt}{wi:TI}{g:TG}{tb:TS}{tA:TT}
end
end L2
namespace L2
open PySem PySem.Spec PyProof.Rows
end L2
namespace L2
open PySem PySem.Spec PyProof.Rows
end L2
namespace L2
open PySem PySem.Spec PyProof.Rows
def jc(env:Env):List (Str×NameKind)->List (Str×Addr)->List (Str×Addr)
 |[],cs=>cs
 |(n,k)::r,cs=>jc env r (if k==.free then(n,(env.cells.lookup n).getD 0)::cs else cs)
theorem R7{env:Env}(h:∀x∈scope.names,x.2=.free->∃c,env.cells.lookup x.1=some c):closureFor scope env=pure (jc env scope.names []):=by
 unfold closureFor
 have key:∀(ns:List (Str×NameKind)) (cs:List (Str×Addr)),(∀x∈ns,x.2=.free->∃c,env.cells.lookup x.1=some c) ->
   (forIn ns cs fun(x:Str×NameKind) (r:List (Str×Addr))=>if (x.2==NameKind.free)=true then(do let a <- cellOf env x.1;pure (ForInStep.yield ((x.1,a)::r)))else(pure (ForInStep.yield r):Sem _))=pure (jc env ns cs):=by
  intro ns
  induction ns with
  |nil=>intro cs _;rfl
  |cons y r ih=>
   intro cs hc
   obtain⟨n,k⟩:=y
   rw[List.forIn_cons]
   have ihr:=fun cs=>ih cs fun x hx=>hc x (bi _ hx)
   by_cases hk:(k==NameKind.free)=true
   ·obtain⟨c,e⟩:=hc (n,k) bY (mL hk)
    have e2:cellOf env n=pure c:=by unfold cellOf;rw[e]
    show((if (k==NameKind.free)=true then _ else _) >>= _)=pure (jc env r (if (k==NameKind.free)=true then _ else _))
    rw[aC hk,aC hk,e2]
    simp only[pure_bind]
    have e3:(env.cells.lookup n).getD 0=c:=by rw[show env.cells.lookup n=some c from e];rfl
    rw[e3]
    exact ihr _
   ·show((if (k==NameKind.free)=true then _ else _) >>= _)=pure (jc env r (if (k==NameKind.free)=true then _ else _))
    rw[aJ hk,aJ hk]
    simp only[pure_bind]
    exact ihr _
 have:=key scope.names [] h
 dsimp only
 rw[this];simp only[pure_bind]
theorem wG{env:Env}:∀(ns:List (Str×NameKind)) (cs:List (Str×Addr)),(∀x∈ns,x.2=.free->∃c,env.cells.lookup x.1=some c)->(∀y∈cs,env.cells.lookup y.1=some y.2)->∀y∈jc env ns cs,env.cells.lookup y.1=some y.2
 |[],cs,_,h=>h
 |(n,k)::r,cs,hf,h=>by
  refine wG r _ (fun x hx=>hf x (bi _ hx)) ?_
  by_cases hk:(k==NameKind.free)=true
  ·rw[aC hk]
   intro y hy
   rcases a7.mp hy with rfl|hy
   ·obtain⟨c,e⟩:=hf (n,k) bY (mL hk)
    show env.cells.lookup n=some ((env.cells.lookup n).getD 0)
    rw[show env.cells.lookup n=some c from e];rfl
   ·exact h y hy
  ·rw[aJ hk];exact h
theorem uV{env:Env}:∀(ns:List (Str×NameKind)) (cs:List (Str×Addr)) (y:Str×Addr),y∈cs->y∈jc env ns cs
 |[],_,_,h=>h
 |(n,k)::r,cs,y,h=>by
  refine uV r _ y ?_
  split
  ·exact bi _ h
  ·exact h
theorem uW{env:Env}:∀(ns:List (Str×NameKind)) (cs:List (Str×Addr)) (x:Str),(x,NameKind.free)∈ns->∃c,(x,c)∈jc env ns cs
 |[],_,_,h=>by simp at h
 |(n,k)::r,cs,x,h=>by
  rcases a7.mp h with e|h
  ·obtain⟨e1,e2⟩:=Prod.mk.inj e
   subst e1;subst e2
   exact⟨_,uV r _ (x,_) (by rw[aC (by rfl:(NameKind.free==NameKind.free)=true)];exact bY)⟩
  ·exact uW r _ x h
theorem uX:∀{l:List (Str×β)} {x:Str} {b:β},(x,b)∈l->∃c,l.lookup x=some c
 |(y,c)::r,x,b,h=>by
  rw[jH]
  cases hx:x==y with
  |true=>exact⟨c,rfl⟩
  |false=>
   rcases a7.mp h with e|h
   ·cases e;simp at hx
   ·exact uX h
theorem tL{env:Env}{g:Str×NameKind->Bool}:∀{names:List (Str×NameKind)} {x:Str},names.lookup x=some .free ->
  (names.map fun y=>if g y then(y.1,NameKind.cell)else y).lookup x=some .cell\/(names.map fun y=>if g y then(y.1,NameKind.cell)else y).lookup x=some .free
 |[],_,h=>by simp at h
 |(n,k)::r,x,h=>by
  rw[jH]at h
  rw[aW]
  have e1:∀y:Str×NameKind,(if g y then(y.1,NameKind.cell)else y).1=y.1:=fun y=>by split<;>rfl
  have e2:∀(y:Str×NameKind) (l:List (Str×NameKind)),(y::l).lookup x=if (x==y.1)=true then some y.2 else l.lookup x:=fun y l=>by
   obtain⟨a,b⟩:=y
   rw[jH]
   cases x==a<;>rfl
  rw[e2,e1]
  cases hx:x==n with
  |true=>
   rw[hx]at h
   cases h
   rw[aC rfl]
   by_cases hg:g (n,.free)=true
   ·rw[aC hg];exact .inl rfl
   ·rw[aJ hg];exact .inr rfl
  |false=>
   rw[hx]at h
   rw[aJ (by exact eJ)]
   exact tL (env:=env) h
def EQ(dn:List (Str×NameKind))(sn:List (Str×NameKind))(nm:List Str)(cap:List (Option Nat))(N:List Str):Bool:=
 (sn.all fun x=>!(x.2==.local)||sn.lookup x.1==some .local)&&(sn.all fun y=>!(y.2==.cell))&&(sn.all fun x=>!(x.2==.free)||dn.lookup x.1==some .cell)&&(cap.length==nm.length) &&
 ((List.range cap.length).all fun i=>match cap[i]? with
  |some (some j)=>(match nm[i]?,N[j]? with
   |some x,some y=>x==y&&dn.lookup x==some .cell&&sn.lookup x==some .free
   |_,_=>false)
  |_=>true)
structure U4(X:Cx)(scope:Scope)(nm:List Str)(cap:List (Option Nat)):Prop where
 clos:closureFor scope X.env=pure (jc X.env scope.names [])
 cl:∀x c,(jc X.env scope.names []).lookup x=some c->X.env.cells.lookup x=some c
 nms:∀x∈scope.names,x.2=.local->scope.names.lookup x.1=some .local
 cell:∀y∈scope.names,y.2≠.cell
 has:∀x,#[13]->∃c,(jc X.env scope.names []).lookup x=some c
 cp:∀(i j:Nat),cap[i]?=some (some j)->∃x,nm[i]?=some x/\X.N[j]?=some x/\uS X scope (jc X.env scope.names []) x
 len:cap.length=nm.length
theorem R8{nm:List Str}{cap:List (Option Nat)}(hf:∀x,X.env.scope.names.lookup x=some .cell->∃c,X.env.cells.lookup x=some c)(hB:EQ X.env.scope.names scope.names nm cap X.N=true):U4 X scope nm cap:=by
 simp only[EQ,cO,gF,d_,fY,dL,bz]at hB
 obtain⟨⟨⟨⟨b1,b2⟩,b3⟩,b4⟩,b5⟩:=hB
 have has:∀x∈scope.names,x.2=.free->∃c,X.env.cells.lookup x.1=some c:=fun x hx hk=>by
  rcases b3 x hx with z|z
  ·exact absurd hk z
  ·exact hf _ z
 have vY:∀x c,(jc X.env scope.names []).lookup x=some c->X.env.cells.lookup x=some c:=fun x c h=>wG scope.names [] has #[18] (x,c) (i6 h)
 have hin:∀x,(x,NameKind.free)∈scope.names->∃c,(jc X.env scope.names []).lookup x=some c:=fun x h=>let ⟨_,q⟩:=uW (env:=X.env) scope.names [] x h;uX q
 have hmap:(relabel scope X.env).names=scope.names.map fun y=>if (y.2==.free&&X.env.scope.kind==.function&&X.env.kindOf y.1==some .cell)then(y.1,NameKind.cell)else y:=by
  show scope.names.map _=_
  refine d9 fun y _=>?_
  obtain⟨a,b⟩:=y
  rfl
 have fr:∀x,#[13]->(x,NameKind.free)∈scope.names:=fun x h=>by
  have h':∃k,(x,k)∈(relabel scope X.env).names/\(k=.cell\/k=.free):=by
   rcases h with h|h
   ·exact⟨_,i6 h,.inl rfl⟩
   ·exact⟨_,i6 h,.inr rfl⟩
  obtain⟨k,hm,hk⟩:=h'
  rw[hmap]at hm
  obtain⟨y,hy,e⟩:=b8.mp hm
  obtain⟨a,b⟩:=y
  by_cases hb:b=.free
  ·subst hb
   have:a=x:=by split at e<;>(cases e;rfl)
   subst this;exact hy
  ·rw[aJ (by simp[hb])]at e
   cases e
   rcases hk with rfl|rfl
   ·exact absurd rfl (b2 _ hy)
   ·exact absurd rfl hb
 refine⟨R7 has,vY,fun x hx hk=>(b1 x hx).resolve_left fun z=>z hk,fun y hy=>b2 y hy,fun x hx=>hin x (fr x hx),fun i j e=>?_,b4⟩
 have hi':i<cap.length:=(aj.mp e).1
 have q:=b5 i (df.mpr hi')
 rw[e]at q
 dsimp only at q
 cases hx:nm[i]? with
 |none=>rw[hx]at q;simp at q
 |some x=>
  cases hy:X.N[j]? with
  |none=>rw[hx,hy]at q;simp at q
  |some y=>
   rw[hx,hy]at q
   simp only[cO,dL]at q
   obtain⟨⟨rfl,q1⟩,q2⟩:=q
   refine⟨x,rfl,rfl,.inr (.inl q1),(by rw[q1];decide),?_,?_⟩
   ·obtain⟨c,hc⟩:=hin x (i6 q2)
    rw[hc,vY _ _ hc]
   ·rw[hmap];exact tL (env:=X.env) q2
theorem Ot{pos:Pos}{wi:TI}{g:TG}{tc:TT}(jw:X.calm=true)
  (qZ:X.env.cells=cellsFrom m X.env.scope.names []) (jx:scope.kind=.function) (hB:EQ X.env.scope.names scope.names nm cap X.N=true)
  (hi:QI X tg d3 wi) (hg:∀cl C s0 H0 fp,QG #[8] tg g) (ht:∀cl C s0 H0 fp,U3 #[8] mU tc)
  (he:∀cl C s0 H0 fp,QE #[8] rh te) (hs:∀x,foldedSetIterable d3 X.env x=pure x:=by intro _;rfl) :
  QE X #[11] (uR cap wi g tc te):=by
 have F:=R8 (nm:=nm) (cap:=cap) (fun x z=>by rw[qZ];exact my z) hB
 exact⟨KN jw F.clos F.cl jx F.nms F.cell F.has F.cp F.len hi.h (fun C s0 H0 fp=>(hg _ C s0 H0 fp).h) (fun C s0 H0 fp=>(ht _ C s0 H0 fp).h) (fun C s0 H0 fp=>(he _ C s0 H0 fp).h) hs⟩
def KU(K:Frag):List V->Hp->VK->Prop:=fun xs H Q=>∃(p:Addr) (ys:List (List Nat)),xs=[.ref p]/\sH K H p (ys.map fun l=>V.str (tx l))/\ys.length<64 /\
 ∀zs:List (List Nat),zs.Perm ys->sortedS (zs.map tx)=true->∀l H2,H l=none->H2=eG H l (.lst (zs.map fun l=>V.str (tx l)))->Q (.ref l) H2
theorem Dq(z:Str):tx z.cps.toList=z:=by cases z;rfl
theorem uY{vs:List Value}{xs:Array (Value×Value)}(hp:xs.Perm (pairsOf vs)):∀v∈(xs.map (·.2)).toList,v∈vs:=fun v hv=>by
 have hl:xs.toList.Perm (vs.zip vs):=by rw[<- pairsOf_toList];exact Array.perm_iff_toList_perm.mp hp
 rw[Array.toList_map]at hv
 obtain⟨p,hp',rfl⟩:=b8.mp hv
 have:=mem_zip_self (hl.mem_iff.mp hp')
 rw[<- this.1];exact this.2
theorem xZ{prog:Program}{w:World}{A:Around}{E:Value->Shared->Prop}{l:Addr}{vs:List Value}{ss:List Str}(hl:s.heap.IsList l vs.toArray)(hS:StrsAre vs ss)(VA:vs.length<64)
  (h:∀(out:Array Value) (Kg:List Str),(∀v∈out.toList,v∈vs)->StrsAre out.toList Kg->Kg.Perm ss->sortedS Kg=true->Q (.ref #[17]) { s with heap:=sortedAll s.heap vs out }) :
  wpAny #[9] A (call (.builtin "sorted") [.ref l]) Q E s:=by
 refine sortedK qz hl hS.keysOf (fun v₁ v₂ gb e=>sA (by rw[<- e];exact hS)) VA fun bF hp hs=>?_
 obtain⟨Kg,h1,h2,h3⟩:=pD hS hp hs
 exact h _ Kg (uY hp) h1 h2 h3
theorem iA.sub{vs:List Value}(h:iA n vs)(hs:∀v∈us,v∈vs):iA n us:=fun x t hx=>h x t (hs _ hx)
theorem v5:Mm X (.builtin "sorted") (KU X.K):=⟨by
 intro ai s σ H xs us Q I r h
 obtain⟨p,ys,rfl,hS,VA,q⟩:=h
 obtain⟨u,rfl,ru⟩:=ou r
 cases ru
 obtain⟨bT,rv,pl,hz⟩:=I.list hS
 have hl:=rv.length
 rw[az]at hl
 refine xZ (ss:=ys.map tx) pl.isList (uU (by simpa using rv)) #[0] fun out Kg hm h1 h2 h3=>?_
 obtain⟨ep,hat⟩:=sortedAll_at s.heap bT out
 have yZ:H #[17]=none:=I.hok.fresh (bB _)
 have hmap:(Kg.map fun z=>z.cps.toList).map tx=Kg:=by
  rw[bp]
  have:(tx∘fun z:Str=>z.cps.toList)=id:=funext fun z=>Dq z
  rw[this,j6]
 have hperm:(Kg.map fun z=>z.cps.toList).Perm ys:=by
  have e:=h2.map fun z:Str=>z.cps.toList
  rw[bp]at e
  have:((fun z:Str=>z.cps.toList)∘tx)=id:=funext fun l=>by simp[tx]
  rw[this,j6]at e
  exact e
 have hvals:cR s.toks ((Kg.map fun z=>z.cps.toList).map fun l=>V.str (tx l)) out.toList:=by
  have e:=mV h1 ((rD rv).sub hm)
  rw[<- hmap,bp]at e
  exact e
 refine⟨.ref #[17],_,I.laid (t':=s.toks) (fun b o e=>sortedAll_old e) (bB _) ?_,rfl,q _ hperm (by rw[hmap];exact h3) _ _ yZ rfl⟩
 refine⟨?_,out.toList,ep,hvals,hat⟩
 rw[az,hperm.length_eq]
 exact aH (fW VA) #[1]⟩
theorem bM.turned2{t':Nat}{e:Addr}(I:bM X ai σ H s)(k:∀b o,b≠e->b≠it->s.heap.get? b=some o->h'.get? b=some o)
  (he:∃o,h'.get? e=some o) (f1:uO X ai H e) (f2:uO X ai H it) (hk:s.toks<=t':=by first|exact ay _|exact bB _|assumption|omega):bM X ai σ H { s with heap:=h',toks:=t' }:=by
 have nit:∀b u,H b=some u->b≠e/\b≠it:=fun b u q=>⟨fun z=>(by rw[z,f1.1]at q;cases q),fun z=>(by rw[z,f2.1]at q;cases q)⟩
 have nin:∀b,b∉[e,it]->b≠e/\b≠it:=fun b h=>⟨fun z=>h (by simp[z]),fun z=>h (by simp[z])⟩
 refine I.step (g':=s.gens) (d':=s.drawn) (ch:=[e,it]) (fun b hb=>?_) (fun b o _ _ hc q _=>k b o (nin b hc).1 (nin b hc).2 q) (fun b o _ _ hc q _=>⟨o.slots,k b o (nin b hc).1 (nin b hc).2 q⟩) (fun _ _ _ _ n=>n)
  (fun b o hc q=>⟨o,k b o (nin b hc).1 (nin b hc).2 q⟩) (fun _ _ q=>q) (fun _ _ _ q=>q) (fun b ps q=>⟨#[],by rw[q];simp⟩) (fun m hm=>?_) (fun b u q=>?_) I.bare hk
 ·have z:b=e\/b=it:=by simpa using hb
  rcases z with rfl|rfl
  ·exact⟨f1.2.2.2.1,f1.2.1,f1.2.2.2.2.1,f1.2.2.2.2.2⟩
  ·exact⟨f2.2.2.2.1,f2.2.1,f2.2.2.2.2.1,f2.2.2.2.2.2⟩
 ·obtain⟨o,es,ep,ho,r⟩:=hm
  exact⟨o,es,ep,k _ o (Ne.symm f1.2.1) (Ne.symm f2.2.1) ho,r⟩
 ·refine((I.hok b u q).up hk).stay (fun c v hc z=>?_) (fun _ z=>z) fun _ _ z=>z
  rcases hc with y|y
  ·rw[y]at z ⊢;exact k b v (nit b u q).1 (nit b u q).2 z
  ·exact k c v (nit c _ y).1 (nit c _ y).2 z
section
variable{w:World}
theorem v7{t:Addr}{bT:Array Value}{x:Value}(st:s.heap.IsTupleIter it t i)(ht:s.heap.IsTuple t bT)(hx:bT[i]?=some x)
  (q:∀g,g.IsTupleIter it t (i+1)->Heap.SameBut it s.heap g->Q x { s with heap:=g }):wpAny #[9] A (Builtin.SmallTypes.nextOf (.ref it)) Q E s:=by
 obtain⟨ob,e1,e2,e3⟩:=id st
 obtain⟨ot,g1,_,nt,g3⟩:=ht
 have T:=st.typeIs
 unfold Builtin.SmallTypes.nextOf
 refine ag (cJ (name:=Str.ofString "__next__") T fM (cN fM T kE ?_ (kg _)))
 show wpAny _ _ (field (.ref it) 0 >>= _) _ _ s
 refine ag (gK e1 e3 (x:=.ref t) rfl ?_)
 dsimp only
 rw[aJ (show ¬ ((Value.ref t==Value.none)=true)from eJ)]
 refine ag (gK e1 e3 (x:=.int i 0) rfl ?_)
 dsimp only
 refine ag (la g1 g3 ?_)
 simp only[bu,hx]
 refine ag (wpAny_setField e1 e3 #[18] (aA ⟨x,rfl,aA (q _ ?_ (iu ..))⟩))
 exact⟨_,dF _ e1 (Obj.isFreed_of_fields (Obj.data_mapFields e3 _)),(Obj.cls_mapFields ..).trans e2,by rw[Obj.data_mapFields e3];simp[rawInt]⟩
theorem rE{t:Addr}{bT:Array Value}(hh:A.handled=none)(st:s.heap.IsTupleIter it t i)(ht:s.heap.IsTuple t bT)(hx:bT[i]?=none)
  (q:∀g e,Heap.ExtBut it s.heap g->(∃o,g.get? e=some o/\o.cls=.type "StopIteration")->E (.ref e) { s with heap:=g }):wpAny #[9] A (Builtin.SmallTypes.nextOf (.ref it)) Q E s:=by
 obtain⟨ob,e1,e2,e3⟩:=id st
 obtain⟨ot,g1,_,nt,g3⟩:=ht
 have T:=st.typeIs
 unfold Builtin.SmallTypes.nextOf
 refine ag (cJ (name:=Str.ofString "__next__") T fM (cN fM T kE ?_ (kg _)))
 show wpAny _ _ (field (.ref it) 0 >>= _) _ _ s
 refine ag (gK e1 e3 (x:=.ref t) rfl ?_)
 dsimp only
 rw[aJ (show ¬ ((Value.ref t==Value.none)=true)from eJ)]
 refine ag (gK e1 e3 (x:=.int i 0) rfl ?_)
 dsimp only
 refine ag (la g1 g3 ?_)
 simp only[bu,hx]
 refine ag (nB (ag (wpAny_setField e1 e3 #[18] (ag ?_))))
 simp only[newExc,newTuple]
 refine ag (cD (ag (m:=firstArgMember _ _) (pE (a:=Value.none) (by first|rfl|(simp only[firstArgMember];rfl)) (cD ?_ (by size_fits)))) (by size_fits))
 simp only[raiseNew]
 refine ag (wpAny_handled ?_)
 rw[show A.in1.handled=none from hh]
 exact ag (aA (wpAny_throw (q _ _ (((iu ..).extBut.push _).push _) ⟨_,aO _ rfl,rfl⟩)))
end
theorem Gk{w:World}{A:Around}(hh:A.handled=none)(it t:Addr)(vS:t≠it)(bT:Array Value) :
  Draws prog w A it [it,t] bT.size (fun i v=>bT[i]?=some v) (fun i h=>h.IsTupleIter it t i/\h.IsTuple t bT) where
 live:=fun _ _ st=>let ⟨o,e,_⟩:=st.1;⟨o,e⟩
 frame:=fun _ h h' st k=>⟨st.1.at fun o e=>k it #[18] o e,let ⟨o,e,r⟩:=st.2;⟨o,k t #[18] o e,r⟩⟩
 item:=fun i s Q E hi st q=>v7 st.1 st.2 (x:=bT[i]) (by simp[hi]) fun g a b=>q _ g s.toks (by simp[hi]) ⟨a,st.2.extBut b.extBut vS⟩ b
 done:=fun s Q E st q=>rE hh st.1 st.2 #[18] q
open AutoSeq1 (wpAny_loadPart')
def VQ(K:Frag)(a:Addr):It:=
 ⟨fun i H=>∃xs x,ic K H a xs/\xs[i]?=some x,fun i H v H'=>∃p,H p=none/\v=.ref p/\∀xs x,ic K H a xs->xs[i]?=some x->H'=eG H p (.tup [.int i,x]),fun i H=>∃xs,ic K H a xs/\xs.length<=i⟩
theorem ER{w:World}(a it e:Addr)(Vw:e≠it) :
  BF P w K (.Tuple JF kk pos) (VQ K a) [e,it] e (fun i h=>(∃old,IsEnum h e it i old)/\h.IsTupleIter it a i) where
 mem:=by simp
 obj:=fun i h st b hb=>by
  have z:b=e\/b=it:=by simpa using hb
  rcases z with rfl|rfl
  ·obtain⟨old,q⟩:=st.1
   exact⟨_,q,fun v z=>by cases z⟩
  ·obtain⟨o,q,c,d⟩:=st.2
   exact⟨o,q,fun v z=>by rw[d]at z;cases z⟩
 keep:=fun i h h' st k=>⟨let ⟨old,q⟩:=st.1;⟨old,k e #[18] _ q⟩,st.2.at fun o q=>k it #[18] o q⟩
 item:=by
  walk_at "4"
  subst hP hw hK
  obtain⟨xs,x,hq,hx⟩:=hg
  obtain⟨bT,rv,p,hz⟩:=I.tuple hq
  obtain⟨u,hu,ru⟩:=rv.get hx
  obtain⟨⟨old,he⟩,pq⟩:=st
  have hT:s.heap.IsTuple a bT.toArray:=p
  obtain⟨oa,ha,hca,_⟩:=id hT
  obtain⟨oi,hi,hci,_⟩:=id pq
  have nai:a≠it:=fun z=>by
   rw[z,hi]at ha;cases ha
   rw[hci]at hca;injection hca with z;exact absurd z #[1]
  have nae:a≠e:=fun z=>by
   rw[z,he]at ha;cases ha
   injection hca with z;exact absurd z #[1]
  have hlt:i<bT.toArray.size:=by
   have:=(aj.mp hu).1
   simpa using this
  refine up (wpAny_pyNext_enum_itemD (Gk (A:=X.A.in1) (I.ok.hd hc) it a nai bT.toArray) he ⟨pq,hT⟩ hlt Vw (by simp[Vw,Ne.symm nae]) fun x' g tk hx' t6 bF htup hsz hk QM=>⟨_,rfl,?_⟩)
  have ex:x'=u:=by
   have e1:bT[i]?=some x':=by simpa using hx'
   rw[hu]at e1;exact(bn e1).symm
  subst ex
  refine wpAny_letOwnedTupleGo_enum t6 fun g2 FF Bp=>?_
  have yZ:H s.heap.objs.size=none:=I.hok.fresh (ay _)
  have I1:bM X ai σ (eG H s.heap.objs.size (.tup [.int i,x])) { s with heap:=s.heap.push { cls:=.type "tuple",data:=.seq #[.int i tk,x'] },toks:=tk+1 }:=I.laid (fun b o q=>av _ q) (ay _)
   ⟨by show 2<=sizeLine;decide,[.int i tk,x'],.cons ⟨tk,rfl⟩ (.cons (ru.up QM) .nil),⟨_,aO _ rfl,rfl,_,rfl⟩⟩
  have nf:∀b∈[e,it],b≠s.heap.objs.size:=fun b hb=>by
   have z:b=e\/b=it:=by simpa using hb
   rcases z with rfl|rfl
   ·exact aY (aP he)
   ·exact aY (aP hi)
  have fp:∀b∈[e,it],uO X ai (eG H s.heap.objs.size (.tup [.int i,x])) b:=fun b hb=>by
   obtain⟨f0,f⟩:=hf b hb
   exact⟨by rw[c9 (nf b hb)];exact f0,f⟩
  have he2':IsEnum g2 e it ((i:Int)+1) x':=FF
  have I2:bM X ai σ (eG H s.heap.objs.size (.tup [.int i,x])) { s with heap:=g2,toks:=tk+1 }:=I1.turned2 (t':=tk+1) (fun b o hbe hbi q=>?_) ⟨_,he2'⟩ (fp e #[18]) (fp it #[18])
  ·refine⟨.ref s.heap.objs.size,_,I2,rfl,⟨_,yZ,rfl,fun ys y hy hy'=>?_⟩,⟨⟨x',by simpa using he2'⟩,bF.1.extBut Bp.extBut (Ne.symm Vw)⟩,fun b hb=>(fp b hb).1⟩
   have e1:=I.tuple_inj hy hq
   subst e1
   rw[hx]at hy';cases hy';rfl
  ·have q':(s.heap.push { cls:=.type "tuple",data:=.seq #[.int i tk,x'] }).get? b=some o:=q
   refine Bp.extBut b o hbe ?_
   by_cases hb:b=s.heap.objs.size
   ·subst hb
    have e1:=aO s.heap (o:={ cls:=.type "tuple",data:=.seq #[.int i tk,x'] }) rfl
    rw[e1]at q';cases q'
    exact htup
   ·rw[Heap.get?_push_ne _ _ _ hb]at q'
    exact hk b o hbe hbi q'
 done:=by
  walk_at "4"
  subst hP hw hK
  obtain⟨xs,hq,hx⟩:=hg
  obtain⟨bT,rv,p,hz⟩:=I.tuple hq
  obtain⟨⟨old,he⟩,pq⟩:=st
  have hT:s.heap.IsTuple a bT.toArray:=p
  have hl:=rv.length
  have hT':Shared.TypeIs s (.ref e) "enumerate":=⟨_,he,rfl⟩
  unfold pyNext
  refine ag (jR (cJ (name:=Str.ofString "__next__") hT' ol (cN ol hT' F.entry_enumerate_next ?_ (F.args_enumerate_next_1 _))))
  show wpAny _ _ (field (.ref e) 2 >>= _) _ _ _
  refine ag (gK he rfl (x:=.ref it) rfl (ag (rE (show X.A.in1.handled=none from I.ok.hd hc) pq hT (by simp;omega) fun g y hx' hy=>?_)))
  obtain⟨o,ho,vY⟩:=hy
  refine ag (gG (T:="StopIteration") (b:=true) ⟨o,ho,vY⟩ pF (aA ⟨rfl,?_⟩))
  walk_at "5"
  exact I.turned (t':=s.toks) (fun b o hb q=>hx' b o hb q) f0 f1 f3 f4 f5
 self:=fun A i s Q E st h=>let ⟨_,q⟩:=st.1;wpAny_pyIter_enum q h
open AutoSeq1 (wpAny_loadPart')
abbrev rF(t:Addr):Obj:={ cls:=.type "tuple_iterator",data:=.fields #[.ref t,.int 0 0] }
abbrev BY(it:Addr):Obj:={ cls:=.type "enumerate",data:=.fields #[.none,.bool false,.ref it,rawInt 0,.none,.none] }
theorem Ou(t:Addr)(bT:Array Value)(n:Nat)(dc:Option Addr)(sl:Array (Option Value)) :
  Meets (Builtin.«enumerate.__new__» ⟨[.type "enumerate",.ref t],[]⟩) (fun _ R s=>s.heap.get? t=some { cls:=.type "tuple",dict:=dc,data:=.seq bT n,slots:=sl } /\
   R (.ok (.ret (.ref (s.heap.push (rF t)).objs.size))) { s with heap:=(s.heap.push (rF t)).push (BY s.heap.objs.size) }):=
 .of_wp fun prog w A R s h=>by
  obtain⟨hp,g,d,tk,os⟩:=s
  obtain⟨ht,h⟩:=h
  have sb:=sub_enumerate
  have hT:Heap.IsTuple (Shared.heap ⟨hp,g,d,tk,os⟩) t bT:=⟨_,ht,rfl,n,rfl⟩
  wp_walk using dq ht
  refine wpAny_stack_any fun st=>aA ?_
  split
  ·rename_i c _ _ _ _ _
   cases(c==Value.type "enumerate")<;>(wp_walk using dq ht,i3 hT;exact⟨_,rfl,h⟩)
  ·wp_walk using dq ht,i3 hT
   exact⟨_,rfl,h⟩
section
variable{w:World}
theorem v8{t:Addr}{bT:Array Value}(hT:s.heap.IsTuple t bT)
  (q:∀g,IsEnum g #[17] s.heap.objs.size 0 .none->g.IsTupleIter s.heap.objs.size t 0->(∀b o,s.heap.get? b=some o->g.get? b=some o)->Q (.ref #[17]) { s with heap:=g }) :
  wpAny #[9] A (call (.type "enumerate") [.ref t]) Q E s:=by
 obtain⟨⟨c,dc,dt,sl⟩,ht,hc,n,hd⟩:=hT
 obtain rfl:c=.type "tuple":=hc
 obtain rfl:dt=.seq bT n:=hd
 refine callType_new F.called_enumerate #[1] (F.typeCall_enumerate_1 _) (F.newCall_enumerate_1 _) (fun ob=>F.args_object_init_2 ob _) F.entry_enumerate_new (Ou t bT n dc sl) ⟨ht,?_⟩
 have z:(s.heap.push (rF t)).objs.size=s.heap.objs.size+1:=cm ..
 show _/\_
 rw[z]
 have e1:IsEnum ((s.heap.push (rF t)).push (BY s.heap.objs.size)) #[17] s.heap.objs.size 0 .none:=by
  have y:=aO (s.heap.push (rF t)) (o:=BY s.heap.objs.size) rfl
  rw[z]at y;exact y
 exact⟨⟨_,e1,rfl⟩,q _ e1 ⟨_,av _ (aO _ rfl),rfl,rfl⟩ fun b o y=>av _ (av _ y)⟩
end
section
def U5(K:Frag)(ta:TA):TI:=fun σ H R=>ta σ H fun vs H1=>∃a,vs=[.ref a]/\(∃xs,ic K H1 a xs)/\R (VQ K a) H1
theorem Gm{a:Expr}{ta:TA}{p pos tp:Pos}{JF:List Expr}{kk:Nat}(hm:X.mg "enumerate"=none)(ha:QA X [a] ta)(hg:Gl X "enumerate":=by rfl)(hs:starEach [a] X.env=[(false,eval a X.env)]:=by rfl) :
  QI X (.Tuple JF kk tp) (.Call (.Name "enumerate" p) [a] [] pos) (U5 X.K ta):=⟨by
 intro ai s σ H R I h
 refine Call_ (oq I hg hm boot_enumerate (dS (jq (ha.h pos ai s σ H _ I h) fun us s1 kt1 ⟨vs,H1,I1,r1,q1⟩=>?_) hs rfl))
 obtain⟨t,e,⟨xs,hq⟩,q⟩:=q1
 subst e
 obtain⟨u,rfl,ru⟩:=ou r1
 cases ru
 obtain⟨bT,rv,pt,hz⟩:=I1.tuple hq
 refine v8 (show s1.heap.IsTuple t bT.toArray from pt) fun g e1 e2 kp=>?_
 refine wpAny_pyIter_enum e1 ?_
 refine⟨s1.heap.objs.size+1,[s1.heap.objs.size+1,s1.heap.objs.size],_,_,H1,rfl,I1.kept (t':=s1.toks) kp,ER t _ _ (Nat.succ_ne_self _),⟨⟨_,e1⟩,e2⟩,fun b hb=>?_,q⟩
 have z:b=s1.heap.objs.size+1\/b=s1.heap.objs.size:=by simpa using hb
 rcases z with rfl|rfl
 ·exact I1.fpOk (bB _) (I1.hok.fresh (bB _))
 ·exact I1.fpOk (ay _) (I1.hok.fresh (ay _))⟩
end
section
variable{g:TG}{tc:TT}{H1:Hp}{Q:VK}
end
theorem wH:∀(p:Nat) (m:List Nat),risingS (tx [p]) (m.map fun c=>tx [c])=true->(∀c∈m,p<=c)/\m.Pairwise (· <= ·)
 |p,[],_=>⟨fun c h=>by simp at h,.nil⟩
 |p,c::r,h=>by
  have h':(!ltCps (tx [c]).cps.toList (tx [p]).cps.toList&&risingS (tx [c]) (r.map fun c=>tx [c]))=true:=h
  rw[cO]at h'
  obtain⟨a,b⟩:=h'
  obtain⟨b1,b2⟩:=wH c r b
  have hpc:p<=c:=by
   rw[ltCps_eq]at a
   have a':(!decide ([c]<[p]))=true:=a
   have:=of_decide_eq_false (fY _▸a')
   rcases d5 c p with z|z
   ·exact absurd (List.Lex.rel z) this
   ·exact z
  refine⟨fun x hx=>?_,bZ.mpr ⟨b1,b2⟩⟩
  rcases a7.mp hx with rfl|hx
  ·exact hpc
  ·exact aH hpc (b1 x hx)
theorem zq:∀(m:List Nat),sortedS ((m.map fun c=>[c]).map tx)=true->m.Pairwise (· <= ·)
 |[],_=>.nil
 |c::r,h=>by
  have h':risingS (tx [c]) ((r.map fun c=>[c]).map tx)=true:=h
  rw[bp]at h'
  obtain⟨a,b⟩:=wH c r h'
  exact bZ.mpr ⟨a,b⟩
theorem eT:Slot "set_iterator" "__next__" "set_iterator.__next__":=.of (owner:="set_iterator") (n:="__next__") (by rw[nR,jy];kernel_rfl) (by decide +kernel) (by decide +kernel) (by decide +kernel) (by first|exact .inl (by decide +kernel)|exact .inr (by decide +kernel)) (by rw[dH];kernel_rfl)
theorem lF:entryFor table "set_iterator.__next__"=some Builtin.«set_iterator.__next__»:=entryFor_of_tree (by kernel_rfl)
theorem lG(a:Value):argsOk "set_iterator.__next__" ⟨[a],[]⟩:=by unfold argsOk;kernel_rfl
theorem zr:entryFor table "set.__iter__"=some Builtin.«frozenset.__iter__»:=entryFor_alias (id':="frozenset.__iter__") (by kernel_rfl) (by first|rfl|decide +kernel|(unfold String.splitOn;simp +decide [String.splitOnAux])) (by decide +kernel) (by kernel_rfl)
def ue(w:World):Bool:=w.params.followText "set-order"
def Dr(w:World)(n:Nat)(t:SetTable):Prop:=(ue w=true\/t.led=true)/\(n=0\/t.plain=false)
theorem ES(t:SetTable)(es:Array (Int×Value))(h:Int)(x:Value):(layNew t es h x).2.1.led=t.led/\(t.plain=false->(layNew t es h x).2.1.plain=false):=by
 unfold layNew
 split
 ·dsimp only
  unfold SetTable.orStandIn
  split
  ·exact⟨rfl,fun z=>z⟩
  ·exact⟨rfl,fun _=>rfl⟩
 ·exact⟨rfl,fun _=>rfl⟩
theorem x5{t t':SetTable}{hs:Array Int}{o:Array Nat}(h:t.relaid hs n=some (t',o)):t'.led=t.led/\t'.plain=t.plain:=by
 unfold SetTable.relaid SetTable.laid at h
 cases hc:SetTable.layClean (SetTable.sizeAbove n-1) hs with
 |none=>rw[hc]at h;cases h
 |some ow=>
  rw[hc]at h
  have h':=bn h
  obtain⟨a,_⟩:=Prod.mk.inj h'
  subst a
  exact⟨rfl,rfl⟩
theorem zt(t:SetTable)(es:Array (Int×Value))(n:Nat):(relayAll t es n).2.1.led=t.led/\(t.plain=false->(relayAll t es n).2.1.plain=false):=by
 unfold relayAll
 split
 ·rename_i t' o he
  obtain⟨a,b⟩:=x5 he
  dsimp only
  split
  ·exact⟨a,fun z=>b.trans z⟩
  ·exact⟨rfl,fun _=>rfl⟩
 ·exact⟨rfl,fun _=>rfl⟩
section
variable{w:World}
def uZ(prog:Program)(w:World)(n:Nat)(h:Heap)(a:Addr)(ks:List Str):Prop:=
 ∃o es ep t,h.get? a=some o/\o.ExactSet/\o.data=.set es ep t/\ElemsOf (PySem.strKind prog w) es.toList/\(es.toList.map fun e=>strOf e.2).Perm ks/\es.size<scanBound/\t.fits es.size=true/\Dr w es.size t/\iA n (es.toList.map (·.2))
theorem zu{l:List (Int×Value)}(h:ElemsOf (PySem.strKind prog w) l):∀e∈l,∃t,e.2=.str (strOf e.2) t:=fun e he=>by
 obtain⟨⟨k,hk,_⟩,_⟩:=h e he
 obtain⟨t,ht⟩:=ku hk
 exact⟨t,by rw[ht];rfl⟩
theorem wI{k:Str}{e:Int×Value}{l:List (Int×Value)}(h:ElemsOf (PySem.strKind prog w) l)(he:e∈l):(PySem.strKind prog w).is k e.2=true↔k=strOf e.2:=by
 obtain⟨t,ht⟩:=zu h e he
 constructor
 ·intro z
  obtain⟨u,hu⟩:=ku z
  rw[hu];rfl
 ·intro z
  show Value.isStrOf k e.2=true
  rw[ht,z]
  show Value.isStrOf (strOf e.2) (.str (strOf e.2) t)=true
  unfold Value.isStrOf;simp
theorem uZ.keep(z:uZ prog w n h a ks)(k:∀o,h.get? a=some o->h'.get? a=some o):uZ prog w n h' a ks:=let ⟨o,es,ep,t,ho,r⟩:=z;⟨o,es,ep,t,k o ho,r⟩
theorem iA.up{l:List Value}(h:iA n l)(hn:n<=n'):iA n' l:=fun x t hx h1=>⟨(h x t hx h1).1,aS (h x t hx h1).2 hn⟩
theorem uZ.up(z:uZ prog w n h a ks)(hn:n<=n'):uZ prog w n' h a ks:=let ⟨o,es,ep,t,ho,h1,h2,h3,h4,h5,h6,h7,h8⟩:=z;⟨o,es,ep,t,ho,h1,h2,h3,h4,h5,h6,h7,h8.up hn⟩
theorem KW{tk:Tok}{Q:Bool->Shared->Prop}(z:uZ prog w n s.heap a ks)(Q7:x.length=1->0<tk/\tk<n)(Wa:ks.length+1<scanBound)
  (q:∀b g,Heap.SameBut a s.heap g->uZ prog w n g a (if x∈ks then ks else ks++[x])->Q b { s with heap:=g }):wpAny #[9] A (setAddHashed a (.str x tk) ((PySem.strKind prog w).hash x)) Q E s:=by
 obtain⟨o,es,ep,t,ho,xE,hd,hel,hp,hb,hf,Kd,hta⟩:=z
 have dU:es.size=ks.length:=by have:=hp.length_eq;simpa using this
 have hkey:(PySem.strKind prog w).is x (.str x tk)=true:=by show Value.isStrOf x (.str x tk)=true;unfold Value.isStrOf;simp
 have hsc:(Value.str x tk).scannable=true:=rfl
 unfold setAddHashed setAddHashedIn
 refine dm (ag (fZ ho hd hf ?_))
 dsimp only
 rw[byScan_of hsc hb hel,aC rfl]
 unfold setAddByScan
 refine ag (ag (nB (ag (wpAny_setScan_of hkey ho hd hf hel ?_))))
 cases hr:List.findIdx? (fun e=>(PySem.strKind prog w).is x e.2) es.toList with
 |some j=>
  obtain⟨hj,hpj,_⟩:=List.findIdx?_eq_some_iff_getElem.mp hr
  have hin:x∈ks:=hp.mem_iff.mp (b8.mpr ⟨es.toList[j],dw hj,((wI hel (dw hj)).mp hpj).symm⟩)
  refine aA (aA ?_)
  have e1:=q false s.heap (Heap.SameBut.refl a s.heap) (by rw[aC hin];exact⟨o,es,ep,t,ho,xE,hd,hel,hp,hb,hf,Kd,hta⟩)
  exact e1
 |none=>
  have hin:¬ x∈ks:=fun hx=>by
   obtain⟨e,he,hxe⟩:=b8.mp (hp.mem_iff.mpr hx)
   have y:=List.findIdx?_eq_none_iff.mp hr e he
   rw[(wI hel he).mpr hxe.symm]at y
   cases y
  have q':=fun b g h1 h2=>q b g h1 (by rw[aJ hin];exact h2)
  dsimp only
  have lp:=layNew_perm t es ((PySem.strKind prog w).hash x) (.str x tk)
  have lf:=layNew_fits t es ((PySem.strKind prog w).hash x) (.str x tk)
  have lm:=ES t es ((PySem.strKind prog w).hash x) (.str x tk)
  generalize layNew t es ((PySem.strKind prog w).hash x) (.str x tk)=L at lp lf lm ⊢
  obtain⟨es1,t1,wd,gv⟩:=L
  dsimp only at lp lf lm ⊢
  rw[lX]at lp
  have el1:ElemsOf (PySem.strKind prog w) es1.toList:=(hel.push hkey hsc).perm lp
  have sz1:es1.size=es.size+1:=by have:=lp.length_eq;simpa using this
  have b1:es1.size<scanBound:=by omega
  have p1:(es1.toList.map fun e=>strOf e.2).Perm (ks++[x]):=by
   have y:=lp.map fun e:Int×Value=>strOf e.2
   rw[b7]at y
   exact y.trans (hp.append_right _)
  have ta1:iA n (es1.toList.map (·.2)):=fun y u hy=>by
   obtain⟨e,he,ee⟩:=b8.mp hy
   rcases bg.mp (lp.mem_iff.mp he)with z|z
   ·exact hta y u (b8.mpr ⟨e,z,ee⟩)
   ·rw[aV]at z
    subst z
    cases ee
    exact Q7
  have gw:∀(b:Bool) {s₁:Shared} {Q':Unit->Shared->Prop},Q' () s₁->wpAny #[9] A (match b with|true=>rule "set.scan.the-table-gave-way" | false=>pure ()) Q' E s₁:=fun b _ _ y=>by cases b<;>first|exact aA y|exact nB y
  refine ag (gw _ ?_)
  have ie:∀t2:SetTable,t2.fits es1.size=true->t2.led=t.led->t2.plain=false->wpAny #[9] A (do
    storeSet a es1 t2
    if (!wd&&t2.tooFull)=true then do
      (match (relayAll t2 es1 (SetTable.grown es1.size)).2.2 with|true=>rule "set.scan.the-table-gave-way" | false=>pure ())
      storeSet a (relayAll t2 es1 (SetTable.grown es1.size)).1 (relayAll t2 es1 (SetTable.grown es1.size)).2.1
      pure (some true)
     else pure (some true)) (fun r s'=>wpAny #[9] A (match r with|some added=>pure added|none=>setAddHashedIn a (.str x tk) ((PySem.strKind prog w).hash x) 99999) Q E s') E s:=by
   intro t2 f2 l2 n2
   have to2:Dr w es1.size t2:=⟨by rw[l2];exact Kd.1,.inr n2⟩
   refine ag (wpAny_storeSet_of ho hd ?_ (fits_of_scanBound b1))
   have g1:(s.heap.update a (Obj.putSet es1 t2)).get? a=some { o with data:=.set es1 (ep+1) t2 }:=by
    have y:=dF (Obj.putSet es1 t2) ho (by rw[tF es1 t2 hd];rfl)
    rw[tF es1 t2 hd]at y;exact y
   have sb:=iu s.heap a (Obj.putSet es1 t2)
   split
   ·have rp:=relayAll_perm t2 es1 (SetTable.grown es1.size)
    have rf:=relayAll_fits t2 es1 (SetTable.grown es1.size)
    have rm:=zt t2 es1 (SetTable.grown es1.size)
    generalize relayAll t2 es1 (SetTable.grown es1.size)=R at rp rf rm ⊢
    obtain⟨es2,t3,gv2⟩:=R
    dsimp only at rp rf rm ⊢
    have sz2:es2.size=es1.size:=by have:=rp.length_eq;simpa using this
    refine ag (gw _ (ag (wpAny_storeSet_of g1 rfl (aA (aA ?_)) (fits_of_scanBound #[0]))))
    have g2:((s.heap.update a (Obj.putSet es1 t2)).update a (Obj.putSet es2 t3)).get? a=some { o with data:=.set es2 (ep+1+1) t3 }:=by
     have y:=dF (Obj.putSet es2 t3) g1 (by rw[tF es2 t3 rfl];rfl)
     rw[tF es2 t3 rfl]at y;exact y
    refine q' true _ (sb.trans (iu _ a _)) ⟨_,es2,_,t3,g2,xE,rfl,el1.perm rp,?_,by omega,rf,?_⟩
    ·exact(rp.map fun e:Int×Value=>strOf e.2).trans p1
    ·exact⟨⟨by rw[rm.1,l2];exact Kd.1,.inr (rm.2 n2)⟩,fun y u hy=>ta1 y u ((rp.map _).mem_iff.mp hy)⟩
   ·exact aA (aA (q' true _ sb ⟨_,es1,_,t2,g1,xE,rfl,el1,p1,b1,f2,to2,ta1⟩))
  by_cases j':t1.plain=true
  ·rw[aC j',hashByValue_scannable 8 hsc]
   refine ag (aA ?_)
   exact ie { t1 with plain:=false } (SetTable.fits_plain_off lf) lm.1 rfl
  ·rw[aJ j']
   refine ag (aA ?_)
   exact ie t1 lf lm.1 (by simpa using j')
end
section
variable{w:World}{R:Result->Shared->Prop}{I:Addr}{wr:List Addr}{P:Nat->Value->Prop}{St:Nat->Heap->Prop}
def Mn(prog:Program)(w:World)(m:Nat)(val:Nat->Str)(h:Heap)(a:Addr)(i:Nat):Prop:=∃ks,uZ prog w m h a ks/\ks.Nodup/\(∀x,x∈ks↔∃j,j<i/\val j=x)/\ks.length<=i
theorem Gn(W:Walks prog w A.in1 I fp wr n P St)(S:Addr)(V5:S∉fp)(val:Nat->Str)(Bf:∀i v,P i v->∃t,v=.str (val i) t)(hb:n+1<scanBound){n0:Nat}
  (AY:∀i (s:Shared) (Q:Option Value->Shared->Prop) (E:Value->Shared->Prop),n0<=s.toks->i<n->St i s.heap ->
   (∀v h' tk,s.toks<=tk->iA tk [v]->P i v->St (i+1) h'->(∀b o,b∉wr->s.heap.get? b=some o->h'.get? b=some o)->Q (some v) { s with heap:=h',toks:=tk })->wpAny #[9] A.in1 (pyNext (.ref I)) Q E s) :
  ∀(k i:Nat) (s:Shared),n-i=k->i<=n->n0<=s.toks->St i s.heap->Mn prog w s.toks val s.heap S i ->
   (∀g tk,s.toks<=tk->Mn prog w tk val g S n->(∀b o,b≠S->b∉wr->s.heap.get? b=some o->g.get? b=some o)->R (.ok (.ret .none)) { s with heap:=g,toks:=tk }) ->
   codeAny #[9] A (.builtin "set.update.loop" ⟨[.ref S,.ref I],[]⟩) R s:=by
 have hSw:S∉wr:=fun h=>V5 (W.sub _ h)
 intro k
 induction k with
 |zero=>
  intro i s hk hi hn0 st hM hR
  obtain rfl:i=n:=by omega
  refine c6 iw ?_
  rw[cQ fm _]
  show wpAny _ A.in1 (pyNext (.ref I) >>= _) _ _ s
  refine ag (up (W.done s _ _ st fun g tk kp js=>aA (hR g tk js ?_ fun b o _ hb e=>kp b o hb e)))
  obtain⟨ks,z,r⟩:=hM
  exact⟨ks,(z.keep fun o e=>kp S o hSw e).up js,r⟩
 |succ k ih=>
  intro i s hk hi hn0 st hM hR
  have hlt:i<n:=by omega
  refine c6 iw ?_
  rw[cQ fm _]
  show wpAny _ A.in1 (pyNext (.ref I) >>= _) _ _ s
  refine ag (AY i s _ _ hn0 hlt st fun v g tk js hta hP bF kp=>?_)
  obtain⟨t,rfl⟩:=Bf i v hP
  obtain⟨ks,z,nd,mem,len⟩:=hM
  have z':uZ prog w (tk+1) g S ks:=(z.keep fun o e=>kp S o hSw e).up (hW js)
  refine ag (dm ?_)
  unfold setAdd
  refine dm (ag ((PySem.strKind prog w).pyHash (k:=val i) (show Value.isStrOf (val i) (.str (val i) t)=true by unfold Value.isStrOf;simp) ?_))
  refine KW (s:={ s with heap:=g,toks:=tk+1 }) z' (fun h1=>⟨(hta _ t #[18] h1).1,cX (hta _ t #[18] h1).2⟩) #[0] fun _ g2 sb z2=>?_
  refine aA ⟨eQ fm _,ih (i+1) _ #[0] hlt (aH hn0 (hW js)) (W.frame _ _ _ bF fun b hb o e=>?_) ?_ fun g3 tk3 hle3 hM3 kp3=>?_⟩
  ·rw[sb.2 b (fun h:b=S=>V5 (by rw[<- h];exact hb))];exact e
  ·refine⟨_,z2,?_,fun x=>?_,?_⟩
   ·by_cases hx:val i∈ks
    ·rw[aC hx];exact nd
    ·rw[aJ hx];exact List.nodup_append.mpr ⟨nd,by simp,fun a ha b hb=>by rw[aV]at hb;subst hb;exact fun e=>hx (e▸ha)⟩
   ·by_cases hx:val i∈ks
    ·rw[aC hx,mem x]
     constructor
     ·rintro⟨j,hj,e⟩;exact⟨j,by omega,e⟩
     ·rintro⟨j,hj,e⟩
      by_cases hji:j=i
      ·subst hji;subst e;exact(mem _).mp hx
      ·exact⟨j,by omega,e⟩
    ·rw[aJ hx,bg,mem x,aV]
     constructor
     ·rintro(⟨j,hj,e⟩|e)
      ·exact⟨j,by omega,e⟩
      ·exact⟨i,by omega,e.symm⟩
     ·rintro⟨j,hj,e⟩
      by_cases hji:j=i
      ·subst hji;exact .inr e.symm
      ·exact .inl ⟨j,by omega,e⟩
   ·by_cases hx:val i∈ks
    ·rw[aC hx];omega
    ·rw[aJ hx,aE,oh];omega
  ·exact hR g3 tk3 (aH (hW js) hle3) hM3 fun b o hb hw e=>kp3 b o hb hw ((sb.2 b hb).trans (kp b o hw e))
end
section
variable{w:World}
abbrev dX(w:World):Obj:={ cls:=.type "set",dict:=none,data:=.set #[] 0 (.fresh 0 0 (!ue w)) }
theorem zv(a:Value)(h:Q₁ (.ref s.heap.objs.size) { s with heap:=s.heap.push (dX w) }) :
  codeAny #[9] A (.call (.builtin "set.__new__") ⟨[.type "set",a],[]⟩) (wants Q₁ E) s:=by
 refine nS ?_
 show wpAny _ A.in1 (do checkBuiltinCall "set.__new__" ⟨[.type "set",a],[]⟩;again (.builtin "set.__new__" ⟨[.type "set",a],[]⟩)) _ _ s
 refine ag (pE (PySem.F.newCall_set_1 a) (aA ⟨eQ PySem.F.plain_set_new _,c6 PySem.F.entry_set_new ?_⟩))
 rw[cQ PySem.F.plain_set_new _]
 unfold Builtin.«set.__new__» Builtin.Frozenset.newClass
 have sb:=sub_set_self
 obtain⟨hp,g,d,tk,os⟩:=s
 dsimp only
 wp_walk
 refine mO (aA ?_)
 dsimp only
 simp only[newObj]
 exact ag (wpAny_alloc (aA (aA h)))
set_option maxHeartbeats 8000000 in
theorem l9{T:String}{Uz:Obj}{fp:Addr->List Addr}{n:Nat}{P:Nat->Value->Prop}{St:Addr->Nat->Heap->Prop}{val:Nat->Str}{Q:Value->Shared->Prop}(hT:Shared.TypeIs { s with heap:=s.heap.push (dX w) } v T)
  (n1:isSubtype (.type T) (.type "set")=pure false) (n2:isSubtype (.type T) (.type "frozenset")=pure false) (n3:(Value.type T==Value.type "dict")=false)
  (pq:∀(A:Around) (E:Value->Shared->Prop) (Q:Value->Shared->Prop),Q (.ref #[17]) { s with heap:=(s.heap.push (dX w)).push Uz }->wpAny #[9] A (pyIter v) Q E { s with heap:=s.heap.push (dX w) })
  (W:∀(A:Around) (it:Addr),A.handled=none->it=s.heap.objs.size+1->Walks prog w A it (fp it) [it] n P (St it)) (T7:s.heap.objs.size∉fp #[17]) (st:St #[17] 0 ((s.heap.push (dX w)).push Uz)) (Bf:∀i v,P i v->∃t,v=.str (val i) t)
  (hh:A.handled=none) (hb:n+1<scanBound)
  (AY:∀(A:Around),A.handled=none->∀i (s':Shared) (Q:Option Value->Shared->Prop) (E:Value->Shared->Prop),s.toks<=s'.toks->i<n->St #[17] i s'.heap ->
   (∀v h' tk,s'.toks<=tk->iA tk [v]->P i v->St #[17] (i+1) h'->(∀b o,b∉[s.heap.objs.size+1]->s'.heap.get? b=some o->h'.get? b=some o)->Q (some v) { s' with heap:=h',toks:=tk })->wpAny #[9] A (pyNext (.ref #[17])) Q E s')
  (q:∀g tk,s.toks<=tk->Mn prog w tk val g s.heap.objs.size n->(∀b o,s.heap.get? b=some o->g.get? b=some o)->Q (.ref s.heap.objs.size) { s with heap:=g,toks:=tk }) :
  wpAny #[9] A (call (.type "set") [v]) Q E s:=by
 obtain⟨c,tl,hmro⟩:=PySem.F.called_set.mro
 have hmade:=PySem.F.called_set.made
 have hsub:=PySem.F.called_set.sub
 refine wpAny_call (nS ?_)
 show wpAny _ _ (callAny (.type "set") _) _ _ _
 refine aA ⟨Code.quiet_builtin _ (by decide +kernel),c6 PySem.F.entry_type_call ?_⟩
 rw[Around.under_plain (weight_type_call_type "set" [v] []) rfl]
 have h1:=PySem.F.called_set.notType
 have h2:=PySem.F.called_set.canCreate
 have hct:=PySem.F.typeCall_set_1 v
 repeat(any_goals (first|assumption|wp_step))
 refine jk (zv v (E:=E) (Q₁:=fun obj s₁=>obj=.ref s.heap.objs.size/\s₁={ s with heap:=s.heap.push (dX w) }) ⟨rfl,rfl⟩) fun r s₁ hr=>?_
 cases r with
 |error e=>exact hr
 |ok fl=>
  cases fl with
  |ret obj=>
   obtain⟨rfl,rfl⟩:=hr
   have gS:(s.heap.push (dX w)).get? s.heap.objs.size=some (dX w):=aO _ rfl
   have tS:Shared.TypeIs { s with heap:=s.heap.push (dX w) } (.ref s.heap.objs.size) "set":=⟨_,gS,rfl⟩
   have hli:=PySem.F.called_set.init.lookup
   have hbi:=PySem.F.called_set.init.bind (.ref s.heap.objs.size)
   repeat(any_goals (first|assumption|wp_step))
   refine jk (j7 (R:=wants (fun r s₂=>r=.none/\∃g tk,s₂={ s with heap:=g,toks:=tk }/\s.toks<=tk/\Mn prog w tk val g s.heap.objs.size n/\(∀b o,s.heap.get? b=some o->g.get? b=some o)) E) PySem.F.called_set.init.plain PySem.F.entry_set_init (check_set_init_1 tS ?_)) fun r₂ s₂ hr₂=>?_
   ·unfold Builtin.«set.__init__» noKeywords Builtin.Frozenset.updateFrom
    generalize hPI:pyIter=PI
    wp_walk
    subst hPI
    refine pq _ _ _ (ag (pG ?_))
    have g0:((s.heap.push (dX w)).push Uz).get? s.heap.objs.size=some (dX w):=av _ gS
    have m0:Mn prog w s.toks val ((s.heap.push (dX w)).push Uz) s.heap.objs.size 0:=⟨[],⟨_,#[],0,_,g0,⟨rfl,rfl,rfl⟩,rfl,fun e he=>by simp at he,by simp,by unfold scanBound;decide,rfl,?_⟩,List.nodup_nil,fun x=>by simp,ay _⟩
    ·refine Gn (W _ _ (by simpa using hh) rfl) s.heap.objs.size T7 val Bf hb (n0:=s.toks) (AY _ (by simpa using hh)) (n-0) 0 _ rfl (bU _) (ay _) st m0 fun g tk js hM kp=>?_
     refine aA (aA ⟨rfl,g,tk,rfl,js,hM,fun b o e=>kp b o (aY (aP e)) (fun hbm=>?_) (av _ (av _ e))⟩)
     rw[aV]at hbm
     exact absurd (aP e) (by rw[hbm];exact i5.mpr (bB _))
    ·refine⟨⟨?_,.inl rfl⟩,fun x t hx=>by simp at hx⟩
     show ue w=true\/(!ue w)=true
     cases ue w<;>simp
   ·cases r₂ with
    |error e=>exact hr₂
    |ok fl₂=>
     cases fl₂ with
     |ret r=>
      obtain⟨rfl,g,tk,rfl,js,hM,kp⟩:=hr₂
      repeat(any_goals (first|assumption|wp_step))
      exact q g tk js hM kp
     |_=>exact hr₂.elim
  |_=>exact hr.elim
end
theorem qC:∀{l:List α} {i:Nat} (h:i<l.length),(l[i]::l.eraseIdx i).Perm l
 |x::r,0,_=>ii _
 |x::r,i+1,h=>(List.Perm.swap x (r[i]'(by simpa using h)) (r.eraseIdx i)).trans ((qC (l:=r) (i:=i) (by simpa using h)).cons x)
section
theorem v9{Wy:Source}{Q:Nat->Shared->Prop}(hn:n≠0)(h:∀i,i<n->∀d,Q i { s with drawn:=d }):wpAny M A (choose Wy n) Q E s:=fun _ _ _=>⟨hn,h _ (nC _ (Nat.pos_of_ne_zero hn)) _⟩
theorem zw:∀(n:Nat) (xs:List α) (s:Shared) (Q:List α->Shared->Prop),xs.length=n->(∀ys,ys.Perm xs->∀d,Q ys { s with drawn:=d })->wpAny M A (drawOrder n xs) Q E s
 |0,xs,s,Q,hl,h=>by
  have e:xs=[]:=gM hl
  subst e
  unfold drawOrder
  exact aA (h [] (ii _) s.drawn)
 |n+1,[],s,Q,hl,h=>by simp at hl
 |n+1,x::r,s,Q,hl,h=>by
  unfold drawOrder
  refine ag (v9 #[18] fun i hi d=>?_)
  have e:(x::r)[i]?=some (x::r)[i]:=aq hi
  rw[e]
  dsimp only
  refine ag (zw n ((x::r).eraseIdx i) _ _ (by rw[List.length_eraseIdx,aC hi];simp at hl ⊢;omega) fun ys hp d'=>aA (h _ ?_ d'))
  exact(List.Perm.cons _ hp).trans (qC hi)
theorem Ds(next:Nat->Nat):∀(Md k:Nat) (Bx:List α) (out:Array α),Bx.length=Md->(pickOrder.go next Md k Bx out).toList.Perm (out.toList++Bx)
 |0,k,Bx,out,h=>by
  have e:Bx=[]:=gM h
  subst e
  unfold pickOrder.go
  simp
 |Md+1,k,Bx,out,h=>by
  have hlt:next k%Bx.length<Bx.length:=nC _ #[0]
  unfold pickOrder.go
  rw[aq hlt]
  dsimp only
  refine(Ds next Md (k+1) _ _ (by rw[List.length_eraseIdx,aC hlt];omega)).trans ?_
  rw[lX,aM]
  exact List.Perm.append_left _ (qC hlt)
theorem ET(next:Nat->Nat)(xs:Array α):(pickOrder next xs).toList.Perm xs.toList:=by
 unfold pickOrder
 have:=Ds next xs.size 0 xs.toList #[] #[18]
 simpa using this
end
abbrev qe(f:Value)(i:Int)(S:Addr)(n ep:Nat):Obj:={ cls:=.type "set_iterator",dict:=none,data:=.fields #[f,rawInt i,.ref S,rawInt n,rawInt ep],slots:=#[] }
section
variable{w:World}
theorem u0{Q:Fin->Shared->Prop}(hh:A.handled=none)(q:∀g e,(∀b o,s.heap.get? b=some o->g.get? b=some o)->(∃o,g.get? e=some o/\o.cls=.type "StopIteration")->E (.ref e) { s with heap:=g }) :
  wpAny #[9] A (do let x <- newExc (.type "StopIteration") [];raiseNew x) Q E s:=by
 refine ag ?_
 simp only[newExc,newTuple]
 refine ag (cD (ag (m:=firstArgMember _ _) (pE (a:=Value.none) (by first|rfl|(simp only[firstArgMember];rfl)) (cD ?_ (by size_fits)))) (by size_fits))
 simp only[raiseNew]
 refine ag (wpAny_handled ?_)
 rw[hh]
 exact ag (aA (wpAny_throw (q _ _ (fun b o e=>av _ (av _ e)) ⟨_,aO _ rfl,rfl⟩)))
structure jt(w:World)(h:Heap)(S:Addr)(es:Array (Int×Value))(ep:Nat)(t:SetTable):Prop where
 ex:∃o,h.get? S=some o/\o.ExactSet/\o.data=.set es ep t
 fits:t.fits es.size=true
theorem jt.keep{S:Addr}{es:Array (Int×Value)}{t:SetTable}(z:jt w h S es ep t)(k:∀o,h.get? S=some o->h'.get? S=some o):jt w h' S es ep t:=⟨let ⟨o,ho,r⟩:=z.ex;⟨o,k o ho,r⟩,z.fits⟩
theorem EU{S p:Addr}{k:Nat}{es:Array (Int×Value)}{t:SetTable}{pv:Array Value}{pn:Nat}{x:Int×Value}{Q:Option Value->Shared->Prop}(pq:s.heap.get? it=some (qe (.ref p) i S n ep))(hS:jt w s.heap S es ep t)(hn:es.size=n)
  (hp:∃o,s.heap.get? p=some o/\o.cls=.type "tuple"/\o.data=.seq pv pn) (hk:pv[i]?=some (rawInt k)) (hx:es[k]?=some x)
  (q:∀g,g.get? it=some (qe (.ref p) ((i:Int)+1) S n ep)->Heap.SameBut it s.heap g->Q (some x.2) { s with heap:=g }):wpAny #[9] A (pyNext (.ref it)) Q E s:=by
 obtain⟨o,ho,xE,hd⟩:=hS.ex
 obtain⟨op,hop,hcp,hdp⟩:=hp
 have T:Shared.TypeIs s (.ref it) "set_iterator":=⟨_,pq,rfl⟩
 unfold pyNext
 refine ag (jR (cJ (name:=Str.ofString "__next__") T eT (cN eT T lF ?_ (lG _))))
 show wpAny _ _ (fieldsOf (.ref it) >>= _) _ _ s
 refine ag (lc pq rfl ?_)
 dsimp only
 refine ag (gn ho hd hS.fits ?_)
 rw[aJ (by rw[hn];simp)]
 refine ag (la hop hdp ?_)
 simp only[bu,hk]
 unfold setNextDrawn
 refine ag (ag (fZ ho hd hS.fits ?_))
 dsimp only
 rw[aJ #[18],bu,hx]
 refine aA (ag (fN pq #[18] fun g e1 e2=>aA ⟨_,rfl,aA (q g (by simpa using e1) e2)⟩))
theorem v_{S p:Addr}{es:Array (Int×Value)}{t:SetTable}{pv:Array Value}{pn:Nat}{Q:Option Value->Shared->Prop}(hh:A.handled=none)(pq:s.heap.get? it=some (qe (.ref p) i S n ep))(hS:jt w s.heap S es ep t)(hn:es.size=n)
  (hp:∃o,s.heap.get? p=some o/\o.cls=.type "tuple"/\o.data=.seq pv pn) (hk:pv[i]?=none)
  (q:∀g,(∀b o,b≠it->s.heap.get? b=some o->g.get? b=some o)->Q none { s with heap:=g }):wpAny #[9] A (pyNext (.ref it)) Q E s:=by
 obtain⟨o,ho,xE,hd⟩:=hS.ex
 obtain⟨op,hop,hcp,hdp⟩:=hp
 have T:Shared.TypeIs s (.ref it) "set_iterator":=⟨_,pq,rfl⟩
 unfold pyNext
 refine ag (jR (cJ (name:=Str.ofString "__next__") T eT (cN eT T lF ?_ (lG _))))
 show wpAny _ _ (fieldsOf (.ref it) >>= _) _ _ s
 refine ag (lc pq rfl ?_)
 dsimp only
 refine ag (gn ho hd hS.fits ?_)
 rw[aJ (by rw[hn];simp)]
 refine ag (la hop hdp ?_)
 simp only[bu,hk]
 refine ag (fN pq #[18] fun g e1 e2=>ag (fN e1 #[18] fun g2 e3 e4=>u0 (s:={ s with heap:=g2 }) (show A.in1.handled=none from hh) fun g3 e kp hx=>?_))
 obtain⟨ox,hox,hcx⟩:=hx
 refine ag (gG (T:="StopIteration") (b:=true) ⟨ox,hox,hcx⟩ pF (aA (q g3 fun b o hb e=>kp b o ?_)))
 exact e4.extBut b o hb (e2.extBut b o hb e)
theorem Go{S:Addr}{sl sl':Nat}{es:Array (Int×Value)}{t:SetTable}{x:Value}{Q:Option Value->Shared->Prop}(pq:s.heap.get? it=some (qe (rawInt sl) i S n ep))(hS:jt w s.heap S es ep t)(hn:es.size=n)
  (hx:∀(Q':Option (Value×Nat)->Shared->Prop) (E':Value->Shared->Prop),Q' (some (x,sl')) s->wpAny #[9] A.in1 (setNext S sl i ep) Q' E' s)
  (q:∀g,g.get? it=some (qe (rawInt sl') ((i:Int)+1) S n ep)->Heap.SameBut it s.heap g->Q (some x) { s with heap:=g }):wpAny #[9] A (pyNext (.ref it)) Q E s:=by
 obtain⟨o,ho,xE,hd⟩:=hS.ex
 have T:Shared.TypeIs s (.ref it) "set_iterator":=⟨_,pq,rfl⟩
 unfold pyNext
 refine ag (jR (cJ (name:=Str.ofString "__next__") T eT (cN eT T lF ?_ (lG _))))
 show wpAny _ _ (fieldsOf (.ref it) >>= _) _ _ s
 refine ag (lc pq rfl ?_)
 dsimp only
 refine ag (gn ho hd hS.fits ?_)
 rw[aJ (by rw[hn];simp)]
 show wpAny _ _ (setNext S (sl:Int).toNat (i:Int).toNat (ep:Int).toNat >>= _) _ _ s
 simp only[bu]
 refine ag (hx _ _ ?_)
 dsimp only
 refine ag (fN pq #[18] fun g e1 e2=>ag (fN e1 #[18] fun g2 e3 e4=>aA ⟨_,rfl,aA (q g2 (by simpa using e3) (e2.trans e4))⟩))
theorem x6{S:Addr}{sl:Nat}{es:Array (Int×Value)}{t:SetTable}{Q:Option Value->Shared->Prop}(hh:A.handled=none)(pq:s.heap.get? it=some (qe (rawInt sl) i S n ep))(hS:jt w s.heap S es ep t)(hn:es.size=n)
  (hx:∀(Q':Option (Value×Nat)->Shared->Prop) (E':Value->Shared->Prop),Q' none s->wpAny #[9] A.in1 (setNext S sl i ep) Q' E' s)
  (q:∀g,(∀b o,b≠it->s.heap.get? b=some o->g.get? b=some o)->Q none { s with heap:=g }):wpAny #[9] A (pyNext (.ref it)) Q E s:=by
 obtain⟨o,ho,xE,hd⟩:=hS.ex
 have T:Shared.TypeIs s (.ref it) "set_iterator":=⟨_,pq,rfl⟩
 unfold pyNext
 refine ag (jR (cJ (name:=Str.ofString "__next__") T eT (cN eT T lF ?_ (lG _))))
 show wpAny _ _ (fieldsOf (.ref it) >>= _) _ _ s
 refine ag (lc pq rfl ?_)
 dsimp only
 refine ag (gn ho hd hS.fits ?_)
 rw[aJ (by rw[hn];simp)]
 show wpAny _ _ (setNext S (sl:Int).toNat (i:Int).toNat (ep:Int).toNat >>= _) _ _ s
 simp only[bu]
 refine ag (hx _ _ ?_)
 dsimp only
 refine ag (fN pq #[18] fun g e1 e2=>u0 (s:={ s with heap:=g }) (show A.in1.handled=none from hh) fun g3 e kp hx=>?_)
 obtain⟨ox,hox,hcx⟩:=hx
 exact ag (gG (T:="StopIteration") (b:=true) ⟨ox,hox,hcx⟩ pF (aA (q g3 fun b o hb e=>kp b o (e2.extBut b o hb e))))
end
theorem tM:Slot "set_iterator" "__iter__" "set_iterator.__iter__":=.of (owner:="set_iterator") (n:="__iter__") (by rw[nR,jy];kernel_rfl) (by decide +kernel) (by decide +kernel) (by decide +kernel) (by first|exact .inl (by decide +kernel)|exact .inr (by decide +kernel)) (by rw[dH];kernel_rfl)
theorem zx(a:Value):argsOk "set_iterator.__iter__" ⟨[a],[]⟩:=by unfold argsOk;kernel_rfl
theorem zy:entryFor table "set_iterator.__iter__"=some Builtin.«dict_keyiterator.__iter__»:=entryFor_alias (id':="dict_keyiterator.__iter__") (by kernel_rfl) (by first|rfl|decide +kernel|(unfold String.splitOn;simp +decide [String.splitOnAux])) (by decide +kernel) (by kernel_rfl)
section
variable{w:World}
theorem zz{S:Addr}{f:Value}{i:Int}(pq:s.heap.get? it=some (qe f i S n ep))(q:Q (.ref it) s):wpAny #[9] A (pyIter (.ref it)) Q E s:=by
 have T:Shared.TypeIs s (.ref it) "set_iterator":=⟨_,pq,rfl⟩
 exact wpAny_pyIter_slot T tM (cN tM T zy (aA ⟨_,rfl,"set_iterator",_,T,eT.lookup,q⟩) (zx _))
theorem BZ(hh:A.handled=none){S p:Addr}{ep:Nat}{es:Array (Int×Value)}{t:SetTable}{pl:List Nat}(j':pl.Perm (List.range n))(hn:es.size=n)(h1:it≠S)(h2:it≠p) :
  Walks prog w A it [it,p,S] [it] n (fun i v=>∃k x,pl[i]?=some k/\es[k]?=some x/\v=x.2) (fun i h=>i<=n/\h.get? it=some (qe (.ref p) i S n ep)/\(∃o,h.get? p=some o/\o.cls=.type "tuple"/\∃e,o.data=.seq (pl.map fun k:Nat=>rawInt k).toArray e)/\jt w h S es ep t) where
 sub:=fun b hb=>by simp at hb;simp[hb]
 frame:=fun i h h' st k=>⟨st.1,k it #[18] _ st.2.1,(let ⟨o,ho,r⟩:=st.2.2.1;⟨o,k p #[18] o ho,r⟩),st.2.2.2.keep fun o ho=>k S #[18] o ho⟩
 item:=fun i s Q E hi st q=>by
  obtain⟨_,pq,⟨op,hop,hcp,e,hdp⟩,hS⟩:=st
  have hl:pl.length=n:=by have:=j'.length_eq;simpa using this
  have hk:pl[i]?=some pl[i]:=aq #[0]
  have hkn:pl[i]<es.size:=by rw[hn];exact df.mp (j'.mem_iff.mp (dw #[0]))
  refine EU pq hS hn ⟨op,hop,hcp,hdp⟩ (k:=pl[i]) (x:=es[pl[i]]) (by simp[hk]) (by simp[hkn]) fun g a b=>q _ g s.toks ⟨pl[i],es[pl[i]],hk,by simp[hkn],rfl⟩ ⟨hi,?_,⟨op,b.extBut p op (Ne.symm h2) hop,hcp,e,hdp⟩,hS.keep fun o ho=>b.extBut S o (Ne.symm h1) ho⟩ fun c o hc ho=>b.extBut c o (fun z=>hc (by simp[z])) ho
  rw[a];rfl
 done:=fun s Q E st q=>by
  obtain⟨_,pq,⟨op,hop,hcp,e,hdp⟩,hS⟩:=st
  have hl:pl.length=n:=by have:=j'.length_eq;simpa using this
  exact v_ hh pq hS hn ⟨op,hop,hcp,hdp⟩ (by simp[hl]) fun g kp=>q g s.toks fun c o hc ho=>kp c o (fun z=>hc (by simp[z])) ho
 self:=fun i s Q E st q=>zz st.2.1 q
theorem EV(hh:A.handled=none){S:Addr}{ep:Nat}{es:Array (Int×Value)}{t:SetTable}{vs:List Value}{sl:Nat->Nat}(hv:vs.length=n)(hn:es.size=n)(h1:it≠S)
  (hx:∀(s:Shared) (i:Nat),jt w s.heap S es ep t->i<=n->∀(A:Around) (Q':Option (Value×Nat)->Shared->Prop) (E':Value->Shared->Prop),Q' ((vs[i]?).map fun v=>(v,sl (i+1))) s->wpAny #[9] A (setNext S (sl i) i ep) Q' E' s) :
  Walks prog w A it [it,S] [it] n (fun i v=>vs[i]?=some v) (fun i h=>i<=n/\h.get? it=some (qe (rawInt (sl i)) i S n ep)/\jt w h S es ep t) where
 sub:=fun b hb=>by simp at hb;simp[hb]
 frame:=fun i h h' st k=>⟨st.1,k it #[18] _ st.2.1,st.2.2.keep fun o ho=>k S #[18] o ho⟩
 item:=fun i s Q E hi st q=>by
  obtain⟨_,pq,hS⟩:=st
  have hk:vs[i]?=some vs[i]:=aq #[0]
  refine Go (x:=vs[i]) (sl':=sl (i+1)) pq hS hn (fun Q' E' y=>hx s i hS (fW hi) _ Q' E' (by rw[hk];exact y)) fun g a b=>q _ g s.toks hk ⟨hi,?_,hS.keep fun o ho=>b.extBut S o (Ne.symm h1) ho⟩ fun c o hc ho=>b.extBut c o (fun z=>hc (by simp[z])) ho
  rw[a];rfl
 done:=fun s Q E st q=>by
  obtain⟨_,pq,hS⟩:=st
  have hk:vs[n]?=none:=bq #[0]
  exact x6 hh pq hS hn (fun Q' E' y=>hx s n hS (ay _) _ Q' E' (by rw[hk];exact y)) fun g kp=>q g s.toks fun c o hc ho=>kp c o (fun z=>hc (by simp[z])) ho
 self:=fun i s Q E st q=>zz st.2.1 q
end
section
variable{w:World}
theorem pK{Q:Bool->Shared->Prop}(q:Q (ue w) s):wpAny #[9] A setsByText Q E s:=by
 unfold setsByText
 exact ag (mO (aA q))
theorem EW{S:Addr}{es:Array (Int×Value)}{t:SetTable}{Q:Option (Value×Nat)->Shared->Prop}(hb:ue w=true)(hS:jt w s.heap S es ep t)
  (q:Q ((((pickOrder (w.params.setOrder S ep) es).toList.map (·.2))[i]?).map fun v=>(v,0)) s):wpAny #[9] A (setNext S 0 i ep) Q E s:=by
 obtain⟨o,ho,xE,hd⟩:=hS.ex
 unfold setNext
 refine ag (fZ ho hd hS.fits ?_)
 dsimp only
 refine ag (pK ?_)
 rw[hb,aC rfl,aJ #[18]]
 unfold setWalk
 refine ag (ag (fZ ho hd hS.fits ?_))
 dsimp only
 refine ag (pK ?_)
 rw[hb,aC rfl]
 refine ag (mO (aA (aA ?_)))
 have e:((pickOrder (w.params.setOrder S ep) es)[i]?).map (fun e=>(e.2,0))=(((pickOrder (w.params.setOrder S ep) es).toList.map (·.2))[i]?).map fun v=>(v,0):=by
  rw[aG,fO,Option.map_map];rfl
 show Q (((pickOrder (w.params.setOrder S ep) es)[i]?).map fun e=>(e.2,0)) s
 rw[e];exact q
theorem wJ(p:Nat):SetTable.below #[p] 0=0/\SetTable.below #[p] (p+1)=1:=by
 unfold SetTable.below
 constructor
 ·simp[SetTable.below.go]
 ·simp[SetTable.below.go]
theorem Gp{S:Addr}{es:Array (Int×Value)}{t:SetTable}{Q:Option (Value×Nat)->Shared->Prop}(hb:ue w=false)(hS:jt w s.heap S es ep t)(QU:t.led=true)(h1:es.size<=1)(hi:i<=es.size)
  (q:Q (((es.toList.map (·.2))[i]?).map fun v=>(v,if i+1=0 then 0 else t.place.getD 0 0+1)) s):wpAny #[9] A (setNext S (if i=0 then 0 else t.place.getD 0 0+1) i ep) Q E s:=by
 obtain⟨o,ho,xE,hd⟩:=hS.ex
 have hf:=hS.fits
 have hps:t.place.size=es.size:=by
  unfold SetTable.fits at hf
  simp only[cO,dL]at hf
  exact hf.1
 unfold setNext
 refine ag (fZ ho hd hS.fits ?_)
 dsimp only
 refine ag (pK ?_)
 rw[hb,aJ eJ]
 show wpAny _ _ (if (!t.plain&&decide (es.size>1))=true then _ else _) _ _ _
 rw[aJ (by simp;omega)]
 show wpAny _ _ ((if (!t.led&&!es.isEmpty)=true then _ else pure ()) >>= _) _ _ _
 rw[aJ (by simp[QU])]
 refine ag (aA (aA ?_))
 by_cases hz:es.size=0
 ·have e1:es=#[]:=gE hz
  subst e1
  simpa using q
 ·have hs1:es.size=1:=by omega
  obtain⟨x,rfl⟩:∃x,es=#[x]:=by
   obtain⟨l⟩:=es
   obtain⟨x,e⟩:=fB.mp hs1
   exact⟨x,iJ Array.mk e⟩
  obtain⟨p,hp⟩:∃p,t.place=#[p]:=by
   generalize t.place=pl at hps
   obtain⟨l⟩:=pl
   obtain⟨x,e⟩:=fB.mp hps
   exact⟨x,iJ Array.mk e⟩
  rw[hp]at q ⊢
  rcases(show i=0\/i=1 by simp at hi;omega)with rfl|rfl
  ·simp[wJ]at q ⊢;exact q
  ·simp[wJ]at q ⊢;exact q
end
theorem x8[Inhabited β](f:Nat->β)(xs:List α)(g:α->β)(n:Nat)(hn:xs.length=n)(hf:∀i x,xs[i]?=some x->f i=g x):(List.range n).map f=xs.map g:=by
 apply d6
 intro i
 rw[aG,aG]
 by_cases h:i<n
 ·rw[cU h,aq #[0]]
  exact iJ some (hf i _ (aq #[0]))
 ·rw[bq (by simp;omega),bq #[0]];rfl
section
variable{w:World}
theorem Gq{S:Addr}{es:Array (Int×Value)}{t:SetTable}(hS:jt w s.heap S es ep t)(Kd:Dr w es.size t)(hsz:es.size<=sizeLine)
  (q:∀(g:Heap) (d:Drawn) (it:Addr) (fp:List Addr) (P:Nat->Value->Prop) (St:Nat->Heap->Prop),(∀A:Around,A.handled=none->Walks prog w A it fp [it] es.size P St)->St 0 g->s.heap.objs.size<=it->(∀b∈fp,b=S\/s.heap.objs.size<=b)->(∀b∈fp,b<g.objs.size)->(∀b o,s.heap.get? b=some o->g.get? b=some o) ->
   (∀gg,ItemsOf P gg es.size->gg.toList.Perm (es.toList.map (·.2)))->Q (.ref it) { s with heap:=g,drawn:=d }):wpAny #[9] A (pyIter (.ref S)) Q E s:=by
 obtain⟨o,ho,xE,hd⟩:=hS.ex
 have T:Shared.TypeIs s (.ref S) "set":=⟨o,ho,xE.1⟩
 have hSlt:=aP ho
 refine wpAny_pyIter_slot T PySem.F.slot_set_iter (cN PySem.F.slot_set_iter T zr ?_ (PySem.F.args_set_iter_1 _))
 show wpAny _ _ (Builtin.Frozenset.sizeOf S >>= _) _ _ s
 unfold Builtin.Frozenset.sizeOf
 refine ag (ag (gn ho hd hS.fits (aA ?_)))
 unfold setDrawn
 refine ag (ag (fZ ho hd hS.fits ?_))
 dsimp only
 refine ag (pK (aA ?_))
 by_cases hdr:(!ue w&&(!t.plain&&decide (es.size>1)))=true
 ·show wpAny _ _ (if (!ue w&&(!t.plain&&decide (es.size>1)))=true then _ else _) _ _ _
  rw[aC hdr]
  refine ag (zw es.size (List.range es.size) _ _ #[18] fun pl hp d=>?_)
  have hl:pl.length=es.size:=by have:=hp.length_eq;simpa using this
  refine ag (wpAny_newTuple ?_ (by rw[az,hl];exact hsz))
  have hS1:jt w (s.heap.push { cls:=.type "tuple",data:=.seq (pl.map fun i:Nat=>rawInt i).toArray }) S es ep t:=hS.keep fun o e=>av _ e
  obtain⟨o1,ho1,_,hd1⟩:=hS1.ex
  refine ag (wpAny_setEpoch_of (s:={ s with heap:=s.heap.push { cls:=.type "tuple",data:=.seq (pl.map fun i:Nat=>rawInt i).toArray },drawn:=d }) ho1 hd1 hS.fits ?_)
  refine ag (cD (aA ⟨_,rfl,"set_iterator",_,⟨_,aO _ rfl,rfl⟩,eT.lookup,?_⟩))
  have z:(s.heap.push { cls:=.type "tuple",data:=.seq (pl.map fun i:Nat=>rawInt i).toArray }).objs.size=s.heap.objs.size+1:=cm ..
  refine q _ d _ [_,s.heap.objs.size,S] _ _ (fun A hA=>BZ (p:=s.heap.objs.size) (t:=t) (ep:=ep) hA hp rfl ?_ ?_) ⟨bU _,aO _ rfl,⟨_,av _ (aO _ rfl),rfl,0,rfl⟩,hS1.keep fun o e=>av _ e⟩ ?_ (fun b hb=>?_) (fun b hb=>?_) (fun b o e=>av _ (av _ e)) fun gg hacc=>?_
  ·rw[z];exact eP (cX hSlt)
  ·rw[z];exact Nat.succ_ne_self _
  ·rw[z];exact bB _
  ·simp only[a7,fE,mP]at hb
   rcases hb with rfl|rfl|rfl
   ·rw[z];exact .inr (bB _)
   ·exact .inr (ay _)
   ·exact .inl rfl
  ·simp only[a7,fE,mP]at hb
   have z2:∀o2,((s.heap.push { cls:=.type "tuple",data:=.seq (pl.map fun i:Nat=>rawInt i).toArray }).push o2).objs.size=s.heap.objs.size+2:=fun o2=>by rw[cm,z]
   rw[z2]
   rcases hb with rfl|rfl|rfl
   ·rw[z];exact cM _
   ·exact cX (cM _)
   ·exact cX (cX hSlt)
  ·have e:gg.toList=pl.map fun k=>(es.getD k (0,.none)).2:=by
    apply d6
    intro i
    rw[aG]
    by_cases hi:i<es.size
    ·have hia:i<gg.size:=by rw[hacc.1];exact hi
     have ha:gg[i]?=some (gg[i]'hia):=eF hia
     obtain⟨k,x,h1,h2,h3⟩:=hacc.2 i _ ha
     rw[fO,ha,h1]
     have:es.getD k (0,.none)=x:=by rw[kF,h2];rfl
     rw[h3]
     show some x.2=some (es.getD k (0,.none)).2
     rw[this]
    ·rw[bq (by rw[d8,hacc.1];omega),bq #[0]];rfl
   rw[e]
   refine(hp.map _).trans (List.Perm.of_eq ?_)
   exact x8 _ es.toList (·.2) es.size #[18] fun i x hx=>by
    have hx':es[i]?=some x:=by rw[<- fO];exact hx
    rw[kF,hx'];rfl
 ·show wpAny _ _ (if (!ue w&&(!t.plain&&decide (es.size>1)))=true then _ else _) _ _ _
  rw[aJ hdr]
  refine ag (aA (ag (wpAny_setEpoch_of ho hd hS.fits ?_)))
  refine ag (cD (aA ⟨_,rfl,"set_iterator",_,⟨_,aO _ rfl,rfl⟩,eT.lookup,?_⟩))
  have ie:∀(vs:List Value) (sl:Nat->Nat),sl 0=0->vs.Perm (es.toList.map (·.2))->(∀(s:Shared) (i:Nat),jt w s.heap S es ep t->i<=es.size->∀(A:Around) (Q':Option (Value×Nat)->Shared->Prop) (E':Value->Shared->Prop),Q' ((vs[i]?).map fun v=>(v,sl (i+1))) s->wpAny #[9] A (setNext S (sl i) i ep) Q' E' s) ->
    Q (.ref s.heap.objs.size) { s with heap:=s.heap.push (qe (rawInt 0) 0 S es.size ep) }:=fun vs sl h0 hp hx=>by
   have hl:vs.length=es.size:=by have:=hp.length_eq;simpa using this
   refine q _ s.drawn s.heap.objs.size [s.heap.objs.size,S] _ _ (fun A hA=>EV (t:=t) (ep:=ep) (vs:=vs) (sl:=sl) hA hl rfl (eP hSlt) hx) ⟨bU _,?_,hS.keep fun o e=>av _ e⟩ (ay _) (fun b hb=>?_) (fun b hb=>?_) (fun b o e=>av _ e) fun gg hacc=>?_
   ·rw[h0];exact aO _ rfl
   ·simp only[a7,fE,mP]at hb
    rcases hb with rfl|rfl
    ·exact .inr (ay _)
    ·exact .inl rfl
   ·simp only[a7,fE,mP]at hb
    rw[cm]
    rcases hb with rfl|rfl
    ·exact cM _
    ·exact cX hSlt
   ·have e:gg.toList=vs:=by
     apply d6
     intro i
     by_cases hi:i<es.size
     ·have hia:i<gg.size:=by rw[hacc.1];exact hi
      have ha:gg[i]?=some (gg[i]'hia):=eF hia
      rw[fO,ha,hacc.2 i _ ha]
     ·rw[bq (by rw[d8,hacc.1];omega),bq #[0]]
    rw[e];exact hp
  cases hb:ue w with
  |true=>exact ie ((pickOrder (w.params.setOrder S ep) es).toList.map (·.2)) (fun _=>0) rfl ((ET _ _).map _) fun s i hS' hi A Q' E' y=>EW hb hS' y
  |false=>
   have h1:es.size<=1:=by
    rcases Kd.2 with z|z
    ·omega
    ·rw[hb,z]at hdr;simp at hdr;omega
   have QU:t.led=true:=Kd.1.resolve_left (by rw[hb];exact eJ)
   exact ie (es.toList.map (·.2)) (fun i=>if i=0 then 0 else t.place.getD 0 0+1) rfl (ii _) fun s i hS' hi A Q' E' y=>Gp hb hS' QU h1 hi y
end
section
variable{w:World}
theorem Gs{S:Addr}{Q:Bool->Shared->Prop}(T:s.TypeIs (.ref S) "set")(q:Q false s):wpAny #[9] A (Builtin.List.listLengthHint (.ref S)) Q E s:=by
 unfold Builtin.List.listLengthHint
 refine ag (nT T PySem.F.slot_set_len.lookup ?_)
 generalize hid:("set.__len__":String)=id0
 wp_delta
 rw[show splitId id0=some ("set","__len__")from by subst hid;decide +kernel]
 subst hid
 refine ag (gG (T:="set") (b:=true) T (by rw[dH];kernel_rfl) ?_)
 refine nU (fun y=>absurd y #[1]) (fun _=>nU (fun _=>?_) (fun y=>absurd (by decide +kernel) y))
 exact ag (gR T (aA q))
theorem zA{S:Addr}{es:Array (Int×Value)}{t:SetTable}{Q:List Value->Shared->Prop}(hS:jt w s.heap S es ep t)(Kd:Dr w es.size t)(hsz:es.size<=sizeLine)(hh:A.handled=none)
  (q:∀(g:Heap) (d:Drawn) (tk:Nat) (vs:List Value),(∀b o,s.heap.get? b=some o->g.get? b=some o)->vs.Perm (es.toList.map (·.2))->Q vs { s with heap:=g,drawn:=d,toks:=tk }):wpAny #[9] A (collect (.ref S)) Q E s:=by
 obtain⟨o,ho,xE,hd⟩:=hS.ex
 have hSlt:=aP ho
 unfold collect
 refine ag (pG (c6 entry_proto_collect' ?_))
 rw[cQ PySem.F.plain_proto_collect _]
 show wpAny _ A.in1 (newList [] >>= fun l=>again (.builtin "list.__iadd__" ⟨[l,.ref S],[]⟩)) _ _ s
 refine ag (cD (aA ⟨eQ PySem.F.plain_list_iadd _,c6 entry_list_iadd' ?_⟩))
 rw[cQ PySem.F.plain_list_iadd _]
 generalize hL:s.heap.objs.size=L
 have gL:(s.heap.push { cls:=.type "list",data:=.seq ([]:List Value).toArray }).get? L=some { cls:=.type "list",data:=.seq #[] }:=by rw[<- hL];exact aO _ rfl
 have hS1:jt w (s.heap.push { cls:=.type "list",data:=.seq ([]:List Value).toArray }) S es ep t:=hS.keep fun o e=>av _ e
 have z1:(s.heap.push { cls:=.type "list",data:=.seq ([]:List Value).toArray }).objs.size=L+1:=by rw[cm,hL]
 have kp1:∀b o,s.heap.get? b=some o->(s.heap.push { cls:=.type "list",data:=.seq ([]:List Value).toArray }).get? b=some o:=fun b o e=>av _ e
 have bL:∀b o,s.heap.get? b=some o->b≠L:=fun b o e=>by rw[<- hL];exact aY (aP e)
 generalize s.heap.push { cls:=.type "list",data:=.seq ([]:List Value).toArray }=h1 at gL hS1 z1 kp1 ⊢
 have vS:L≠S:=by rw[<- hL];exact eP hSlt
 obtain⟨o1,ho1,hex1,hd1⟩:=hS1.ex
 have T:Shared.TypeIs { s with heap:=h1 } (.ref S) "set":=⟨o1,ho1,hex1.1⟩
 show wpAny _ A.in1 (Builtin.List.listExtendWith (.ref L) (.ref S) (.ref L)) _ _ _
 unfold Builtin.List.listExtendWith
 refine ag (gR (T:="set") T ?_)
 have e1:Builtin.List.listSameRef (.ref L) (.ref S)=false:=by simp[Builtin.List.listSameRef,vS]
 have e2:(Value.type "set" == Value.type "list")=false:=by decide
 have e3:(Value.type "set" == Value.type "tuple")=false:=by decide
 simp only[e1,e2,e3,ms,gP,iK]
 refine ag (Gq (s:={ s with heap:=h1 }) hS1 Kd hsz fun g d it fp P St W st pq T7 hfl kp2 hperm=>?_)
 have gL2:=kp2 _ _ gL
 have hLf:L∉fp:=fun hm=>by
  rcases T7 L hm with y|y
  ·exact vS y
  ·rw[show Shared.heap { s with heap:=h1 }=h1 from rfl,z1]at y;exact absurd y (Nat.not_le.mpr (cM _))
 obtain⟨o2,ho2,hex2,hd2⟩:=(hS1.keep fun o e=>kp2 S o e).ex
 refine ag (dm (Gs (s:={ s with heap:=g,drawn:=d }) ⟨o2,ho2,hex2.1⟩ ?_))
 have itL:it≠L:=fun y=>by
  have:=pq
  rw[show Shared.heap { s with heap:=h1 }=h1 from rfl,z1,y]at this
  exact absurd this (Nat.not_le.mpr (cM _))
 have old:∀b o,s.heap.get? b=some o->b≠it:=fun b o e y=>by
  have h2:=aP (kp1 b o e)
  have h3:=pq
  rw[show Shared.heap { s with heap:=h1 }=h1 from rfl]at h3
  rw[y]at h2
  exact absurd h2 (i5.mpr h3)
 have key:∀(g':Heap) (c tk:Nat),St 0 g'->(∀b o,b≠L->g.get? b=some o->g'.get? b=some o)->g'.get? L=some { cls:=.type "list",data:=.seq #[] c } ->
   codeAny #[9] A (.builtin "list.extend.loop" ⟨[.ref L,.ref it,.ref L],[]⟩) (wants (fun r s'=>wpAny #[9] A (match r with|.ref a=>(do match (<- load a).data with|.seq xs _=>pure xs.toList|_=>unsupported "internal:collect")|_=>unsupported "internal:collect") Q E s') E) { s with heap:=g',drawn:=d,toks:=tk }:=by
  intro g' c tk bF kp3 gL3
  refine codeAny_extend_loopS (W A.in1 (by simpa using hh)).toS hsz L hLf (.ref L) es.size 0 _ #[] c rfl (bU _) bF gL3 (ItemsOf.nil _) fun s' gg c' hm gL4 hacc=>?_
  have ee:s'={ s with heap:=s'.heap,drawn:=d,toks:=s'.toks }:=by
   have h1:=hm.gens
   have h2:=hm.drawn
   have h3:=hm.os
   cases s'
   simp only at h1 h2 h3
   subst h1;subst h2;subst h3;rfl
  refine ag (wpAny_load gL4 (aA ?_))
  rw[ee]
  refine q s'.heap d s'.toks gg.toList (fun b o e=>hm.heap b o (fun y=>?_) (kp3 b o (bL b o e) (kp2 b o (kp1 b o e)))) (hperm gg hacc)
  rcases a7.mp y with y|y
  ·exact bL b o e y
  ·exact old b o e (aV.mp y)
 refine nU (fun _=>?_) (fun _=>aA ⟨eQ PySem.F.plain_extend_loop _,key g 0 _ st (fun _ _ _ e=>e) gL2⟩)
 refine ag (nB (ag ?_))
 show wpAny _ _ (updateSeq L (·.push .none) >>= fun _=>updateSeq L (·.pop)) _ _ _
 refine ag (nV gL2 rfl ?_)
 have g5:=dF (Obj.mapSeq (·.push Value.none)) gL2 rfl
 refine nV (hz:=by seq_fits) g5 rfl ?_
 have g6:=dF (Obj.mapSeq (·.pop)) g5 rfl
 refine aA ⟨eQ PySem.F.plain_extend_loop _,key _ _ _ ((W A hh).frame 0 _ _ st fun b hb o e=>?_) (fun b o hb e=>?_) g6⟩
 ·have hbL:b≠L:=fun y=>hLf (y▸hb)
  exact(cP _ _ (Ne.symm hbL)).trans ((cP _ _ (Ne.symm hbL)).trans e)
 ·exact(cP _ _ (Ne.symm hb)).trans ((cP _ _ (Ne.symm hb)).trans e)
end
end L2
namespace L2
open PySem PySem.Spec PyProof.Rows
section
variable{w:World}
theorem B0{S:Addr}(z:uZ prog w n s.heap S ks)(few:ks.length<64)(hh:A.handled=none)
  (q:∀(g0 g1:Heap) (d:Drawn) (tk:Nat) (out:Array Value) (ss:List Str) (e:Nat),(∀b o,s.heap.get? b=some o->g0.get? b=some o)->(∀b o,g0.get? b=some o->g1.get? b=some o)->g1.get? g0.objs.size=some (seqObj "list" out e) ->
   iA n out.toList->StrsAre out.toList ss->ss.Perm ks->sortedS ss=true->Q (.ref g0.objs.size) { s with heap:=g1,drawn:=d,toks:=tk }):wpAny #[9] A (call (.builtin "sorted") [.ref S]) Q E s:=by
 obtain⟨o,es,ep,t,ho,xE,hd,hel,hp,hb,hf,Kd,hta⟩:=z
 have hS:jt w s.heap S es ep t:=⟨⟨o,ho,xE,hd⟩,hf⟩
 have dU:es.size=ks.length:=by have:=hp.length_eq;simpa using this
 apply lE kind_sorted plain_sorted entry_sorted (args_sorted1 _)
 show wpAny _ _ (checkCount "sorted" 1 1 _ >>= _) _ _ _
 refine ag (aA (ag (zA hS Kd (by rw[lU];omega) (by simpa using hh) fun g d tk vs kp pv=>?_)))
 have hv:∀v∈vs,∃x t,v=Value.str x t:=fun v hv=>by
  obtain⟨e,he,rfl⟩:=b8.mp (pv.mem_iff.mp hv)
  obtain⟨t,ht⟩:=zu hel e he
  exact⟨_,t,ht⟩
 have mT:=strsAre_map vs hv
 have hks:(vs.map strOf).Perm ks:=by
  refine(pv.map strOf).trans ?_
  rw[bp];exact hp
 have hvl:vs.length<64:=by have:=hks.length_eq;rw[az]at this;omega
 refine ag (wpAny_newList ?_ (by rw[lU];omega))
 have oL:(g.push (seqObj "list" vs.toArray 0)).get? g.objs.size=some (seqObj "list" vs.toArray 0):=aO _ rfl
 refine ag (dm (cN slot_list_sort ⟨_,oL,rfl⟩ entry_list_sort (list_sort_treeK qz oL mT.keysOf (fun a b r e=>sA (by rw[<- e];exact mT)) hvl fun st a1 a2=>⟨_,rfl,?_⟩) (args_list_sort _)))
 obtain⟨ss,h1,h2,h3⟩:=pD mT a1 a2
 obtain⟨e,he⟩:=sortedHeap_at (out:=(arrOf st).map (·.2)) oL
 refine aA ⟨_,rfl,q g _ d tk _ ss e kp (fun b o hb=>?_) he (fun x t hx=>hta x t (pv.mem_iff.mp (uY a1 _ hx))) h1 (h2.trans hks) h3⟩
 rw[sortedHeap_old (aY (aP hb)) (by rw[cm];exact cX (aP hb))]
 exact av _ hb
abbrev R9(ty:String)(x:Str)(t:Tok):Obj:={ cls:=.type ty,data:=.fields #[.str x t,.int 0 0] }
theorem Gu{t:Tok}(Bg:0<s.toks)(hh:A.handled=none)(hb:l.length+1<scanBound)
  (q:∀g tk,s.toks<=tk->Mn prog w tk (fun j=>tx [l.getD j 0]) g s.heap.objs.size l.length->(∀b o,s.heap.get? b=some o->g.get? b=some o)->Q (.ref s.heap.objs.size) { s with heap:=g,toks:=tk }):wpAny #[9] A (call (.type "set") [.str (tx l) t]) Q E s:=by
 have z:(s.heap.push (dX w)).objs.size=s.heap.objs.size+1:=cm ..
 have hn:(tx l).cps.size=l.length:=by simp[tx]
 have Bf:∀i v,SignAt (tx l) i v->∃t,v=Value.str (tx [l.getD i 0]) t:=by
  rintro i v ⟨c,u,hc,rfl⟩
  have:l[i]?=some c:=by simpa[tx]using hc
  exact⟨u,by rw[aT,this];rfl⟩
 have hT:Shared.TypeIs { s with heap:=s.heap.push (dX w) } (.str (tx l) t) "str":=jG _ _ _
 rw[<- hn]at hb q
 cases ha:(tx l).cps.all (· < 128)
 ·refine l9 (T:="str") (fp:=fun it=>[it]) (P:=SignAt (tx l)) (St:=fun it i h=>h.IsStrIter it "str_iterator" (tx l) t i) hT (by rw[dH];kernel_rfl) (by rw[dH];kernel_rfl) #[1]
   (fun A E Q y=>lW ha (by show Q (.ref (s.heap.push (dX w)).objs.size) _;rw[z];exact y)) (fun A it hA _=>Walks.strWide hA it (tx l) t) #[18] ⟨R9 "str_iterator" (tx l) t,?_,rfl,rfl⟩ Bf hh hb (fun A hA i s' Q E hn hi st q=>by
    obtain⟨c,hx⟩:∃c,(tx l).cps[i]?=some c:=⟨_,eF hi⟩
    refine jl st hx fun h' bF hs=>q _ h' (s'.toks+1) (bB _) (fun x u hx' _=>?_) ⟨c,_,hx,rfl⟩ bF fun b o hb e=>hs.extBut b o (fun z=>hb (by simp[z])) e
    rw[aV]at hx'
    cases hx'
    exact⟨aS Bg hn,cM _⟩) q
  rw[<- z];exact aO _ rfl
 ·refine l9 (T:="str") (fp:=fun it=>[it]) (P:=SignAt (tx l)) (St:=fun it i h=>h.IsStrIter it "str_ascii_iterator" (tx l) t i) hT (by rw[dH];kernel_rfl) (by rw[dH];kernel_rfl) #[1]
   (fun A E Q y=>k_ ha (by show Q (.ref (s.heap.push (dX w)).objs.size) _;rw[z];exact y)) (fun A it hA _=>Walks.strAscii hA it (tx l) t) #[18] ⟨R9 "str_ascii_iterator" (tx l) t,?_,rfl,rfl⟩ Bf hh hb (fun A hA i s' Q E hn hi st q=>by
    obtain⟨c,hx⟩:∃c,(tx l).cps[i]?=some c:=⟨_,eF hi⟩
    refine i_ st hx fun h' bF hs=>q _ h' (s'.toks+1) (bB _) (fun x u hx' _=>?_) ⟨c,_,hx,rfl⟩ bF fun b o hb e=>hs.extBut b o (fun z=>hb (by simp[z])) e
    rw[aV]at hx'
    cases hx'
    exact⟨aS Bg hn,cM _⟩) q
  rw[<- z];exact aO _ rfl
theorem KY(hh:A.handled=none)(hb:l.length+1<scanBound)(ht:s.heap.IsTuple a bT.toArray)(hv:cR s.toks (jb l) bT)
  (q:∀g tk,s.toks<=tk->Mn prog w tk (fun j=>tx [l.getD j 0]) g s.heap.objs.size l.length->(∀b o,s.heap.get? b=some o->g.get? b=some o)->Q (.ref s.heap.objs.size) { s with heap:=g,toks:=tk }):wpAny #[9] A (call (.type "set") [.ref a]) Q E s:=by
 have z:(s.heap.push (dX w)).objs.size=s.heap.objs.size+1:=cm ..
 have hn:bT.toArray.size=l.length:=by have:=hv.length;unfold jb at this;simpa using this.symm
 have ha:a<s.heap.objs.size:=by obtain⟨o,ho,_⟩:=ht;exact aP ho
 have ht1:(s.heap.push (dX w)).IsTuple a bT.toArray:=ht.at fun o e=>av _ e
 have Bf:∀i v,bT.toArray[i]?=some v->∃t,v=Value.str (tx [l.getD i 0]) t:=by
  intro i v hi
  have hi':bT[i]?=some v:=by simpa using hi
  have hlt:i<l.length:=by
   have:=(aj.mp hi').1
   rw[<- hn];simpa using this
  have hx:(jb l)[i]?=some (.str (tx [l.getD i 0])):=by
   unfold jb
   rw[aG,aq hlt,aT,aq hlt];rfl
  obtain⟨u,hu,t,e⟩:=hv.get hx
  rw[hi']at hu
  exact⟨t.1,(bn hu).trans e⟩
 rw[<- hn]at hb q
 refine l9 (T:="tuple") (fp:=fun it=>[it,a]) (P:=fun i v=>bT.toArray[i]?=some v) (St:=fun it i h=>h.IsTupleIter it a i/\h.IsTuple a bT.toArray) ht1.typeIs (by rw[dH];kernel_rfl) (by rw[dH];kernel_rfl) #[1]
  (fun A E Q y=>i3 ht1 (by show Q (.ref (s.heap.push (dX w)).objs.size) _;rw[z];exact y)) (fun A it hA e=>Walks.tuple hA it a (by rw[e];exact aY (cX ha)) bT.toArray) (by simp;exact fun e=>absurd ha (by rw[<- e];exact dh _)) ⟨⟨{ cls:=.type "tuple_iterator",data:=.fields #[.ref a,.int 0 0] },?_,rfl,rfl⟩,?_⟩ Bf hh hb (fun A hA i s' Q E hn hi st q=>by
   refine up ((Walks.tuple hA #[17] a (aY (cX ha)) bT.toArray).item i s' _ _ hi st fun v h' tk hp bF kp js=>q v h' tk js (fun x u hx=>?_) hp bF kp)
   rw[aV]at hx
   subst hx
   exact((rD hv).up (aH hn js)) x u (by have hp:bT.toArray[i]?=some _:=hp;exact bC (by simpa using hp))) q
 ·rw[<- z];exact aO _ rfl
 ·exact ht1.at fun o e=>av _ e
end
theorem KZ{ss:List Str}(hp:ss.Perm ks)(Vx:ks.Nodup)(hm:∀x,x∈ks↔∃j,j<l.length/\tx [l.getD j 0]=x)(hs:sortedS ss=true) :
  ∃m:List Nat,ss=m.map (fun c=>tx [c])/\m.Nodup/\m.Pairwise (· <= ·)/\∀c,c∈m↔c∈l:=by
 have all:∀z∈ss,tx [z.cps.toList.headD 0]=z:=fun z hz=>by
  obtain⟨j,_,e⟩:=(hm z).mp (hp.mem_iff.mp hz)
  subst e;rfl
 have em:ss=(ss.map fun z=>z.cps.toList.headD 0).map fun c=>tx [c]:=by
  rw[bp]
  conv=>lhs;rw[<- j6 ss]
  exact d9 fun z hz=>(all z hz).symm
 refine⟨ss.map fun z=>z.cps.toList.headD 0,em,?_,?_,fun c=>?_⟩
 ·have nd:ss.Nodup:=hp.nodup_iff.mpr Vx
  rw[em]at nd
  exact List.Pairwise.of_map (fun c=>tx [c]) (fun a b h e=>h (by rw[e])) nd
 ·refine zq _ ?_
  rw[bp]
  rw[em]at hs
  exact hs
 ·constructor
  ·intro hc
   obtain⟨z,hz,rfl⟩:=b8.mp hc
   obtain⟨j,hj,e⟩:=(hm z).mp (hp.mem_iff.mp hz)
   subst e
   show l.getD j 0∈l
   rw[aT,aq hj]
   exact dw hj
  ·intro hc
   obtain⟨j,hj,e⟩:=List.getElem_of_mem hc
   refine b8.mpr ⟨tx [c],hp.mem_iff.mpr ((hm _).mpr ⟨j,hj,?_⟩),rfl⟩
   rw[aT,aq hj,e];rfl
def K0(K:Frag)(H:Hp)(v:V)(l:List Nat):Prop:=v=.str (tx l)\/∃a,v=.ref a/\ic K H a (jb l)
def Gv(K:Frag)(te:TE):TE:=fun σ H Q=>te σ H fun v H1=>∃l,K0 K H1 v l/\l.length<4000/\(∀m:List Nat,m.Nodup->(∀c∈m,c∈l)->m.length<64) /\
 ∀m:List Nat,m.Nodup->m.Pairwise (· <= ·)->(∀c,c∈m↔c∈l)->∀a H2,H1 a=none->H2=eG H1 a (.lst (m.map fun c=>V.str (tx [c])))->Q (.ref a) H2
theorem bM.kept2{d':Drawn}(I:bM X ai σ H s)(k:∀b o,s.heap.get? b=some o->h'.get? b=some o)(hk:s.toks<=t':=by first|exact ay _|exact bB _|assumption|omega):bM X ai σ H { s with heap:=h',drawn:=d',toks:=t' }:=
 I.step (g':=s.gens) (ch:=[]) (fun _ z=>nomatch z) (fun b o _ _ _ e _=>k b o e) (fun b o _ _ _ e _=>⟨o.slots,k b o e⟩) (fun _ _ _ _ n=>n) (fun b o _ e=>⟨o,k b o e⟩) (fun _ _ e=>e) (fun _ _ _ e=>e) (fun b ps e=>⟨#[],by rw[e];simp⟩)
  (fun m hm=>let ⟨o,es,ep,ho,r⟩:=hm;⟨o,es,ep,k _ o ho,r⟩) ((I.hok.kept k).up hk) I.bare hk
theorem EX{p1 p2 QW AZ:Pos}(h1:X.mg "sorted"=none)(h3:X.mg "set"=none)(he:QE X e te)(hc:X.calm=true:=by rfl)
  (VF:Gl X "sorted":=by rfl) (Ua:Gl X "set":=by rfl) (Ux:starEach [e] X.env=(false,eval e X.env)::starEach [] X.env:=by rfl):QE X (.Call (.Name "sorted" p1) [.Call (.Name "set" p2) [e] [] AZ] [] QW) (Gv X.K te):=⟨by
 intro ai s σ H Q I h
 refine gQ (oq I VF h1 PyProof.Rows.boot_sorted (jF ?_) #[1] #[1])
 show wpAny _ _ (spliced ((false,eval (.Call (.Name "set" p2) [e] [] AZ) X.env)::[])) _ _ s
 refine dJ (gQ (oq I Ua h3 PyProof.Rows.boot_set (dS ?_ Ux rfl) #[1] #[1]))
 rw[Ux]
 show wpAny _ _ (spliced ((false,eval e X.env)::[])) _ _ s
 refine dJ (jq (he.h ai s σ H _ I h) fun u s1 kt1 ⟨v,H1,I1,r1,l,hl,hb,few,q⟩=>fX ?_)
 have hh:X.A.handled=none:=I1.ok.hd hc
 have hb':l.length+1<scanBound:=by unfold scanBound;omega
 have ie:∀g tk,s1.toks<=tk->Mn X.prog X.w tk (fun j=>tx [l.getD j 0]) g s1.heap.objs.size l.length->(∀b o,s1.heap.get? b=some o->g.get? b=some o) ->
   wpAny #[5] X.A (spliced []) (fun vs s₂=>wpAny #[5] X.A (call (.builtin "sorted") (.ref s1.heap.objs.size::vs)) (EP X ai σ Q) X.xe s₂) X.xe { s1 with heap:=g,toks:=tk }:=fun g tk js hM kp=>by
  refine fX ?_
  obtain⟨ks,z,nd,mem,len⟩:=hM
  have qW:ks.length<64:=by
   obtain⟨m,em,mn,_,mm⟩:∃m:List Nat,ks=m.map (fun c=>tx [c])/\m.Nodup/\True/\∀c∈m,c∈l:=by
    have all:∀z∈ks,tx [z.cps.toList.headD 0]=z:=fun z hz=>by
     obtain⟨j,_,e⟩:=(mem z).mp hz
     subst e;rfl
    have em:ks=(ks.map fun z=>z.cps.toList.headD 0).map fun c=>tx [c]:=by
     rw[bp]
     conv=>lhs;rw[<- j6 ks]
     exact d9 fun z hz=>(all z hz).symm
    refine⟨_,em,?_,trivial,fun c hc=>?_⟩
    ·have nd':=nd
     rw[em]at nd'
     exact List.Pairwise.of_map (fun c=>tx [c]) (fun a b h e=>h (by rw[e])) nd'
    ·obtain⟨z,hz,rfl⟩:=b8.mp hc
     obtain⟨j,hj,e⟩:=(mem z).mp hz
     subst e
     show l.getD j 0∈l
     rw[aT,aq hj]
     exact dw hj
   rw[em,az]
   exact few m mn mm
  refine up (B0 z qW hh fun g0 g1 d tk' out ss ep k0 k1 gL hta mT hperm hsrt hle2=>?_)
  have hle2:tk<=tk':=hle2
  have hle3:s1.toks<=tk':=aH js hle2
  obtain⟨m,em,mn,mp,mm⟩:=KZ hperm nd mem hsrt
  have I2:bM X ai σ H1 { s1 with heap:=g0,drawn:=d,toks:=tk' }:=I1.kept2 fun b o e=>k0 b o (kp b o e)
  have yZ:H1 g0.objs.size=none:=I2.hok.fresh (ay _)
  have hvals:cR tk' (m.map fun c=>V.str (tx [c])) out.toList:=by
   have e:=mV mT (hta.up hle2)
   rw[em,bp]at e
   exact e
  refine⟨.ref g0.objs.size,_,I2.laid (o:=.lst (m.map fun c=>V.str (tx [c]))) (t':=tk') k1 (ay _) ?_,rfl,q m mn mp mm _ _ yZ rfl⟩
  refine⟨?_,out.toList,ep,hvals,gL⟩
  rw[az]
  exact aH (fW (few m mn fun c hc=>(mm c).mp hc)) #[1]
 rcases hl with rfl|⟨a,rfl,hT⟩
 ·obtain⟨t,rfl⟩:=r1
  exact Gu I1.pos hh hb' ie
 ·cases r1
  obtain⟨bT,rv,ht,_⟩:=I1.tuple hT
  exact KY hh hb' ht rv ie⟩
end L2
namespace L2
open PySem PySem.Spec PyProof.Rows
def U6(K:Frag):List V->Hp->VK->Prop:=fun xs H Q=>∃(p:Addr) (bs:List Bool),xs=[.ref p]/\sH K H p (bs.map V.bl)/\Q (.bl (bs.all id)) H
theorem R_(hc:X.calm=true:=by rfl):Mm X (.builtin "all") (U6 X.K):=⟨by
 intro ai s σ H xs us Q I r h
 obtain⟨p,bs,rfl,hS,q⟩:=h
 obtain⟨u,rfl,ru⟩:=ou r
 cases ru
 obtain⟨bT,rv,pl,hz⟩:=I.list hS
 have hh:=I.ok.hd hc
 have hl:s.heap.IsList p bT.toArray:=pl.isList
 have hlt:p<s.heap.objs.size:=by obtain⟨o,ho,_⟩:=hl;exact aP ho
 have dU:bT.toArray.size=bs.length:=by have:=rv.length;rw[az]at this;simpa using this.symm
 refine up (call_all_walk (wpAny_pyIter_list hl ?_))
 refine⟨_,_,_,_,_,_,fun i=>bs.getD i true,rfl,Walks.list (A:=X.A.in1) (by simpa using hh) _ p (aY hlt) bT.toArray,⟨⟨_,aO _ rfl,rfl,rfl⟩,hl.at fun o e=>av _ e⟩,?_,fun h' tk kp hk=>?_⟩
 ·intro i v s Q E hP hQ
  have hi:bT[i]?=some v:=by simpa using hP
  have hlt:i<bs.length:=by
   have:=(aj.mp hi).1
   rw[<- dU];simpa using this
  have hx:(bs.map V.bl)[i]?=some (.bl bs[i]):=by rw[aG,aq hlt];rfl
  obtain⟨u,hu,ru⟩:=rv.get hx
  rw[hi]at hu
  obtain rfl:v=.bool bs[i]:=(bn hu).trans ru
  refine d4 ?_
  have e:bs.getD i true=bs[i]:=by rw[aT,aq hlt];rfl
  rw[<- e];exact hQ
 ·have e:(List.range bT.toArray.size).all (fun i=>bs.getD i true)=bs.all id:=by
   rw[dU]
   conv=>rhs;rw[<- range_getD bs true]
   rw[List.all_map];rfl
  rw[e]
  refine⟨.bl _,H,I.kept (t':=tk) fun b o eb=>kp b o (fun hm=>?_) (av _ eb),rfl,q⟩
  rw[aV]at hm
  exact absurd (aP eb) (by rw[hm];exact dh _)⟩
section
variable{w:World}
end
theorem wK(a b:Int):Builtin.Range.rangeSize a b (-1)=((a-b).toNat:Int):=by
 unfold Builtin.Range.rangeSize
 rw[aJ #[1]]
 simp only[Int.neg_neg,Int.ediv_one]
 split<;>omega
theorem B1{a b:Int}(h1:-(2^60)<=a)(h2:a<2^60)(h3:-(2^60)<=b)(h4:b<2^60):Builtin.Range.small a b (-1)=true:=by
 unfold Builtin.Range.small
 rw[wK]
 simp only[Builtin.Range.rangeFitsLong,cO,d_,f9,dL,aJ (show ¬ ((-1:Int)>0) by decide)]
 omega
def wL(i:Int)(n:Nat):List V:=(List.range n).map fun k:Nat=>V.int (i-k)
def Sa(ta:TA):TI:=fun σ H R=>ta σ H fun vs H1=>∃i j:Int,vs=[.int i,.int j,.int (-1)]/\(-(2^60)<=i/\i<2^60/\-(2^60)<=j/\j<2^60)/\R (RU (wL i (i-j).toNat)) H1
theorem x9{tg a b c:Expr}{ta:TA}{p pos:Pos}(hm:X.mg "range"=none)(ha:QA X [a,b,c] ta)(hg:Gl X "range":=by rfl)(hs:starEach [a,b,c] X.env=(false,eval a X.env)::starEach [b,c] X.env:=by rfl)
  (Bp:(backTo pos (starEach [b,c] X.env)).any (·.1)=false:=by rfl):QI X tg (.Call (.Name "range" p) [a,b,c] [] pos) (Sa ta):=⟨by
 intro ai s σ H R I h
 refine Call_ (oq I hg hm boot_range (dS (jq (ha.h pos ai s σ H _ I h) fun us s1 kt1 ⟨vs,H1,I1,r1,q1⟩=>?_) hs Bp))
 obtain⟨i,j,e,⟨b1,b2,b3,b4⟩,q⟩:=q1
 subst e
 cases r1 with
 |cons x1 r1=>cases r1 with
  |cons x2 r1=>cases r1 with
   |cons x3 r1=>
    cases r1
    obtain⟨t1,rfl⟩:=x1
    obtain⟨t2,rfl⟩:=x2
    obtain⟨t3,rfl⟩:=x3
    refine call_range_3 #[1] ?_ (Or.inl (nu #[0]))
    refine wpAny_pyIter_range (IsRange.new ..) (B1 b1 b2 b3 b4) ?_
    generalize hN:(i-j).toNat=n at q
    have hl:(wL i n).length=n:=by unfold wL;simp
    have I2:bM X ai σ H1 { s1 with heap:=s1.heap.push { cls:=.type "range",data:=.fields #[.int i t1,.int j t2,.int (-1) t3] },toks:=s1.toks }:=I1.kept fun b o e=>av _ e
    refine⟨(s1.heap.push { cls:=.type "range",data:=.fields #[.int i t1,.int j t2,.int (-1) t3] }).objs.size,[(s1.heap.push { cls:=.type "range",data:=.fields #[.int i t1,.int j t2,.int (-1) t3] }).objs.size],_,_,H1,rfl,
     I2.kept (t':=s1.toks) fun b o e=>av _ e,BU (ty:="range_iterator") (fun A hA=>by rw[hl];exact Walks.range hA _ i (-1) n) (fun k v hk hp=>?_) (fun k h st=>⟨_,_,st,rfl,rfl⟩) #[1] (fun A k s Q E st h=>nr st h),⟨bU _,?_⟩,fun b hb=>?_,q⟩
    ·obtain⟨t,rfl⟩:=hp
     rw[hl]at hk
     refine⟨.int (i+k*(-1)),?_,t,rfl⟩
     unfold wL
     rw[aG,cU hk]
     show some (V.int (i-k))=_
     congr 2;omega
    ·have e1:i+((0:Nat):Int)*(-1)=i:=by simp
     have e2:((n:Nat):Int)-((0:Nat):Int)=Builtin.Range.rangeSize i j (-1):=by rw[wK,hN];simp
     rw[e1,e2]
     exact aO _ rfl
    ·have e:b=(s1.heap.push { cls:=.type "range",data:=.fields #[.int i t1,.int j t2,.int (-1) t3] }).objs.size:=by simpa using hb
     subst e
     exact I2.fpOk (ay _) (I2.hok.fresh (ay _))⟩
section
variable{wi:TI}{g:TG}{tc:TT}
theorem B2{x0:Str}{p0 p1:Pos}{gx:TG}(T3:PG X (.Name x0 p0) gx)(TX:swapsWith #[11] (some (.Name x0 p0)) p1.line X.env=pure true)(jw:X.calm=true)(vW:closureFor scope X.env=pure cl)(vY:∀x c,cl.lookup x=some c->X.env.cells.lookup x=some c)
  (jx:scope.kind=.function) (re:∀x∈scope.names,x.2=.local->scope.names.lookup x.1=some .local) (dI:∀y∈scope.names,y.2≠.cell)
  (CZ:∀x,#[13]->∃c,cl.lookup x=some c)
  (uo:∀(i j:Nat),cap[i]?=some (some j)->∃x,nm[i]?=some x/\X.N[j]?=some x/\uS X scope cl x) (dU:cap.length=nm.length)
  (hi:PI X tg d3 wi) (hg:∀C s0 H0 fp,PG #[8] tg g) (ht:∀C s0 H0 fp,Ga #[8] mU tc)
  (he:∀C s0 H0 fp,PE #[8] rh te) (hs:∀x,foldedSetIterable d3 X.env x=pure x:=by intro _;rfl) :
  PS X (.Assign [.Name x0 p0] #[11] p1) (Kr (uR cap wi g tc te) gx):=by
 intro ai s σ H D I h
 rw[exec_Assign_Name_used _ _ _ _ TX]
 suffices main:wpAny #[5] X.A (comprehension #[11] scope X.env (firstIterPos [⟨tg,d3,mU,0⟩] pos) (newList []) (firstAsync [⟨tg,d3,mU,0⟩]) (firstIter [⟨tg,d3,mU,0⟩] X.env) (some (assign (.Name x0 p0) X.env))) (fun _ s'=>SP X ai D .next s') X.xe s from
  ag (qx (ag (ag (iZ main (fun _ s' h=>aA (aA h)) fun _ _ z=>z))))
 refine wF jw vW vY jx re dI CZ uo dU hi hg ht he hs I h fun s4 C D m4 Hn I4 B q=>?_
 obtain⟨oC,es,ep,hoC,hdC,hrC⟩:=B.ns
 refine iZ (T3 _ s4 σ _ (.ref D) (.ref D) _ (I4.pins_of (pins':=ai++[(C,oC)]) fun p hp=>?_) rfl q) (fun _ s5 h5=>?_) fun _ _ z=>z
 ·rcases bg.mp hp with z|z
  ·exact I4.pin p (bf _ z)
  ·have e:p=(C,oC):=by simpa using z
   subst e
   exact⟨hoC,B.fr,B.nl,B.nf,fun v z=>by rw[hdC]at z;cases z⟩
 obtain⟨σ',H',I6,nx⟩:=h5
 have pC:=I6.pin (C,oC) (bf _ (bf _ (aV.mpr rfl)))
 have I7:bM X ai σ' H' s5:=I6.pins_of fun p hp=>I6.pin p (bf _ (cZ _ hp))
 have B7:zm X ai H' s5 C m4:=⟨⟨oC,es,ep,pC.1,hdC,hrC⟩,pC.2.1,B.nl,B.nf,B.hi,B.nc,B.np⟩
 exact⟨m4,B7.ns,fun h' hs'=>⟨σ',H',B7.off I7 hs',nx⟩⟩
end
theorem B3{x0:Str}{p0 p1:Pos}{gx:TG}{pos:Pos}{wi:TI}{g:TG}{tc:TT}(T3:QG X (.Name x0 p0) gx)(jw:X.calm=true)
  (qZ:X.env.cells=cellsFrom m X.env.scope.names []) (jx:scope.kind=.function) (hB:EQ X.env.scope.names scope.names nm cap X.N=true)
  (hi:QI X tg d3 wi) (hg:∀cl C s0 H0 fp,QG #[8] tg g) (ht:∀cl C s0 H0 fp,U3 #[8] mU tc)
  (he:∀cl C s0 H0 fp,QE #[8] rh te) (hs:∀x,foldedSetIterable d3 X.env x=pure x:=by intro _;rfl) (TX:swapsWith #[11] (some (.Name x0 p0)) p1.line X.env=pure true:=by first|rfl|kernel_rfl) :
  QS X (.Assign [.Name x0 p0] #[11] p1) (Kr (uR cap wi g tc te) gx):=by
 have F:=R8 (nm:=nm) (cap:=cap) (fun x z=>by rw[qZ];exact my z) hB
 exact⟨B2 T3.h TX jw F.clos F.cl jx F.nms F.cell F.has F.cp F.len hi.h (fun C s0 H0 fp=>(hg _ C s0 H0 fp).h) (fun C s0 H0 fp=>(ht _ C s0 H0 fp).h) (fun C s0 H0 fp=>(he _ C s0 H0 fp).h) hs⟩
open AutoSeq1 (wpAny_loadPart')
theorem Gw(l b:Addr)(i1 i2:Array Value)(n1 n2:Nat)(d1 d2:Option Addr)(s1 s2:Array (Option Value))(h0:i1.isEmpty=true) :
  Meets (Builtin.«tuple.__add__» ⟨[.ref l,.ref b],[]⟩) (fun _ R s=>s.heap.get? l=some { cls:=.type "tuple",dict:=d1,data:=.seq i1 n1,slots:=s1 }/\s.heap.get? b=some { cls:=.type "tuple",dict:=d2,data:=.seq i2 n2,slots:=s2 }/\R (.ok (.ret (.ref b))) s):=
 .of_wp fun prog w A R s h=>by
  obtain⟨hp,g,d,tk,os⟩:=s
  obtain⟨e1,e2,h⟩:=h
  have a2:=PyProof.Rows.sub_tuple_tuple
  wp_walk using dq e1,dq e2
  exact⟨_,rfl,h⟩
def Sb(K:Frag):R2:=fun x y H Q=>∃a b xs ys,x=.ref a/\y=.ref b/\ic K H a xs/\ic K H b ys/\xs.length+ys.length<=sizeLine/\∀p H2,ud H H2->ic K H2 p (xs++ys)->Q (.ref p) H2
theorem Ov:VP X (binaryOp .Add) (Sb X.K):=⟨by
 intro ai s σ H x y v u Q I rx ry h
 obtain⟨a,b,xs,ys,rfl,rfl,ha,hb,hz,q⟩:=h
 by_cases hx:xs=[]
 ·subst hx
  cases rx
  cases ry
  obtain⟨bT,r1,p1,_⟩:=I.tuple ha
  obtain⟨its2,r2,p2,_⟩:=I.tuple hb
  have e1:bT=[]:=r1.nil_iff.mpr rfl
  obtain⟨⟨c1,d1,g1,l1⟩,f1,hc1,n1,hd1⟩:=id p1
  obtain⟨⟨c2,d2,g2,l2⟩,f2,hc2,n2,hd2⟩:=id p2
  simp only at hc1 hd1 hc2 hd2
  subst hc1 hd1 hc2 hd2
  refine su ⟨_,f1,rfl⟩ ⟨_,f2,rfl⟩ mK qy PySem.F.slot_tuple_add PySem.F.entry_tuple_add (PySem.F.args_tuple_add_2 _ _) (Gw a b bT.toArray its2.toArray n1 n2 d1 d2 l1 l2 (by rw[e1];rfl)) ⟨f1,f2,?_⟩
  exact⟨.ref b,H,I,rfl,q b H (ud.refl H) hb⟩
 ·exact KD ai s σ H _ _ v u Q I rx ry ⟨a,b,xs,ys,rfl,rfl,ha,hb,hx,hz,fun e=>q a H (ud.refl H) (by rw[e,cC];exact ha),fun _ p hp=>q p _ (cY hp _) (ic.of gU)⟩⟩
end L2
namespace L2
open PySem PySem.Spec PyProof.Rows
inductive W where
 |non|bl (b:Bool)|int (i:Int)|str (l:List Nat)|tup (ws:List W)|loc (n:Nat)
inductive DK where
 |i (z:Int)|s (l:List Nat)
deriving DecidableEq
def DK.key:DK->jT
 |.i z=>.inl z
 |.s l=>.inr (tx l)
inductive KX where
 |bo (b:Bool)|fl (ks:List Int)|pr (i:Int) (ks:List Int)
deriving DecidableEq
def KX.w:KX->W
 |.bo b=>.bl b
 |.fl ks=>.tup (ks.map W.int)
 |.pr i ks=>.tup [.int i,.tup (ks.map W.int)]
def Gx(ks:List Int):Int:=reduceHash (Builtin.Tuple.tupleHashOf (ks.map hashInt))
def KX.hash:KX->Int
 |.bo b=>hashInt (if b then 1 else 0)
 |.fl ks=>Gx ks
 |.pr i ks=>reduceHash (Builtin.Tuple.tupleHashOf [hashInt i,Gx ks])
inductive al where
 |lst (ws:List W)
 |ro (ws:List W)
 |exc (c:Str)
 |dct (kvs:List (DK×W))
 |tab (P:Addr) (pos:Pos) (q:Str)
 |rod (kvs:List (DK×W))
 |dcx (kvs:List (KX×W))
 |rox (kvs:List (KX×W))
 |obj (c:Str) (fs:List (Str×W))
 |pin (k:Bool) (c:Addr) (o:Obj) (w:W)
 |gone
abbrev kN:Nat:=1000000
theorem oB(h:n<=kN):n<=sizeLine:=aH h #[1]
theorem Ow(h:n<=kN):n<sizeLine:=eK h #[1]
inductive R(α:Type) where
 |ok (a:α) (st:List al)
 |ex (c:Str) (st:List al)
 |bad
def R.bind:R α->(α->List al->R β)->R β
 |.ok a st,k=>k a st
 |.ex c st,_=>.ex c st
 |.bad,_=>.bad
@[simp] theorem R.bind_ok{α β:Type}(a:α)(st:List al)(k:α->List al->R β):(R.ok a st).bind k=k a st:=rfl
@[simp] theorem R.bind_ex{α β:Type}(c:Str)(st:List al)(k:α->List al->R β):(R.ex c st:R α).bind k=.ex c st:=rfl
@[simp] theorem R.bind_bad{α β:Type}(k:α->List al->R β):(R.bad:R α).bind k=.bad:=rfl
abbrev cv:=List (Option W)
inductive RS where
 |nx (ρ:cv) (st:List al)|rt (w:W) (st:List al)|bk (ρ:cv) (st:List al)|ct (ρ:cv) (st:List al)
 |ex (c:Str) (ρ:cv) (st:List al)|bad
abbrev FE:=cv->List al->R W
abbrev FT:=cv->List al->R Bool
abbrev FA:=cv->List al->R (List W)
abbrev FS:=cv->List al->RS
section
variable(K:Frag)
mutual
def bK(μ:List Addr)(H:Hp):W->V->Prop
 |.non,v=>v=.non
 |.bl b,v=>v=.bl b
 |.int i,v=>v=.int i
 |.str l,v=>v=.str (tx l)
 |.tup ws,v=>∃p vs,v=.ref p/\ic K H p vs/\RelWs μ H ws vs
 |.loc n,v=>∃a,μ[n]?=some a/\v=.ref a
def RelWs(μ:List Addr)(H:Hp):List W->List V->Prop
 |[],vs=>vs=[]
 |w::ws,vs=>∃x xs,vs=x::xs/\bK μ H w x/\RelWs μ H ws xs
end
end
theorem x_(h:μ <+: μ')(e:μ[n]?=some a):μ'[n]?=some a:=by
 obtain⟨t,rfl⟩:=h
 rw[bj (aj.mp e).1];exact e
section
mutual
theorem bK.mono(h:μ <+: μ')(e:fw K H H'):∀{w:W} {v:V},bK K μ H w v->bK K μ' H' w v
 |.non,_,r=>by unfold bK at r ⊢;exact r
 |.bl _,_,r=>by unfold bK at r ⊢;exact r
 |.int _,_,r=>by unfold bK at r ⊢;exact r
 |.str _,_,r=>by unfold bK at r ⊢;exact r
 |.tup _,_,r=>by unfold bK at r ⊢;obtain⟨p,vs,a,b,c⟩:=r;exact⟨p,vs,a,e _ _ b,RelWs.mono h e c⟩
 |.loc _,_,r=>by unfold bK at r ⊢;obtain⟨a,b,c⟩:=r;exact⟨a,x_ h b,c⟩
theorem RelWs.mono(h:μ <+: μ')(e:fw K H H'):∀{ws:List W} {vs:List V},RelWs K μ H ws vs->RelWs K μ' H' ws vs
 |[],_,r=>by unfold RelWs at r ⊢;exact r
 |_::_,_,r=>by unfold RelWs at r ⊢;obtain⟨x,xs,a,b,c⟩:=r;exact⟨x,xs,a,bK.mono h e b,RelWs.mono h e c⟩
end
theorem RelWs.nilI:RelWs K μ H [] []:=by unfold RelWs;rfl
theorem RelWs.consI{w:W}{ws:List W}{x:V}{xs:List V}(a:bK K μ H w x)(b:RelWs K μ H ws xs):RelWs K μ H (w::ws) (x::xs):=by unfold RelWs;exact⟨x,xs,rfl,a,b⟩
theorem RelWs.nilE(h:RelWs K μ H [] vs):vs=[]:=by unfold RelWs at h;exact h
theorem RelWs.consE{w:W}{ws:List W}(h:RelWs K μ H (w::ws) vs):∃x xs,vs=x::xs/\bK K μ H w x/\RelWs K μ H ws xs:=by unfold RelWs at h;exact h
theorem RelWs.pr:∀{ws:List W} {vs:List V},RelWs K μ H ws vs↔Paired (fun w v=>bK K μ H w v) ws vs
 |[],vs=>⟨fun h=>by rw[h.nilE];exact .nil,fun h=>by cases h;exact .nilI⟩
 |w::ws,vs=>⟨fun h=>by obtain⟨x,xs,rfl,a,b⟩:=h.consE;exact .cons a (RelWs.pr.mp b),fun h=>by cases h with|cons a b=>exact .consI a (RelWs.pr.mpr b)⟩
theorem RelWs.len{ws:List W}(h:RelWs K μ H ws vs):ws.length=vs.length:=Paired.length (RelWs.pr.mp h)
theorem RelWs.app:∀{as:List W} {xs:List V} {bs:List W} {ys:List V},RelWs K μ H as xs->RelWs K μ H bs ys->RelWs K μ H (as++bs) (xs++ys)
 |[],xs,bs,ys,a,b=>by rw[a.nilE];exact b
 |w::as,xs,bs,ys,a,b=>by obtain⟨x,xs,rfl,c,d⟩:=a.consE;exact .consI c (RelWs.app d b)
theorem RelWs.get:∀{ws:List W} {vs:List V} {i:Nat} {w:W},RelWs K μ H ws vs->ws[i]?=some w->∃v,vs[i]?=some v/\bK K μ H w v
 |[],_,_,_,_,e=>by simp at e
 |x::ws,vs,0,w,h,e=>by obtain⟨y,ys,rfl,a,b⟩:=h.consE;simp at e;subst e;exact⟨y,rfl,a⟩
 |x::ws,vs,i+1,w,h,e=>by obtain⟨y,ys,rfl,a,b⟩:=h.consE;simpa using RelWs.get (i:=i) b (by simpa using e)
theorem RelWs.take:∀{ws:List W} {vs:List V} (n:Nat),RelWs K μ H ws vs->RelWs K μ H (ws.take n) (vs.take n)
 |_,_,0,_=>by simp only[pH];exact .nilI
 |[],vs,n+1,h=>by rw[h.nilE];exact .nilI
 |x::ws,vs,n+1,h=>by obtain⟨y,ys,rfl,a,b⟩:=h.consE;exact .consI a (RelWs.take n b)
theorem RelWs.drop:∀{ws:List W} {vs:List V} (n:Nat),RelWs K μ H ws vs->RelWs K μ H (ws.drop n) (vs.drop n)
 |_,_,0,h=>h
 |[],vs,n+1,h=>by rw[h.nilE];exact .nilI
 |x::ws,vs,n+1,h=>by obtain⟨y,ys,rfl,a,b⟩:=h.consE;exact RelWs.drop n b
theorem RelWs.setI:∀{ws:List W} {vs:List V} (i:Nat) {w:W} {v:V},bK K μ H w v->RelWs K μ H ws vs->RelWs K μ H (ws.set i w) (vs.set i v)
 |[],vs,_,_,_,_,h=>by rw[h.nilE];exact .nilI
 |x::ws,vs,0,w,v,r,h=>by obtain⟨y,ys,rfl,a,b⟩:=h.consE;exact .consI r b
 |x::ws,vs,i+1,w,v,r,h=>by obtain⟨y,ys,rfl,a,b⟩:=h.consE;exact .consI a (RelWs.setI i r b)
theorem bK.intE{i:Int}{v:V}(h:bK K μ H (.int i) v):v=.int i:=by unfold bK at h;exact h
theorem bK.blE{b:Bool}{v:V}(h:bK K μ H (.bl b) v):v=.bl b:=by unfold bK at h;exact h
theorem bK.nonE{v:V}(h:bK K μ H .non v):v=.non:=by unfold bK at h;exact h
theorem bK.strE{v:V}(h:bK K μ H (.str l) v):v=.str (tx l):=by unfold bK at h;exact h
theorem bK.tupE{ws:List W}{v:V}(h:bK K μ H (.tup ws) v):∃p vs,v=.ref p/\ic K H p vs/\RelWs K μ H ws vs:=by unfold bK at h;exact h
theorem bK.locE{v:V}(h:bK K μ H (.loc n) v):∃a,μ[n]?=some a/\v=.ref a:=by unfold bK at h;exact h
theorem bK.int{i:Int}:bK K μ H (.int i) (.int i):=by unfold bK;rfl
theorem bK.bl{i:Bool}:bK K μ H (.bl i) (.bl i):=by unfold bK;rfl
theorem bK.non:bK K μ H .non .non:=by unfold bK;rfl
theorem bK.str:bK K μ H (.str l) (.str (tx l)):=by unfold bK;rfl
theorem bK.tupI{ws:List W}{p:Addr}(a:ic K H p vs)(b:RelWs K μ H ws vs):bK K μ H (.tup ws) (.ref p):=by unfold bK;exact⟨p,vs,rfl,a,b⟩
theorem bK.locI(e:μ[n]?=some a):bK K μ H (.loc n) (.ref a):=by unfold bK;exact⟨a,e,rfl⟩
end
def u3(a:Addr)(C:Value):HO:=.ext fun h=>∃o vs,h.get? a=some o/\o.cls=C/\o.data=.fields vs
def zB(b:Addr)(q:Str):HO:=.ext fun h=>∃o vs t,h.get? b=some o/\o.data=.fields vs/\vs[1]?=some (.str q t)
def Uq(K:Frag)(H:Hp)(a:Addr)(xs:List V):Prop:=
 (∃o,H a=some (.frz o (.lst xs)))\/∃(o:Obj) (bT:Array Value) (n:Nat),K.lookup a=some o/\o.cls=.type "list"/\o.dict=none/\o.data=.seq bT n/\bT.size<=sizeLine/\cR 0 xs bT.toList
theorem Uq.sq{xs:List V}(h:Uq K H a xs):sH K H a xs:=by
 rcases h with⟨o,h⟩|h
 ·exact .inl (.inr ⟨o,h⟩)
 ·exact .inr h
def al.isRo:al->Bool
 |.ro _=>true
 |.gone=>true
 |_=>false
def DX(a:Addr)(es:List DictEntry):Heap->Prop:=fun h=>∃o ep,h.get? a=some o/\o.ExactDict/\o.data=.dict es.toArray ep
abbrev VR(a:Addr)(es:List DictEntry):HO:=.ext (DX a es)
def zC(K:Frag)(μ:List Addr)(H:Hp)(p:KX×W)(e:DictEntry):Prop:=e.hash=p.1.hash/\(∃v,bK K μ H p.1.w v/\cW 0 v e.key)/\∃v,bK K μ H p.2 v/\cW 0 v e.val
def U7(a:Addr)(o:Obj):HO:=.ext fun h=>h.get? a=some o
def lH(K:Frag)(mg:Str->Option Value)(μ:List Addr)(H:Hp):al->Addr->Prop
 |.lst ws,a=>∃vs,H a=some (.lst vs)/\RelWs K μ H ws vs
 |.ro ws,a=>∃vs,Uq K H a vs/\RelWs K μ H ws vs
 |.exc c,a=>∃C,mg c=some C/\H a=some (u3 a C)
 |.dct kvs,a=>∃vs,H a=some (.dK ((kvs.map fun p=>p.1.key).zip vs))/\RelWs K μ H (kvs.map fun p=>p.2) vs
 |.rod kvs,a=>∃vs o,H a=some (.frz o (.dK ((kvs.map fun p=>p.1.key).zip vs)))/\RelWs K μ H (kvs.map fun p=>p.2) vs
 |.dcx kvs,a=>∃es,H a=some (VR a es)/\(a==sysModules)=false/\Paired (zC K μ H) kvs es/\(kvs.map fun p=>p.1).Nodup
 |.rox kvs,a=>∃es o,H a=some (.frz o (VR a es))/\(a==sysModules)=false/\Paired (zC K μ H) kvs es/\(kvs.map fun p=>p.1).Nodup
 |.obj c fs,a=>∃C dx vs,mg c=some (.ref C)/\H a=some (.ins C dx ((fs.map fun p=>p.1).zip vs))/\RelWs K μ H (fs.map fun p=>p.2) vs
 |.tab P pos q,a=>a=P/\∃ps,H a=some (.tbl ps)/\TriplesOk ps.toList/\(codeAmong pos ps.toList=none\/∃c,codeAmong pos ps.toList=some (.ref c)/\H c=some (zB c q))
 |.pin k c o w,a=>a=c/\H a=some (U7 a o)/\(k=false->∃fd cd,o.data=.func fd/\fd.code=.ref cd/\H cd=some (zB cd fd.qualname))/\∃v,bK K μ H w v/\(k=true->∃u,o.data=.cell (some u)/\cW 0 v u)
 |.gone,_=>True
structure iW(K:Frag)(mg:Str->Option Value)(μ:List Addr)(st:List al)(H:Hp):Prop where
 nd:∀(i j:Nat) (a:Addr) (ci cj:al),st[i]?=some ci->st[j]?=some cj->ci.isRo=false->cj.isRo=false->μ[i]?=some a->μ[j]?=some a->i=j
 len:st.length=μ.length
 at':∀(i:Nat) (c:al) (a:Addr),st[i]?=some c->μ[i]?=some a->lH K mg μ H c a
section
variable{st:List al}
theorem zC.mono(h:μ <+: μ')(x:fw K H H'){p:KX×W}{e:DictEntry}(r:zC K μ H p e):zC K μ' H' p e:=by
 obtain⟨a,⟨v,b,c⟩,u,d,g⟩:=r
 exact⟨a,⟨v,b.mono h x,c⟩,u,d.mono h x,g⟩
theorem lH.keep(h:μ <+: μ')(x:fw K H H'){c:al}(e:∀o,H a=some o->H' a=some o)(e2:∀b q,H b=some (zB b q)->H' b=some (zB b q))(r:lH K mg μ H c a):lH K mg μ' H' c a:=by
 cases c with
 |lst ws=>obtain⟨vs,p,y⟩:=r;exact⟨vs,e _ p,y.mono h x⟩
 |ro ws=>
  obtain⟨vs,p,y⟩:=r
  refine⟨vs,?_,y.mono h x⟩
  rcases p with⟨o,p⟩|p
  ·exact .inl ⟨o,e _ p⟩
  ·exact .inr p
 |exc c=>obtain⟨C,p,y⟩:=r;exact⟨C,p,e _ y⟩
 |dct kvs=>obtain⟨vs,p,y⟩:=r;exact⟨vs,e _ p,y.mono h x⟩
 |rod kvs=>obtain⟨vs,o,p,y⟩:=r;exact⟨vs,o,e _ p,y.mono h x⟩
 |dcx kvs=>obtain⟨es,p,d,y,z⟩:=r;exact⟨es,e _ p,d,Paired.imp' (fun _ _ q=>q.mono h x) y,z⟩
 |rox kvs=>obtain⟨es,o,p,d,y,z⟩:=r;exact⟨es,o,e _ p,d,Paired.imp' (fun _ _ q=>q.mono h x) y,z⟩
 |obj c fs=>obtain⟨C,dx,vs,m,p,y⟩:=r;exact⟨C,dx,vs,m,e _ p,y.mono h x⟩
 |tab P pos q=>
  obtain⟨ea,ps,p,t,y⟩:=r
  refine⟨ea,ps,e _ p,t,?_⟩
  rcases y with y|⟨c,y,z⟩
  ·exact .inl y
  ·exact .inr ⟨c,y,e2 _ _ z⟩
 |pin k c o w=>obtain⟨ea,p,g,v,y,z⟩:=r;exact⟨ea,e _ p,fun q=>let ⟨fd,cd,q1,q2,q3⟩:=g q;⟨fd,cd,q1,q2,e2 _ _ q3⟩,v,y.mono h x,z⟩
 |gone=>trivial
theorem lH.ro_ne{c:al}(r:lH K mg μ H c a)(h:c.isRo=false):∃o,H a=some o:=by
 cases c with
 |lst ws=>obtain⟨vs,p,y⟩:=r;exact⟨_,p⟩
 |ro ws=>cases h
 |exc c=>obtain⟨C,p,y⟩:=r;exact⟨_,y⟩
 |dct kvs=>obtain⟨vs,p,y⟩:=r;exact⟨_,p⟩
 |rod kvs=>obtain⟨vs,o,p,y⟩:=r;exact⟨_,p⟩
 |dcx kvs=>obtain⟨es,p,_⟩:=r;exact⟨_,p⟩
 |rox kvs=>obtain⟨es,o,p,_⟩:=r;exact⟨_,p⟩
 |obj c fs=>obtain⟨C,dx,vs,m,p,y⟩:=r;exact⟨_,p⟩
 |tab P pos q=>obtain⟨_,ps,p,_⟩:=r;exact⟨_,p⟩
 |pin k c o w=>obtain⟨_,p,_⟩:=r;exact⟨_,p⟩
 |gone=>cases h
theorem iW.same(S:iW K mg μ st H)(e:ud H H'):iW K mg μ st H':=⟨S.nd,S.len,fun i c a h1 h2=>(S.at' i c a h1 h2).keep (au _) (ic.same e) (e a) fun b q h=>e b _ h⟩
theorem iW.get(S:iW K mg μ st H){c:al}(h:st[n]?=some c):∃a,μ[n]?=some a/\lH K mg μ H c a:=by
 have hn:n<μ.length:=by rw[<- S.len];exact(aj.mp h).1
 exact⟨μ[n],aq hn,S.at' n c _ h (aq hn)⟩
theorem iW.push(S:iW K mg μ st H){p:Addr}{o:HO}{c:al}(hp:H p=none)(hc:lH K mg (μ++[p]) (eG H p o) c p):iW K mg (μ++[p]) (st++[c]) (eG H p o):=by
 have hs:ud H (eG H p o):=cY hp o
 have Fu:μ <+: μ++[p]:=bR _ _
 have old:∀{i:Nat} {d:al} {a:Addr},i<st.length->(st++[c])[i]?=some d->(μ++[p])[i]?=some a->st[i]?=some d/\μ[i]?=some a:=fun{i d a} hi h1 h2=>by
  rw[bj hi]at h1
  rw[bj (by rw[<- S.len];exact hi)]at h2
  exact⟨h1,h2⟩
 have new:∀{i:Nat} {d:al} {a:Addr},¬ i<st.length->(st++[c])[i]?=some d->(μ++[p])[i]?=some a->i=st.length/\d=c/\a=p:=fun{i d a} hi h1 h2=>by
  have hi':i=st.length:=by
   have:=(aj.mp h1).1
   simp at this;omega
  subst hi'
  simp at h1
  rw[S.len,dg (ay _)]at h2
  simp at h2
  exact⟨rfl,h1.symm,h2.symm⟩
 refine⟨fun i j a ci cj h1 h2 r1 r2 m1 m2=>?_,by simp[S.len],fun i d a h1 h2=>?_⟩
 ·by_cases hi:i<st.length
  ·obtain⟨x1,x2⟩:=old hi h1 m1
   by_cases hj:j<st.length
   ·obtain⟨y1,y2⟩:=old hj h2 m2
    exact S.nd i j a ci cj x1 y1 r1 r2 x2 y2
   ·obtain⟨_,_,rfl⟩:=new hj h2 m2
    obtain⟨o',z⟩:=(S.at' i ci a x1 x2).ro_ne r1
    rw[hp]at z;cases z
  ·obtain⟨e1,_,rfl⟩:=new hi h1 m1
   by_cases hj:j<st.length
   ·obtain⟨y1,y2⟩:=old hj h2 m2
    obtain⟨o',z⟩:=(S.at' j cj a y1 y2).ro_ne r2
    rw[hp]at z;cases z
   ·obtain⟨e2,_,_⟩:=new hj h2 m2
    omega
 ·by_cases hi:i<st.length
  ·obtain⟨x1,x2⟩:=old hi h1 h2
   exact(S.at' i d a x1 x2).keep Fu (ic.same hs) (hs a) fun b q h=>hs b _ h
  ·obtain⟨_,rfl,rfl⟩:=new hi h1 h2
   exact hc
theorem iW.setG(S:iW K mg μ st H){c c':al}{o o':HO}(hn:st[n]?=some c)(Bs:c.isRo=false)(hm:μ[n]?=some a)(ha:H a=some o)(hf:∀q u,o≠.frz q u)(hg:∀q,o≠zB a q)(hx:fw K H (eG H a o'))(WA:c'.isRo=false)(hr:lH K mg μ (eG H a o') c' a):iW K mg μ (st.set n c') (eG H a o'):=by
 have hl:n<st.length:=(aj.mp hn).1
 have back:∀{i:Nat} {d:al},(st.set n c')[i]?=some d->∃d',st[i]?=some d'/\(d'=d\/(i=n/\d=c')):=fun{i d} h=>by
  by_cases e:i=n
  ·subst e
   rw[bQ hl]at h
   exact⟨_,hn,.inr ⟨rfl,(bn h).symm⟩⟩
  ·rw[ce (Ne.symm e)]at h
   exact⟨d,h,.inl rfl⟩
 refine⟨fun i j b ci cj h1 h2 r1 r2 m1 m2=>?_,by simp[S.len],fun i d b h1 h2=>?_⟩
 ·obtain⟨di,x1,y1⟩:=back h1
  obtain⟨dj,x2,y2⟩:=back h2
  refine S.nd i j b di dj x1 x2 ?_ ?_ m1 m2
  ·rcases y1 with rfl|⟨rfl,rfl⟩
   ·exact r1
   ·rw[hn]at x1;cases x1;exact Bs
  ·rcases y2 with rfl|⟨rfl,rfl⟩
   ·exact r2
   ·rw[hn]at x2;cases x2;exact Bs
 ·by_cases e:i=n
  ·subst e
   rw[bQ hl]at h1
   cases h1
   rw[hm]at h2;cases h2
   exact hr
  ·rw[ce (Ne.symm e)]at h1
   have r:=S.at' i d b h1 h2
   by_cases hrd:d.isRo=true
   ·cases d with
    |ro zs=>
     obtain⟨us,p,q⟩:=r
     refine⟨us,?_,q.mono (au _) hx⟩
     rcases p with⟨o2,p⟩|p
     ·exact .inl ⟨o2,by rw[c9 (by rintro rfl;rw[ha]at p;cases p;exact hf _ _ rfl)];exact p⟩
     ·exact .inr p
    |lst _=>cases hrd
    |exc _=>cases hrd
    |dct _=>cases hrd
    |rod _=>cases hrd
    |dcx _=>cases hrd
    |rox _=>cases hrd
    |obj _ _=>cases hrd
    |tab _ _ _=>cases hrd
    |pin _ _ _ _=>cases hrd
    |gone=>trivial
   ·refine r.keep (au _) hx (fun o ho=>?_) fun b' q h=>by rw[c9 (by rintro rfl;rw[ha]at h;cases h;exact hg _ rfl)];exact h
    have hb:b≠a:=by
     rintro rfl
     exact e (S.nd i n b d _ h1 hn (by simpa using hrd) Bs h2 hm)
    rw[c9 hb];exact ho
theorem iW.set(S:iW K mg μ st H){ws T4:List W}{Kc:List V}(hn:st[n]?=some (.lst ws))(hm:μ[n]?=some a)(ha:H a=some (.lst vs))(hr:RelWs K μ H T4 Kc):iW K mg μ (st.set n (.lst T4)) (eG H a (.lst Kc)):=by
 have hx:fw K H (eG H a (.lst Kc)):=ic.but mW ha
 have hl:n<st.length:=(aj.mp hn).1
 have back:∀{i:Nat} {d:al},(st.set n (.lst T4))[i]?=some d->∃d',st[i]?=some d'/\(d'=d\/(i=n/\d=.lst T4)):=fun{i d} h=>by
  by_cases e:i=n
  ·subst e
   rw[bQ hl]at h
   exact⟨_,hn,.inr ⟨rfl,(bn h).symm⟩⟩
  ·rw[ce (Ne.symm e)]at h
   exact⟨d,h,.inl rfl⟩
 refine⟨fun i j b ci cj h1 h2 r1 r2 m1 m2=>?_,by simp[S.len],fun i d b h1 h2=>?_⟩
 ·obtain⟨di,x1,y1⟩:=back h1
  obtain⟨dj,x2,y2⟩:=back h2
  refine S.nd i j b di dj x1 x2 ?_ ?_ m1 m2
  ·rcases y1 with rfl|⟨rfl,rfl⟩
   ·exact r1
   ·rw[hn]at x1;cases x1;rfl
  ·rcases y2 with rfl|⟨rfl,rfl⟩
   ·exact r2
   ·rw[hn]at x2;cases x2;rfl
 ·by_cases e:i=n
  ·subst e
   rw[bQ hl]at h1
   cases h1
   rw[hm]at h2;cases h2
   exact⟨Kc,gU,hr.mono (au _) hx⟩
  ·rw[ce (Ne.symm e)]at h1
   have r:=S.at' i d b h1 h2
   by_cases Bs:d.isRo=true
   ·cases d with
    |ro zs=>
     obtain⟨us,p,q⟩:=r
     refine⟨us,?_,q.mono (au _) hx⟩
     rcases p with⟨o',p⟩|p
     ·exact .inl ⟨o',by rw[c9 (by rintro rfl;rw[ha]at p;cases p)];exact p⟩
     ·exact .inr p
    |lst _=>cases Bs
    |exc _=>cases Bs
    |dct _=>cases Bs
    |rod _=>cases Bs
    |dcx _=>cases Bs
    |rox _=>cases Bs
    |obj _ _=>cases Bs
    |tab _ _ _=>cases Bs
    |pin _ _ _ _=>cases Bs
    |gone=>trivial
   ·refine r.keep (au _) hx (fun o ho=>?_) fun b' q h=>by rw[c9 (by rintro rfl;rw[ha]at h;cases h)];exact h
    have hb:b≠a:=by
     rintro rfl
     exact e (S.nd i n b d _ h1 hn (by simpa using Bs) rfl h2 hm)
    rw[c9 hb];exact ho
end
end L2
variable{st bF st1:List L2.al}{body:L2.FS}{f f':L2.W->L2.W->List L2.al->L2.R L2.W}{t:L2.FT}{kvs:List (L2.DK×L2.W)}{ws:List L2.W}{ρ:L2.cv}{fa fb fe el:L2.FE}{F G:List L2.W->List L2.al->L2.R L2.W}{ck:Option (Nat×List L2.W)}
namespace L2
open PySem PySem.Spec PyProof.Rows
structure Rl(X:Cx)(μ:List Addr)(ρ:cv)(st:List al)(σ:St)(H:Hp):Prop where
 env:Paired (fun(o:Option W) (s:Option V)=>∀w,o=some w->∃v,s=some v/\bK X.K μ H w v) ρ σ
 sto:iW X.K X.mg μ st H
theorem sM(h:μ <+: μ')(x:fw K H H'):∀{ρ:cv} {σ:St},Paired (fun(o:Option W) (s:Option V)=>∀w,o=some w->∃v,s=some v/\bK K μ H w v) ρ σ ->
  Paired (fun(o:Option W) (s:Option V)=>∀w,o=some w->∃v,s=some v/\bK K μ' H' w v) ρ σ
 |_,_,.nil=>.nil
 |_,_,.cons a t=>.cons (fun w e=>let ⟨v,p,q⟩:=a w e;⟨v,p,q.mono h x⟩) (sM h x t)
theorem Rl.to(r:Rl X μ ρ st σ H)(h:μ <+: μ')(x:fw X.K H H')(s:iW X.K X.mg μ' bF H'):Rl X μ' ρ bF σ H':=⟨sM h x r.env,s⟩
theorem u4:∀{ρ:cv} {σ:St} {i:Nat} {w:W},Paired (fun(o:Option W) (s:Option V)=>∀w,o=some w->∃v,s=some v/\bK K μ H w v) ρ σ->ρ[i]?=some (some w)->∃v,σ[i]?=some (some v)/\bK K μ H w v
 |_,_,_,_,.nil,e=>by simp at e
 |_,_,0,w,.cons a t,e=>by simp at e;obtain⟨v,p,q⟩:=a w e;exact⟨v,by simp[p],q⟩
 |_,_,i+1,w,.cons a t,e=>by simpa using u4 (i:=i) t (by simpa using e)
theorem rG{w:W}{v:V}(r:bK K μ H w v):∀{ρ:cv} {σ:St} (i:Nat),Paired (fun(o:Option W) (s:Option V)=>∀w,o=some w->∃v,s=some v/\bK K μ H w v) ρ σ ->
  Paired (fun(o:Option W) (s:Option V)=>∀w,o=some w->∃v,s=some v/\bK K μ H w v) (ρ.set i (some w)) (σ.set i (some v))
 |_,_,_,.nil=>.nil
 |_,_,0,.cons a t=>.cons (fun w' e=>⟨v,rfl,by cases e;exact r⟩) t
 |_,_,i+1,.cons a t=>.cons a (rG r i t)
structure tN(X:Cx)(ai:List (Addr×Obj))(σ:St)(c:Str)(H:Hp)(e:Value)(s:Shared):Prop where
 inv:bM X ai σ H s
 ex:∃x C t B,e=.ref x/\X.mg c=some C/\H x=none/\B.StaysIn s.heap/\B.get? x=none/\s.heap.FunFrames B X.stack /\
  (s.heap.TracedW B x C (.ref t)\/(∃oe vs,s.heap.get? x=some oe/\oe.cls=C/\oe.dict=none/\oe.data=.fields vs/\vs[1]?=some .none/\vs[0]?=some (.ref t))\/∃L,X.env.frame=some L/\s.heap.TracedAtW B x C (.ref t) (rawInt L)) /\
  ∀b o,s.heap.get? b=some o->(H b≠none\/((∃o0,X.s₀.heap.get? b=some o0)/\b∉X.fs/\b∉X.ex)\/((∃y,X.env.cells.lookup y=some b)/\b∉rk X.stack)\/∃p∈X.pn++ai,p.1=b)->B.get? b=some o
def XS(X:Cx)(c:Str)(μ:List Addr)(ρ:cv)(st:List al)(H:Hp):Prop:=
 ∀ai μ' σ' H' e s',μ <+: μ'->fw X.K H H'->Rl X μ' ρ st σ' H'->tN X ai σ' c H' e s'->X.xe e s'
def XE(X:Cx)(c:Str)(μ:List Addr)(st:List al)(σ:St)(H:Hp):Prop:=
 ∀ai μ' H' e s',μ <+: μ'->fw X.K H H'->iW X.K X.mg μ' st H'->tN X ai σ c H' e s'->X.xe e s'
theorem XE.mono{c:Str}{μ1:List Addr}{H1:Hp}(h:XE X c μ st σ H)(p:μ <+: μ1)(x:fw X.K H H1):XE X c μ1 st σ H1:=fun ai μ' H' e s' a b=>h ai μ' H' e s' (p.trans a) (x.trans b)
theorem XS.mono{c:Str}{μ1:List Addr}{H1:Hp}(h:XS X c μ ρ st H)(p:μ <+: μ1)(x:fw X.K H H1):XS X c μ1 ρ st H1:=fun ai μ' σ' H' e s' a b=>h ai μ' σ' H' e s' (p.trans a) (x.trans b)
theorem XS.toE{c:Str}{Uy:List al}(h:XS X c μ ρ st H)(r:Rl X μ ρ Uy σ H):XE X c μ st σ H:=fun ai μ' H' e s' a b s f=>h ai μ' σ H' e s' a b (r.to a b s) f
def RK(X:Cx)(rel:List Addr->Hp->α->β->Prop)(μ:List Addr)(σ:St)(H:Hp)(Q:β->Hp->Prop):R α->Prop
 |.ok a bF=>∀μ' b H',μ <+: μ'->fw X.K H H'->iW X.K X.mg μ' bF H'->rel μ' H' a b->Q b H'
 |.ex c bF=>XE X c μ bF σ H
 |.bad=>False
theorem RK.mono{rel:List Addr->Hp->α->β->Prop}{μ1:List Addr}{H1:Hp}{Q:β->Hp->Prop}{r:R α}(h:RK X rel μ σ H Q r)(p:μ <+: μ1)(x:fw X.K H H1):RK X rel μ1 σ H1 Q r:=by
 cases r with
 |ok a st=>exact fun μ' b H' a1 b1=>h μ' b H' (p.trans a1) (x.trans b1)
 |ex c st=>exact XE.mono h p x
 |bad=>exact h
def tG(X:Cx)(rel:List Addr->Hp->α->β->Prop)(f:cv->List al->R α)(σ:St)(H:Hp)(Q:β->Hp->Prop):Prop:=
 ∃μ ρ st,Rl X μ ρ st σ H/\RK X rel μ σ H Q (f ρ st)
abbrev wa(X:Cx):List Addr->Hp->W->V->Prop:=fun μ H w v=>bK X.K μ H w v
abbrev U8(X:Cx):List Addr->Hp->List W->List V->Prop:=fun μ H w v=>RelWs X.K μ H w v
abbrev Ox:List Addr->Hp->Bool->Bool->Prop:=fun _ _ a b=>a=b
abbrev tE(X:Cx)(f:FE):TE:=tG X (wa X) f
abbrev tT(X:Cx)(f:FT):TT:=tG X Ox f
abbrev U9(X:Cx)(f:FA):TA:=tG X (U8 X) f
theorem RK.bind{α' β':Type}{rel:List Addr->Hp->α->β->Prop}{T6:List Addr->Hp->α'->β'->Prop}{r:R α}{k:α->List al->R α'}{Q:β'->Hp->Prop}{T:β->Hp->Prop}
  (h:RK X T6 μ σ H Q (r.bind k)) (l:Rl X μ ρ st σ H)
  (hk:∀μ' bF x v H',μ <+: μ'->fw X.K H H'->Rl X μ' ρ bF σ H'->rel μ' H' x v->RK X T6 μ' σ H' Q (k x bF)->T v H'):RK X rel μ σ H T r:=by
 cases r with
 |ok a bF=>exact fun μ' b H' p x s q=>hk μ' bF a b H' p x (l.to p x s) q (RK.mono h p x)
 |ex c bF=>exact h
 |bad=>exact h
def SK(X:Cx)(μ:List Addr)(H:Hp)(D:ze):RS->Prop
 |.nx ρ st=>∀μ' σ' H',μ <+: μ'->fw X.K H H'->Rl X μ' ρ st σ' H'->D.nx σ' H'
 |.bk ρ st=>∀μ' σ' H',μ <+: μ'->fw X.K H H'->Rl X μ' ρ st σ' H'->D.bk σ' H'
 |.ct ρ st=>∀μ' σ' H',μ <+: μ'->fw X.K H H'->Rl X μ' ρ st σ' H'->D.ct σ' H'
 |.rt w st=>∀μ' v H',μ <+: μ'->fw X.K H H'->iW X.K X.mg μ' st H'->bK X.K μ' H' w v->D.rt v H'
 |.ex c ρ st=>XS X c μ ρ st H
 |.bad=>False
theorem SK.mono{μ1:List Addr}{H1:Hp}{D:ze}{r:RS}(h:SK X μ H D r)(p:μ <+: μ1)(x:fw X.K H H1):SK X μ1 H1 D r:=by
 cases r with
 |nx ρ st=>exact fun μ' b H' a1 b1=>h μ' b H' (p.trans a1) (x.trans b1)
 |bk ρ st=>exact fun μ' b H' a1 b1=>h μ' b H' (p.trans a1) (x.trans b1)
 |ct ρ st=>exact fun μ' b H' a1 b1=>h μ' b H' (p.trans a1) (x.trans b1)
 |rt w st=>exact fun μ' b H' a1 b1=>h μ' b H' (p.trans a1) (x.trans b1)
 |ex c ρ st=>exact XS.mono h p x
 |bad=>exact h
def U_(X:Cx)(g:FS):TS:=fun D σ H=>∃μ ρ st,Rl X μ ρ st σ H/\SK X μ H D (g ρ st)
structure SE(X:Cx)(e:Expr)(f:FE):Prop where
 h:PE X e (tE X f)
structure ST(X:Cx)(e:Expr)(f:FT):Prop where
 h:PT X e (tT X f)
structure SW(X:Cx)(e:Expr)(f:FT):Prop where
 h:PW X e (tT X f)
structure SA(X:Cx)(es:List Expr)(f:FA):Prop where
 h:PA X es (U9 X f)
structure SS(X:Cx)(s:Stmt)(g:FS):Prop where
 h:PS X s (U_ X g)
structure SB(X:Cx)(s:List Stmt)(g:FS):Prop where
 h:Ey X s (U_ X g)
theorem PE.imp{t t':TE}(h:PE X e t)(i:∀σ H Q,t' σ H Q->t σ H Q):PE X e t':=fun ai s σ H Q I q=>h ai s σ H Q I (i _ _ _ q)
theorem PT.imp{t t':TT}(h:PT X e t)(i:∀σ H Q,t' σ H Q->t σ H Q):PT X e t':=fun ai s σ H Q I q=>h ai s σ H Q I (i _ _ _ q)
theorem PW.imp{t t':TT}(h:PW X e t)(i:∀σ H Q,t' σ H Q->t σ H Q):PW X e t':=fun wh ai s σ H Q I q=>h wh ai s σ H Q I (i _ _ _ q)
theorem PA.imp{e:List Expr}{t t':TA}(h:PA X e t)(i:∀σ H Q,t' σ H Q->t σ H Q):PA X e t':=fun pos ai s σ H Q I q=>h pos ai s σ H Q I (i _ _ _ q)
theorem PS.imp{e:Stmt}{t t':TS}(h:PS X e t)(i:∀D σ H,t' D σ H->t D σ H):PS X e t':=fun ai s σ H D I q=>h ai s σ H D I (i _ _ _ q)
theorem Ey.imp{e:List Stmt}{t t':TS}(h:Ey X e t)(i:∀D σ H,t' D σ H->t D σ H):Ey X e t':=fun ai s σ H D I q=>h ai s σ H D I (i _ _ _ q)
section
variable{a b c:Expr}{gb:List Expr}{fc:FE}{ft fu:FT}{fs:FA}
def af(i:Nat):FE:=fun ρ st=>match ρ[i]? with
 |some (some w)=>.ok w st
 |_=>.bad
theorem ae(i:Nat){pos:Pos}(hN:X.N[i]?=some x:=by rfl)(hv:Ra X.env.scope x:=by first|exact Or.inl rfl|exact Or.inr (Or.inl rfl)|exact Or.inr (Or.inr rfl))(hd:(x==("__debug__":Str))=false:=by decide)
  (um:(x==("__classdict__":Str))=false:=by decide):SE X (.Name x pos) (af i):=⟨(pv i hN hv hd um).imp fun σ H Q h=>by
 obtain⟨μ,ρ,st,r,h⟩:=h
 unfold af at h
 cases e:ρ[i]? with
 |none=>rw[e]at h;exact h.elim
 |some ow=>
  cases ow with
  |none=>rw[e]at h;exact h.elim
  |some w=>
   rw[e]at h
   obtain⟨v,e1,e2⟩:=u4 r.env e
   exact⟨v,e1,h μ v H (au _) fw.refl r.sto e2⟩⟩
def eC(w:W):FE:=fun _ st=>.ok w st
abbrev eI(n:Int):FE:=eC (.int n)
theorem Sc{w:W}{v:V}(hc:PE X e (tC v))(hr:∀μ H,bK X.K μ H w v):SE X e (eC w):=⟨hc.imp fun σ H Q h=>by
 obtain⟨μ,ρ,st,r,h⟩:=h
 exact h μ v H (au _) fw.refl r.sto (hr _ _)⟩
theorem aD{i:Int}:SE X (.Constant (.int i) j pos) (eC (.int i)):=Sc NJ fun _ _=>.int
theorem qD{k:Bool}:SE X (.Constant (.bool k) j pos) (eC (.bl k)):=Sc Re fun _ _=>.bl
theorem u5:SE X (.Constant .none j pos) (eC .non):=Sc NK fun _ _=>.non
theorem cw(h:x=tx l:=by decide +kernel):SE X (.Constant (.str x) j pos) (eC (.str l)):=Sc FK fun _ _=>by rw[h];exact .str
theorem Oy{w:W}(h:∃u v,X.mg x=some u/\cW 0 v u/\∀μ H,bK X.K μ H w v)(hg:Gl X x:=by rfl)(hd:(x==("__debug__":Str))=false:=by decide):SE X (.Name x pos) (eC w):=by
 obtain⟨u,v,a,b,c⟩:=h
 exact Sc (RY ⟨u,a,b⟩ hg hd) c
def e2(f:W->W->List al->R W)(fa fb:FE):FE:=fun ρ st=>(fa ρ st).bind fun x st=>(fb ρ st).bind fun y st=>f x y st
def Fy(X:Cx)(μ:List Addr)(H:Hp)(Q:VK):R W->Prop
 |.ok w bF=>∀μ' v H',μ <+: μ'->fw X.K H H'->iW X.K X.mg μ' bF H'->bK X.K μ' H' w v->Q v H'
 |_=>False
def rH:R α->Prop
 |.ex _ _=>False
 |_=>True
def Sd(X:Cx)(f:W->W->List al->R W):R2:=fun x y H Q=>∃μ st wx wy,iW X.K X.mg μ st H/\bK X.K μ H wx x/\bK X.K μ H wy y/\Fy X μ H Q (f wx wy st)
structure rJ(X:Cx)(g:Value->Value->Sem Value)(f:W->W->List al->R W):Prop where
 h:l7 X g (Sd X f)
 n:∀x y st,rH (f x y st)
theorem oD{σ:St}{Q:VK}{r:R W}(h:RK X (wa X) μ σ H Q r)(n:rH r):Fy X μ H Q r:=by
 cases r with
 |ok a st=>exact h
 |ex c st=>exact n.elim
 |bad=>exact h
theorem Dt{Q:VK}(n:∀x y st,rH (f x y st))(h:tE X (e2 f fa fb) σ H Q):Ru (Sd X f) (tE X fa) (tE X fb) σ H Q:=by
 walk_at "2"
 refine⟨μ,ρ,st,l,RK.bind h l fun μ1 st1 x v H1 p1 x1 l1 q1 h1=>⟨μ1,ρ,st1,l1,RK.bind h1 l1 fun μ2 cT y u H2 p2 x2 l2 q2 h2=>?_⟩⟩
 exact⟨μ2,cT,x,y,l2.sto,q1.mono p2 x2,q2,oD h2 (n _ _ _)⟩
theorem bV{op:Operator}(ho:rJ X (binaryOp op) f)(ha:SE X a fa)(hb:SE X b fb):SE X (.BinOp a op b pos) (e2 f fa fb):=⟨(Rv ho.h ha.h hb.h).imp fun _ _ _ h=>Dt ho.n h⟩
theorem ki(ho:rJ X (compareOp op) f)(ha:SE X a fa)(hb:SE X b fb)(hm:behindInMarks op b=false:=by first|exact FZ _|rfl):SE X (.Compare a [op] [b] pos) (e2 f fa fb):=⟨(Kw ho.h ha.h hb.h hm).imp fun _ _ _ h=>Dt ho.n h⟩
def da(fa:FE):FT:=fun ρ st=>(fa ρ st).bind fun x st=>match x with
 |.bl k=>.ok k st
 |_=>.bad
theorem rK{Q:Bool->Hp->Prop}(h:tT X (da fa) σ H Q):tE X fa σ H fun x H1=>∃k,x=.bl k/\Q k H1:=by
 walk_at "2"
 walk_at "1"
 cases x with
 |bl k=>exact⟨k,q1.blE,h1 μ1 k H1 (au _) fw.refl l1.sto rfl⟩
 |_=>exact h1.elim
theorem bv(ho:rJ X (compareOp op) f)(ha:SE X a fa)(hb:SE X b fb)(hm:behindInMarks op b=false:=by first|exact FZ _|rfl):ST X (.Compare a [op] [b] pos) (da (e2 f fa fb)):=⟨(Kx ho.h ha.h hb.h hm).imp fun σ H Q h=>by
 have h':tE X (e2 f fa fb) σ H fun x H1=>∃k,x=.bl k/\Q k H1:=rK h
 exact Dt ho.n h'⟩
theorem gp(h:SE X e fe)(he:∀vN,isTrue e X.env vN=(do let v <- vN;standAt e.pos;holding [v] (truthy v)):=by intro _;rfl):ST X e (da fe):=⟨(NL h.h he).imp fun σ H Q h=>rK h⟩
def bnd(t u:FT):FT:=fun ρ st=>(t ρ st).bind fun k st=>if k then u ρ st else .ok false st
def Bz(t u:FT):FT:=fun ρ st=>(t ρ st).bind fun k st=>if k then .ok true st else u ρ st
def Gy(t:FT):FT:=fun ρ st=>(t ρ st).bind fun k st=>.ok (!k) st
theorem kw(ha:ST X a ft):SW X (.BoolOp .And [a] pos) ft:=⟨Kj ha.h⟩
theorem qE(ha:ST X a ft):SW X (.BoolOp .Or [a] pos) ft:=⟨NM ha.h⟩
theorem mX(ha:ST X a ft)(hb:SW X (.BoolOp .And (b::gb) pos) fu):SW X (.BoolOp .And (a::b::gb) pos) (bnd ft fu):=⟨(NN ha.h hb.h).imp fun σ H Q h=>by
 walk_at "2"
 walk_at "1"
 cases q1
 cases x with
 |true=>exact⟨μ1,ρ,st1,l1,h1⟩
 |false=>exact h1 μ1 false H1 (au _) fw.refl l1.sto rfl⟩
theorem u6(ha:ST X a ft)(hb:SW X (.BoolOp .Or (b::gb) pos) fu):SW X (.BoolOp .Or (a::b::gb) pos) (Bz ft fu):=⟨(Rg ha.h hb.h).imp fun σ H Q h=>by
 walk_at "2"
 walk_at "1"
 cases q1
 cases x with
 |false=>exact⟨μ1,ρ,st1,l1,h1⟩
 |true=>exact h1 μ1 true H1 (au _) fw.refl l1.sto rfl⟩
theorem p6(h:SW X e ft):ST X e ft:=⟨h.h.pt⟩
theorem qF(ha:ST X a ft):ST X (.UnaryOp .Not a pos) (Gy ft):=⟨(NO ha.h).imp fun σ H Q h=>by
 walk_at "2"
 walk_at "1"
 cases q1
 exact h1 μ1 _ H1 (au _) fw.refl l1.sto rfl⟩
def qG(fa fb:FE):FE:=fun ρ st=>(fa ρ st).bind fun x st=>match x with
 |.bl true=>fb ρ st
 |.bl false=>.ok (.bl false) st
 |_=>.bad
def J_(fa fb:FE):FE:=fun ρ st=>(fa ρ st).bind fun x st=>match x with
 |.bl true=>.ok (.bl true) st
 |.bl false=>fb ρ st
 |_=>.bad
def zD(fa:FE):FE:=fun ρ st=>(fa ρ st).bind fun x st=>match x with
 |.bl k=>.ok (.bl (!k)) st
 |_=>.bad
theorem nI{op:BoolOp}(h:SE X a fa):SE X (.BoolOp op [a] pos) fa:=⟨NP h.h⟩
theorem rL(ha:SE X a fa)(hb:SE X (.BoolOp .And (b::gb) pos) fb):SE X (.BoolOp .And (a::b::gb) pos) (qG fa fb):=⟨(NQ ha.h hb.h).imp fun σ H Q h=>by
 walk_at "2"
 walk_at "1"
 cases x with
 |bl k=>
  refine⟨k,q1.blE,?_⟩
  cases k with
  |true=>exact⟨μ1,ρ,st1,l1,h1⟩
  |false=>exact h1 μ1 _ H1 (au _) fw.refl l1.sto .bl
 |_=>exact h1.elim⟩
theorem K1(ha:SE X a fa)(hb:SE X (.BoolOp .Or (b::gb) pos) fb):SE X (.BoolOp .Or (a::b::gb) pos) (J_ fa fb):=⟨(Rj ha.h hb.h).imp fun σ H Q h=>by
 walk_at "2"
 walk_at "1"
 cases x with
 |bl k=>
  refine⟨k,q1.blE,?_⟩
  cases k with
  |false=>exact⟨μ1,ρ,st1,l1,h1⟩
  |true=>exact h1 μ1 _ H1 (au _) fw.refl l1.sto .bl
 |_=>exact h1.elim⟩
theorem zE(ha:SE X a fa):SE X (.UnaryOp .Not a pos) (zD fa):=⟨(NR ha.h).imp fun σ H Q h=>by
 walk_at "2"
 walk_at "1"
 cases x with
 |bl k=>exact⟨k,q1.blE,h1 μ1 _ H1 (au _) fw.refl l1.sto .bl⟩
 |_=>exact h1.elim⟩
def J'(t:FT)(fa fb:FE):FE:=fun ρ st=>(t ρ st).bind fun k st=>if k then fa ρ st else fb ρ st
theorem Gz(hc:ST X c ft)(ha:SE X a fa)(hb:SE X b fb):SE X (.IfExp c a b pos) (J' ft fa fb):=⟨(FP hc.h ha.h hb.h).imp fun σ H Q h=>by
 walk_at "2"
 walk_at "1"
 cases q1
 cases x with
 |false=>exact⟨μ1,ρ,st1,l1,h1⟩
 |true=>exact⟨μ1,ρ,st1,l1,h1⟩⟩
def W.isNon:W->Bool
 |.non=>true
 |_=>false
def B4(fa:FE):FE:=fun ρ st=>(fa ρ st).bind fun x st=>.ok (.bl x.isNon) st
def iB(fa:FE):FE:=fun ρ st=>(fa ρ st).bind fun x st=>.ok (.bl (!x.isNon)) st
theorem Mo{w:W}{v:V}(r:bK X.K μ H w v):decide (v=.non)=w.isNon:=by
 cases w with
 |non=>rw[r.nonE];rfl
 |bl b=>rw[r.blE];rfl
 |int b=>rw[r.intE];rfl
 |str b=>rw[r.strE];rfl
 |tup b=>obtain⟨p,vs,rfl,_⟩:=r.tupE;rfl
 |loc b=>obtain⟨p,_,rfl⟩:=r.locE;rfl
theorem Mp{Q:VK}(h:tE X (B4 fa) σ H Q):Rf (tE X fa) σ H Q:=by
 walk_at "2"
 walk_at "1"
 show Q (.bl (decide (v=.non))) H1
 rw[Mo q1]
 exact h1 μ1 _ H1 (au _) fw.refl l1.sto .bl
theorem GA{Q:VK}(h:tE X (iB fa) σ H Q):Mg (tE X fa) σ H Q:=by
 walk_at "2"
 walk_at "1"
 show Q (.bl (!decide (v=.non))) H1
 rw[Mo q1]
 exact h1 μ1 _ H1 (au _) fw.refl l1.sto .bl
theorem Se(ha:SE X a fa):SE X (.Compare a [.Is] [.Constant .none j iY] pos) (B4 fa):=⟨(FM (FL ha.h)).imp fun _ _ _ h=>Mp h⟩
theorem GB(ha:SE X a fa):SE X (.Compare a [.IsNot] [.Constant .none j iY] pos) (iB fa):=⟨(FM (Dd ha.h)).imp fun _ _ _ h=>GA h⟩
theorem Oz(ha:SE X a fa):ST X (.Compare a [.Is] [.Constant .none j iY] pos) (da (B4 fa)):=⟨(FN (FL ha.h)).imp fun _ _ _ h=>Mp (rK h)⟩
theorem mY(ha:SE X a fa):ST X (.Compare a [.IsNot] [.Constant .none j iY] pos) (da (iB fa)):=⟨(FN (Dd ha.h)).imp fun _ _ _ h=>GA (rK h)⟩
def aK:FA:=fun _ st=>.ok [] st
def ah(fa:FE)(fs:FA):FA:=fun ρ st=>(fa ρ st).bind fun x st=>(fs ρ st).bind fun xs st=>.ok (x::xs) st
theorem aw:SA X [] aK:=⟨oy.imp fun σ H Q h=>by
 walk_at "2"
 exact h μ [] H (au _) fw.refl l.sto .nilI⟩
theorem aa(ha:SE X e fe)(hr:SA X es fs)(hs:starEach (e::es) X.env=(false,eval e X.env)::starEach es X.env:=by rfl):SA X (e::es) (ah fe fs):=⟨(iM ha.h hr.h hs).imp fun σ H Q h=>by
 walk_at "2"
 refine⟨μ,ρ,st,l,RK.bind h l fun μ1 st1 x v H1 p1 x1 l1 q1 h1=>⟨μ1,ρ,st1,l1,RK.bind h1 l1 fun μ2 cT xs vs H2 p2 x2 l2 q2 h2=>?_⟩⟩
 exact h2 μ2 _ H2 (au _) fw.refl l2.sto (.consI (q1.mono p2 x2) q2)⟩
def GC(zs:List (List Nat)):FA:=fun _ st=>.ok (zs.map W.str) st
theorem K2{zs:List Str}(h:CS es zs)(hz:zs=ls.map tx:=by decide +kernel):SA X es (GC ls):=⟨(KS (X:=X) h).imp fun σ H Q q=>by
 obtain⟨μ,ρ,st,l,q⟩:=q
 refine q μ _ H (au _) fw.refl l.sto ?_
 rw[hz]
 clear hz h q
 induction ls with
 |nil=>exact .nilI
 |cons a r ih=>exact .consI .str ih⟩
def qf(ws:List W)(st:List al):R W:=if ws.length<=kN then .ok (.tup ws) st else .bad
def nJ(ws:List W)(st:List al):R W:=if ws.length<=kN then .ok #[2] (st++[.lst ws])else .bad
def fP(fs:FA):FE:=fun ρ st=>(fs ρ st).bind fun ws st=>qf ws st
def kO(fs:FA):FE:=fun ρ st=>(fs ρ st).bind fun ws st=>nJ ws st
theorem iW.newLst(S:iW K mg μ st H){p:Addr}(hp:H p=none)(r:RelWs K μ H ws vs):iW K mg (μ++[p]) (st++[.lst ws]) (eG H p (.lst vs)):=
 S.push hp ⟨vs,gU,r.mono (bR _ _) (ic.same (cY hp _))⟩
theorem mZ(S:iW K mg μ st H){p:Addr}:bK K (μ++[p]) H' #[2] (.ref p):=.locI (by rw[S.len];simp)
theorem GD{Q:VK}(S:iW X.K X.mg μ st H)(q:RelWs X.K μ H ws vs)(h:RK X (wa X) μ σ H Q (qf ws st)):vs.length<=sizeLine/\∀p H2,H p=none->H2=eG H p (.tup vs)->Q (.ref p) H2:=by
 unfold qf at h
 by_cases hz:ws.length<=kN
 ·rw[aC hz]at h
  refine⟨by rw[<- q.len];exact oB hz,fun p H2 hp e=>?_⟩
  subst e
  have x:=ic.same (K:=X.K) (cY hp (.tup vs))
  exact h μ _ _ (au _) x (S.same (cY hp _)) (.tupI ic.new (q.mono (au _) x))
 ·rw[aJ hz]at h;exact h.elim
theorem u7{σ:St}{Q:VK}(S:iW X.K X.mg μ st H)(q:RelWs X.K μ H ws vs)(h:RK X (wa X) μ σ H Q (nJ ws st)):vs.length<=sizeLine/\∀p H2,H p=none->H2=eG H p (.lst vs)->Q (.ref p) H2:=by
 unfold nJ at h
 by_cases hz:ws.length<=kN
 ·rw[aC hz]at h
  refine⟨by rw[<- q.len];exact oB hz,fun p H2 hp e=>?_⟩
  subst e
  exact h (μ++[p]) _ _ (bR _ _) (ic.same (cY hp _)) (S.newLst hp q) (mZ S)
 ·rw[aJ hz]at h;exact h.elim
theorem eU{k:Nat}(h:SA X es fs):SE X (.Tuple es k pos) (fP fs):=⟨(Dp h.h).imp fun σ H Q h=>by
 walk_at "2"
 exact⟨μ,ρ,st,l,RK.bind h l fun μ1 st1 x v H1 p1 x1 l1 q1 h1=>GD l1.sto q1 h1⟩⟩
theorem jU(h:SA X es fs):SE X (.List es pos) (kO fs):=⟨(KP h.h).imp fun σ H Q h=>by
 walk_at "2"
 exact⟨μ,ρ,st,l,RK.bind h l fun μ1 st1 x v H1 p1 x1 l1 q1 h1=>u7 l1.sto q1 h1⟩⟩
end
end L2
namespace L2
open PySem PySem.Spec PyProof.Rows
section
theorem pL{Q:VK}{i:Int}(S:iW X.K X.mg μ st H)(h:Fy X μ H Q (.ok (.int i) st)):Q (.int i) H:=h μ _ H (au _) fw.refl S .int
theorem jB{Q:VK}{i:Bool}(S:iW X.K X.mg μ st H)(h:Fy X μ H Q (.ok (.bl i) st)):Q (.bl i) H:=h μ _ H (au _) fw.refl S .bl
theorem rM{Q:VK}{i:List Nat}(S:iW X.K X.mg μ st H)(h:Fy X μ H Q (.ok (.str i) st)):Q (.str (tx i)) H:=h μ _ H (au _) fw.refl S .str
theorem OA{Q:VK}{r:R W}(h:Fy X μ H Q r):RK X (wa X) μ σ H Q r:=by
 cases r with
 |ok a st=>exact h
 |ex c st=>exact h.elim
 |bad=>exact h
def B5(C:Int->Int->Prop)[∀i j,Decidable (C i j)](f:Int->Int->Int):W->W->List al->R W
 |.int i,.int j,st=>if C i j then .ok (.int (f i j)) st else .bad
 |_,_,_=>.bad
theorem wb{C C':Int->Int->Prop}[∀i j,Decidable (C' i j)]{f:Int->Int->Int}(h:l7 X g (rI C fun i j=>.int (f i j)))(hC:∀i j,C' i j->C i j):rJ X g (B5 C' f):=⟨h.imp fun x y H Q zq=>by
 obtain⟨μ,st,wx,wy,S,rx,ry,q⟩:=zq
 cases wx with
 |int i=>
  cases wy with
  |int j=>
   simp only[B5]at q
   by_cases c:C' i j
   ·rw[aC c]at q;exact⟨i,j,rx.intE,ry.intE,hC i j c,pL S q⟩
   ·rw[aJ c]at q;exact q.elim
  |_=>exact q.elim
 |_=>cases wy<;>exact q.elim,fun x y st=>by
 unfold B5
 split
 ·split<;>trivial
 ·trivial⟩
def EY(f:Int->Int->Bool):W->W->List al->R W
 |.int i,.int j,st=>.ok (.bl (f i j)) st
 |_,_,_=>.bad
theorem GE{f:Int->Int->Bool}(h:l7 X g (Fw fun i j=>.bl (f i j))):rJ X g (EY f):=⟨h.imp fun x y H Q zq=>by
 obtain⟨μ,st,wx,wy,S,rx,ry,q⟩:=zq
 cases wx with
 |int i=>
  cases wy with
  |int j=>exact⟨i,j,rx.intE,ry.intE,jB S q⟩
  |_=>exact q.elim
 |_=>cases wy<;>exact q.elim,fun x y st=>by
 unfold EY
 split<;>trivial⟩
abbrev K3(i j:Int):Prop:=(-(2^64)<i/\i<2^64)\/(-(2^64)<j/\j<2^64)
abbrev wc:=B5 (fun _ _=>True) fun i j=>i-j
abbrev Sf:=B5 K3 fun i j=>i*j
abbrev iC:=B5 (fun _ j=>0<j) fun i j=>i%j
abbrev mB:=B5 (fun _ j=>0<j/\j<1073741824) fun i j=>i/j
abbrev Sg:=B5 (fun i j=>0<=j/\j<=1000000/\i.natAbs<2^64) fun i j=>i^j.toNat
abbrev oE:=B5 (fun i j=>0<=j/\j<=1000000/\i.natAbs<2^64) fun i j=>i*2^j.toNat
abbrev zF:=B5 (fun _ j=>0<=j) fun i j=>i/2^j.toNat
abbrev oF:=B5 (fun _ _=>True) fun i j=>Builtin.bitAnd i j
theorem B6{f:Int->Int->V}(h:l7 X g (Fw f)):l7 X g (rI (fun _ _=>True) f):=h.imp fun _ _ _ _ ⟨i,j,a,b,_,q⟩=>⟨i,j,a,b,q⟩
theorem wM:rJ X (binaryOp .Sub) wc:=wb (B6 N4) fun _ _ _=>trivial
theorem Si:rJ X (binaryOp .Mult) Sf:=wb N5 fun _ _ h=>h
theorem gI:rJ X (binaryOp .Mod) iC:=wb N6 fun _ _ h=>h
theorem l_:rJ X (binaryOp .FloorDiv) mB:=wb Kv fun _ _ h=>h
theorem Sj:rJ X (binaryOp .Pow) Sg:=wb N7 fun _ _ h=>h
theorem tO:rJ X (binaryOp .LShift) oE:=wb FX fun _ _ h=>h
theorem Mq:rJ X (binaryOp .RShift) zF:=wb N8 fun _ _ h=>h
theorem ya:rJ X (binaryOp .BitAnd) oF:=wb (B6 N9) fun _ _ _=>trivial
def e7:W->W->List al->R W
 |.int i,.int j,st=>.ok (.int (i+j)) st
 |.str a,.str b,st=>if a.length+b.length<=kN then .ok (.str (a++b)) st else .bad
 |.tup a,.tup b,st=>qf (a++b) st
 |.loc n,.loc m,st=>match st[n]?,st[m]? with
  |some (.lst a),some (.lst b)=>nJ (a++b) st
  |_,_=>.bad
 |_,_,_=>.bad
theorem K4(ws:List W)(st:List al):rH (qf ws st):=by unfold qf;split<;>trivial
theorem K5(ws:List W)(st:List al):rH (nJ ws st):=by unfold nJ;split<;>trivial
theorem fG:rJ X (binaryOp .Add) e7:=⟨fun ai s σ H x y v u Q I rv ru zq=>by
 obtain⟨μ,st,wx,wy,S,rx,ry,q⟩:=zq
 cases wx with
 |int i=>
  cases wy with
  |int j=>exact N3 ai s σ H x y v u Q I rv ru ⟨i,j,rx.intE,ry.intE,pL S q⟩
  |_=>exact q.elim
 |str a=>
  cases wy with
  |str b=>
   simp only[e7]at q
   by_cases c:a.length+b.length<=kN
   ·rw[aC c]at q
    exact BJ ai s σ H x y v u Q I rv ru ⟨_,_,rx.strE,ry.strE,by rw[iV,iV];exact oB c,by rw[BS];exact rM S q⟩
   ·rw[aJ c]at q;exact q.elim
  |_=>exact q.elim
 |tup a=>
  cases wy with
  |tup b=>
   obtain⟨p1,vs1,rfl,h1,r1⟩:=rx.tupE
   obtain⟨p2,vs2,rfl,h2,r2⟩:=ry.tupE
   have q':Fy X μ H Q (qf (a++b) st):=q
   unfold qf at q'
   by_cases c:(a++b).length<=kN
   ·rw[aC c]at q'
    refine Ov.h ai s σ H _ _ v u Q I rv ru ⟨p1,p2,vs1,vs2,rfl,rfl,h1,h2,by rw[<- r1.len,<- r2.len,<- aE];exact oB c,fun p H2 e t=>?_⟩
    exact q' μ _ _ (au _) (ic.same e) (S.same e) (.tupI t ((r1.app r2).mono (au _) (ic.same e)))
   ·rw[aJ c]at q';exact q'.elim
  |_=>exact q.elim
 |loc n=>
  cases wy with
  |loc m=>
   simp only[e7]at q
   cases e1:st[n]? with
   |none=>rw[e1]at q;exact q.elim
   |some c1=>
    cases e2:st[m]? with
    |none=>rw[e1,e2]at q;cases c1<;>exact q.elim
    |some c2=>
     cases c1 with
     |lst a=>
      cases c2 with
      |lst b=>
       rw[e1,e2]at q
       obtain⟨a1,g1,vs1,k1,r1⟩:=S.get e1
       obtain⟨a2,g2,vs2,k2,r2⟩:=S.get e2
       obtain⟨b1,f1,rfl⟩:=rx.locE
       obtain⟨b2,f2,rfl⟩:=ry.locE
       rw[g1]at f1;cases f1
       rw[g2]at f2;cases f2
       obtain⟨hz,qq⟩:=u7 (σ:=σ) S (r1.app r2) (OA q)
       exact KR ai s σ H _ _ v u Q I rv ru ⟨a1,a2,vs1,vs2,rfl,rfl,k1,k2,by rw[<- aE];exact hz,qq⟩
      |_=>rw[e1,e2]at q;exact q.elim
     |_=>rw[e1,e2]at q;exact q.elim
  |_=>exact q.elim
 |_=>cases wy<;>exact q.elim,fun x y st=>by
 unfold e7
 split
 ·trivial
 ·split<;>trivial
 ·exact K4 _ _
 ·split
  ·exact K5 _ _
  ·trivial
 ·trivial⟩
abbrev OB:=EY fun i j=>decide (i<j)
abbrev GF:=EY fun i j=>decide (j<i)
abbrev Q1:=EY fun i j=>decide (j<=i)
theorem w_lt:rJ X (compareOp .Lt) OB:=GE Ry
theorem yb:rJ X (compareOp .Gt) GF:=GE RA
theorem K6:rJ X (compareOp .GtE) Q1:=GE RB
end
end L2
namespace L2
open PySem PySem.Spec PyProof.Rows
mutual
def ky:W->W->Option Bool
 |.non,.non=>some true
 |.bl a,.bl b=>some (a==b)
 |.bl a,.int b=>some ((if a then 1 else 0)==b)
 |.int a,.bl b=>some (a==(if b then 1 else 0))
 |.int a,.int b=>some (a==b)
 |.str a,.str b=>some (a==b)
 |.tup a,.tup b=>eqWs a b
 |.loc _,_=>none
 |.non,.loc _=>none
 |.bl _,.loc _=>none
 |.int _,.loc _=>none
 |.str _,.loc _=>none
 |.tup _,.loc _=>none
 |.non,.bl _=>some false
 |.non,.int _=>some false
 |.non,.str _=>some false
 |.non,.tup _=>some false
 |.bl _,.non=>some false
 |.bl _,.str _=>some false
 |.bl _,.tup _=>some false
 |.int _,.non=>some false
 |.int _,.str _=>some false
 |.int _,.tup _=>some false
 |.str _,.non=>some false
 |.str _,.bl _=>some false
 |.str _,.int _=>some false
 |.str _,.tup _=>some false
 |.tup _,.non=>some false
 |.tup _,.bl _=>some false
 |.tup _,.int _=>some false
 |.tup _,.str _=>some false
def eqWs:List W->List W->Option Bool
 |[],[]=>some true
 |[],_::_=>some false
 |_::_,[]=>some false
 |x::xs,y::ys=>match ky x y,eqWs xs ys with
  |some a,some b=>some (a&&b)
  |_,_=>none
end
mutual
def W.dep:W->Nat
 |.tup ws=>depWs ws+1
 |_=>0
def depWs:List W->Nat
 |[]=>0
 |w::ws=>max w.dep (depWs ws)
end
theorem qH:∀(xs ys:List W) (b:Bool),eqWs xs ys=some b->∃e:Nat->Bool,(∀j (h1:j<xs.length) (h2:j<ys.length),ky xs[j] ys[j]=some (e j))/\((List.range (min xs.length ys.length)).all e&&xs.length==ys.length)=b
 |[],[],b,h=>by unfold eqWs at h;cases h;exact⟨fun _=>true,fun j h1=>absurd h1 (kh _),rfl⟩
 |[],y::ys,b,h=>by unfold eqWs at h;cases h;exact⟨fun _=>true,fun j h1=>absurd h1 (kh _),by simp⟩
 |x::xs,[],b,h=>by unfold eqWs at h;cases h;exact⟨fun _=>true,fun j _ h1=>absurd h1 (kh _),by simp⟩
 |x::xs,y::ys,b,h=>by
  unfold eqWs at h
  cases e1:ky x y with
  |none=>rw[e1]at h;simp at h
  |some a=>
   cases e2:eqWs xs ys with
   |none=>rw[e1,e2]at h;simp at h
   |some c=>
    rw[e1,e2]at h
    simp at h
    obtain⟨e,he,hb⟩:=qH xs ys c e2
    refine⟨fun j=>match j with|0=>a|j+1=>e j,fun j h1 h2=>?_,?_⟩
    ·cases j with
     |zero=>exact e1
     |succ j=>exact he j (jm h1) (jm h2)
    ·have m:min (x::xs).length (y::ys).length=min xs.length ys.length+1:=by simp only[eM];omega
     rw[m,ny,List.all_cons,List.all_map,<- h,<- hb]
     simp[Function.comp_def,Bool.and_assoc]
theorem Du{a b:W}{x:V}{k:Bool}(hn:a.dep<=0)(ra:bK X.K μ H a x)(rb:bK X.K μ H b x)(he:ky a b=some k):k=true:=by
 cases a with
 |tup i=>unfold W.dep at hn;omega
 |non=>cases ra.nonE;cases b<;>first|(unfold ky at he;cases he;rfl)|cases rb.blE|cases rb.intE|cases rb.strE|(obtain⟨_,_,z,_⟩:=rb.tupE;cases z)|(unfold ky at he;cases he)
 |bl i=>cases ra.blE;cases b<;>first|(cases rb.blE;unfold ky at he;simp at he;exact he)|cases rb.nonE|cases rb.intE|cases rb.strE|(obtain⟨_,_,z,_⟩:=rb.tupE;cases z)|(unfold ky at he;cases he)
 |int i=>cases ra.intE;cases b<;>first|(cases rb.intE;unfold ky at he;simp at he;exact he)|cases rb.nonE|cases rb.blE|cases rb.strE|(obtain⟨_,_,z,_⟩:=rb.tupE;cases z)|(unfold ky at he;cases he)
 |str i=>cases ra.strE;cases b<;>first|(have z:=rb.strE;injection z with z;rw[xX.mp z]at he;unfold ky at he;simp at he;exact he)|cases rb.nonE|cases rb.blE|cases rb.intE|(obtain⟨_,_,z,_⟩:=rb.tupE;cases z)|(unfold ky at he;cases he)
 |loc i=>cases b<;>(unfold ky at he;cases he)
theorem GG(I:bM X ai σ H s):∀(n:Nat) (a b:W) (x:V) (k:Bool),a.dep<=n->bK X.K μ H a x->bK X.K μ H b x->ky a b=some k->k=true:=by
 intro n
 induction n with
 |zero=>exact fun a b x k hn ra rb he=>Du hn ra rb he
 |succ n ih=>
  intro a b x k hn ra rb he
  cases a with
  |tup i=>
   obtain⟨p',Kc,rfl,hS',r'⟩:=ra.tupE
   cases b with
   |tup z=>
    obtain⟨p,vs,e,hS,r⟩:=rb.tupE
    cases e
    obtain rfl:=I.tuple_inj hS hS'
    have he':eqWs i z=some k:=by unfold ky at he;exact he
    have dn:depWs i<=n:=by unfold W.dep at hn;omega
    have key:∀(i z:List W) (vs:List V) (k:Bool),depWs i<=n->RelWs X.K μ H i vs->RelWs X.K μ H z vs->eqWs i z=some k->k=true:=by
     intro i
     induction i with
     |nil=>
      intro z vs k _ r' r he
      have e1:=r'.nilE
      subst e1
      cases z with
      |nil=>unfold eqWs at he;cases he;rfl
      |cons _ _=>have e2:=r.len;simp at e2
     |cons w i ih2=>
      intro z vs k dn r' r he
      obtain⟨x,xs,rfl,rx,rxs⟩:=r'.consE
      cases z with
      |nil=>have e2:=r.len;simp at e2
      |cons y z=>
       obtain⟨x2,xs2,e3,ry,rys⟩:=r.consE
       cases e3
       unfold eqWs at he
       cases e1:ky w y with
       |none=>rw[e1]at he;simp at he
       |some k1=>
        cases e2:eqWs i z with
        |none=>rw[e1,e2]at he;simp at he
        |some k2=>
         rw[e1,e2]at he
         simp at he
         unfold depWs at dn
         have q1:=ih w y x k1 #[0] rx ry e1
         have q2:=ih2 z xs k2 #[0] rxs rys e2
         rw[<- he,q1,q2];rfl
    exact key i z _ k dn r' r he'
   |non=>cases rb.nonE
   |bl z=>cases rb.blE
   |int z=>cases rb.intE
   |str z=>cases rb.strE
   |loc z=>unfold ky at he;cases he
  |_=>exact Du (ay _) ra rb he
theorem sN:∀{ws:List W} {j:Nat} (h:j<ws.length),ws[j].dep<=depWs ws
 |w::ws,0,_=>by unfold depWs;exact Nat.le_max_left _ _
 |w::ws,j+1,h=>by unfold depWs;exact aH (sN (j:=j) (jm h)) (Nat.le_max_right _ _)
inductive Sh(s:Shared):W->Value->Prop
 |non:Sh s .non .none
 |bl (b:Bool):Sh s (.bl b) (.bool b)
 |int (i:Int) (t:Tok):Sh s (.int i) (.int i t)
 |str (l:List Nat) (t:Tok):Sh s (.str l) (.str (tx l) t)
 |tup (ws:List W) (p:Addr) (bT:List Value) (h:IsTup s.heap p bT.toArray):Sh s (.tup ws) (.ref p)
 |loc (n:Nat) (u:Value):Sh s (.loc n) u
section
theorem tP(I:bM X ai σ H s){a:W}{x:V}(ra:bK X.K μ H a x)(ru:cW s.toks x u):Sh s a u:=by
 cases a with
 |non=>cases ra.nonE;cases ru;exact .non
 |bl i=>cases ra.blE;cases ru;exact .bl _
 |int i=>cases ra.intE;obtain⟨t,rfl⟩:=ru;exact .int _ _
 |str i=>cases ra.strE;obtain⟨t,rfl⟩:=ru;exact .str _ _
 |tup i=>obtain⟨p,vs,rfl,hS,_⟩:=ra.tupE;cases ru;obtain⟨bT,_,ht,_⟩:=I.tuple hS;exact .tup _ _ _ ht
 |loc i=>exact .loc _ _
open SeqAt.EqAt in
theorem Dv{a b:W}{k:Bool}(ha:Sh s a u)(hb:Sh s b v)(hu:A.units<cLine)(ht:b.dep=0\/a.dep=0)(he:ky a b=some k):SeqAt.EqAt A s u v k:=by
 cases ha<;>cases hb<;>first
  |(unfold ky at he;cases he;done)
  |(unfold ky at he;cases he;with_reducible first|exact same _|exact bool_none _|exact bool_bool _ _|exact bool_int _ _ _|exact bool_str _ _ _|exact int_none _ _|exact int_bool _ _ _|exact int_int _ _ _ _|exact int_str _ _ _ _|exact str_none _ _|exact str_bool _ _ _|exact str_int _ _ _ _|exact none_bool _|exact none_int _ _|exact none_str _ _)
  |(unfold ky at he;cases he;(with_reducible first|refine' bool_tuple _ ?_ hu|refine' int_tuple _ _ ?_ hu|refine' str_tuple _ _ ?_ hu|refine' tuple_none ?_ hu|refine' tuple_bool _ ?_ hu|refine' tuple_int _ _ ?_ hu|refine' tuple_str _ _ ?_ hu|refine' none_tuple ?_ hu);rotate_left;assumption)
  |(unfold W.dep at ht;omega)
  |skip
 rename_i i t z r
 unfold ky at he;cases he
 have:=str_str (A:=A) (s:=s) (tx i) t (tx z) r
 rw[<- qA]at this
 exact this
open SeqAt.RcAt in
theorem K7{a b:W}{k:Bool}(ha:Sh s a u)(hb:Sh s b v)(hu:A.units<cLine)(ht:b.dep=0\/a.dep=0)(he:ky a b=some k):SeqAt.RcAt A s u v k:=by
 cases ha<;>cases hb<;>first
  |(unfold ky at he;cases he;done)
  |(unfold ky at he;cases he;with_reducible first|exact none_none|exact bool_none _|exact bool_bool _ _|exact bool_int _ _ _|exact bool_str _ _ _|exact int_none _ _|exact int_bool _ _ _|exact int_int _ _ _ _|exact int_str _ _ _ _|exact str_none _ _|exact str_bool _ _ _|exact str_int _ _ _ _|exact none_bool _|exact none_int _ _|exact none_str _ _)
  |(unfold ky at he;cases he;(with_reducible first|refine' bool_tuple _ ?_ hu|refine' int_tuple _ _ ?_ hu|refine' str_tuple _ _ ?_ hu|refine' tuple_none ?_ hu|refine' tuple_bool _ ?_ hu|refine' tuple_int _ _ ?_ hu|refine' tuple_str _ _ ?_ hu|refine' none_tuple ?_ hu);rotate_left;assumption)
  |(unfold W.dep at ht;omega)
  |skip
 rename_i i t z r
 unfold ky at he;cases he
 have:=str_str (A:=A) (s:=s) (tx i) t (tx z) r
 rw[<- qA]at this
 exact this
open SeqAt.RcNeAt in
theorem EZ         {a b:W}  {k:Bool} (ha : Sh s a u) (hb : Sh s b v) (hu : A.units < cLine) (ht : b.dep = 0 \/ a.dep = 0) (he : ky  a b = some k) : SeqAt.RcNeAt A s u v (!k) := by
  cases ha <;> cases hb <;> first
    | (unfold ky  at he; cases he; done)
    | (unfold ky  at he; cases he; try simp only [qB           , Bool.not_false]
       with_reducible first | exact none_none | exact bool_none _ | exact bool_bool _ _ | exact bool_int _ _ _ | exact bool_str _ _ _ | exact int_none _ _ | exact int_bool _ _ _ | exact int_int _ _ _ _ | exact int_str _ _ _ _ | exact str_none _ _ | exact str_bool _ _ _ | exact str_int _ _ _ _ | exact none_bool _ | exact none_int _ _ | exact none_str _ _)
    | (unfold ky  at he; cases he; try simp only [qB           , Bool.not_false]
       (with_reducible first | refine' bool_tuple _ ?_ hu | refine' int_tuple _ _ ?_ hu | refine' str_tuple _ _ ?_ hu | refine' tuple_none ?_ hu | refine' tuple_bool _ ?_ hu | refine' tuple_int _ _ ?_ hu | refine' tuple_str _ _ ?_ hu | refine' none_tuple ?_ hu); rotate_left; assumption)
    | (unfold W.dep at ht; omega)
    | skip
  rename_i i t z r
  unfold ky  at he; cases he
  have := str_str (A := A) (s := s) (tx i) t (tx z) r
  rw [<- qA           ] at this
  exact this
theorem zG{i z:List W}{Kc:List V}{its':List Value}{e:Nat->Bool}{A:Around}(ih:∀(a b:W) (A:Around) (x y:V) (u v:Value) (k:Bool),a.dep<=m->bK X.K μ H a x->bK X.K μ H b y->cW nk x u->cW nk y v->A.units+m<cLine->ky a b=some k->SeqAt.EqAt A s u v k)
  (r':RelWs X.K μ H i Kc) (r:RelWs X.K μ H z vs) (w':cR nk Kc its') (w:cR nk vs bT) (hd:depWs i<=m) (hu:A.units+1+m<cLine) (h1:∀j (h1:j<i.length) (h2:j<z.length),ky i[j] z[j]=some (e j)):∀j (j1:j<its'.toArray.size) (j2:j<bT.toArray.size),SeqAt.EqAt A.in1 s its'.toArray[j] bT.toArray[j] (e j):=fun j j1 j2=>by
 have j1':j<i.length:=by rw[r'.len,w'.length];simpa using j1
 have j2':j<z.length:=by rw[r.len,w.length];simpa using j2
 obtain⟨x1,g1,q1⟩:=r'.get (aq j1')
 obtain⟨x2,g2,q2⟩:=r.get (aq j2')
 obtain⟨u1,f1,v1⟩:=w'.get g1
 obtain⟨u2,f2,v2⟩:=w.get g2
 have E:=ih i[j] z[j] A.in1 x1 x2 u1 u2 (e j) (aH (sN j1') hd) q1 q2 v1 v2 hu (h1 j j1' j2')
 have t1:its'.toArray[j]=u1:=by simpa using (aj.mp f1).2
 have t2:bT.toArray[j]=u2:=by simpa using (aj.mp f2).2
 rw[t1,t2];exact E
theorem GH(I:bM X ai σ H s):∀(n:Nat) (a b:W) (A:Around) (x y:V) (u v:Value) (k:Bool),a.dep<=n->bK X.K μ H a x->bK X.K μ H b y->cW s.toks x u->cW s.toks y v->A.units+n<cLine->ky a b=some k->SeqAt.EqAt A s u v k:=by
 intro n
 induction n with
 |zero=>exact fun a b A x y u v k hn ra rb ru rv hu he=>Dv (tP I ra ru) (tP I rb rv) hu (.inr (by omega)) he
 |succ m ih=>
  intro a b A x y u v k hn ra rb ru rv hu he
  by_cases hb:b.dep=0\/a.dep=0
  ·exact Dv (tP I ra ru) (tP I rb rv) #[0] hb he
  ·cases b with
   |tup z=>
    cases a with
    |tup i=>
     obtain⟨p',Kc,rfl,hS',r'⟩:=id ra.tupE;cases ru;obtain⟨its',w',ht',_⟩:=I.tuple hS'
     obtain⟨p,vs,rfl,hS,r⟩:=id rb.tupE;cases rv;obtain⟨bT,w,ht,_⟩:=I.tuple hS
     by_cases hpp:p'=p
     ·subst hpp
      rw[GG I (m+1) (.tup i) (.tup z) (.ref p') k hn ra rb he]
      exact SeqAt.EqAt.same _
     ·obtain⟨e,h1,h2⟩:=qH i z k (by unfold ky at he;exact he)
      have R:=SeqAt.RcAt.tuples (A:=A) (e:=e) ht' ht #[0] (zG ih r' r w' w (by unfold W.dep at hn;omega) #[0] h1)
      rw[show its'.toArray.size=i.length by simp[<- w'.length,<- r'.len],show bT.toArray.size=z.length by simp[<- w.length,<- r.len],h2]at R
      exact SeqAt.EqAt.of_refs hpp R
    |_=>exact(hb (.inr rfl)).elim
   |_=>exact(hb (.inl rfl)).elim
theorem GI(I:bM X ai σ H s){a b:W}{x y:V}{k:Bool}(hn:b.dep=0\/a.dep<=n)(ra:bK X.K μ H a x)(rb:bK X.K μ H b y)(ru:cW s.toks x u)(rv:cW s.toks y v)(hu:A.units+n<cLine)(he:ky a b=some k):SeqAt.RcAt A s u v k/\SeqAt.RcNeAt A s u v (!k):=by
 by_cases hb:b.dep=0\/a.dep=0
 ·exact⟨K7 (tP I ra ru) (tP I rb rv) #[0] hb he,EZ (tP I ra ru) (tP I rb rv) #[0] hb he⟩
 cases b with
 |tup z=>
  cases a with
  |tup i=>
   obtain⟨p',Kc,rfl,hS',r'⟩:=ra.tupE;cases ru;obtain⟨its',w',ht',_⟩:=I.tuple hS'
   obtain⟨p,vs,rfl,hS,r⟩:=rb.tupE;cases rv;obtain⟨bT,w,ht,_⟩:=I.tuple hS
   obtain⟨e,h1,h2⟩:=qH i z k (by unfold ky at he;exact he)
   have hd:depWs i+1<=n:=hn.elim (fun z=>(hb (.inl z)).elim) id
   obtain⟨m,rfl⟩:∃m,n=m+1:=⟨n-1,by omega⟩
   have T:=zG (A:=A) (GH I m) r' r w' w #[0] #[0] h1
   have R:=SeqAt.RcAt.tuples (A:=A) (e:=e) ht' ht #[0] T
   have R2:=SeqAt.RcNeAt.tuples (A:=A) (e:=e) ht' ht #[0] T
   rw[show its'.toArray.size=i.length by simp[<- w'.length,<- r'.len],show bT.toArray.size=z.length by simp[<- w.length,<- r.len],h2]at R R2
   exact⟨R,R2⟩
  |_=>exact(hb (.inr rfl)).elim
 |_=>exact(hb (.inl rfl)).elim
end
def fQ:W->W->List al->R W:=fun x y st=>match ky x y with
 |some k=>if y.dep=0\/x.dep<=64 then .ok (.bl k) st else .bad
 |none=>.bad
theorem eV{k:Nat}(hr:jr k X.A):rJ X (compareOp .Eq) fQ:=⟨fun ai s σ H x y v u Q I rv ru zq=>by
 obtain⟨μ,st,wx,wy,S,rx,ry,q⟩:=zq
 unfold fQ at q
 cases e:ky wx wy with
 |none=>rw[e]at q;exact q.elim
 |some b=>
  rw[e]at q
  simp only at q
  by_cases c:wy.dep=0\/wx.dep<=64
  ·rw[aC c]at q
   have:=hr.units
   exact(GI I c rx ry rv ru this e).1 X.prog X.w X.xe _ ⟨.bl b,H,I,rfl,jB S q⟩
  ·rw[aJ c]at q;exact q.elim,fun x y st=>by
 unfold fQ
 split
 ·split<;>trivial
 ·trivial⟩
def B8:W->W->List al->R W:=fun x y st=>match ky x y with
 |some k=>if y.dep=0\/x.dep<=64 then .ok (.bl (!k)) st else .bad
 |none=>.bad
theorem GJ{k:Nat}(hr:jr k X.A):rJ X (compareOp .NotEq) B8:=⟨fun ai s σ H x y v u Q I rv ru zq=>by
 obtain⟨μ,st,wx,wy,S,rx,ry,q⟩:=zq
 unfold B8 at q
 cases e:ky wx wy with
 |none=>rw[e]at q;exact q.elim
 |some b=>
  rw[e]at q
  simp only at q
  by_cases c:wy.dep=0\/wx.dep<=64
  ·rw[aC c]at q
   have:=hr.units
   exact(GI I c rx ry rv ru this e).2 X.prog X.w X.xe _ ⟨.bl (!b),H,I,rfl,jB S q⟩
  ·rw[aJ c]at q;exact q.elim,fun x y st=>by
 unfold B8
 split
 ·split<;>trivial
 ·trivial⟩
def uf(x:W):List W->Option Bool
 |[]=>some false
 |y::ys=>match ky y x,uf x ys with
  |some a,some b=>some (a||b)
  |_,_=>none
def mR(neg:Bool)(x y:W)(st:List al):R W:=match y with
 |.str l=>(match x with
  |.str [c]=>.ok (.bl (if neg then !decide (c∈l)else decide (c∈l))) st
  |_=>.bad)
 |.tup ys=>(match uf x ys with
  |some k=>if depWs ys<=63 then .ok (.bl (if neg then !k else k)) st else .bad
  |none=>.bad)
 |.loc n=>(match st[n]? with
  |some (.lst ys)=>(match uf x ys with
   |some k=>if depWs ys<=63 then .ok (.bl (if neg then !k else k)) st else .bad
   |none=>.bad)
  |_=>.bad)
 |_=>.bad
theorem zH{x:W}:∀{ys:List W} {k:Bool},uf x ys=some k->(∀(j:Nat) w,ys[j]?=some w->∃b,ky w x=some b)/\(k=true↔∃(j:Nat) (w:W),ys[j]?=some w/\ky w x=some true)
 |[],k,h=>by
  unfold uf at h;cases h
  exact⟨fun j w e=>by simp at e,fun z=>(by cases z),fun⟨j,w,e,_⟩=>(by simp at e)⟩
 |y::ys,k,h=>by
  unfold uf at h
  cases e1:ky y x with
  |none=>rw[e1]at h;simp at h
  |some a=>
   cases e2:uf x ys with
   |none=>rw[e1,e2]at h;simp at h
   |some b=>
    rw[e1,e2]at h
    simp at h
    obtain⟨q1,q2⟩:=zH e2
    refine⟨fun j w e=>?_,fun z=>?_,fun⟨j,w,e,f⟩=>?_⟩
    ·cases j with
     |zero=>simp at e;subst e;exact⟨a,e1⟩
     |succ j=>exact q1 j w (by simpa using e)
    ·rw[<- h]at z
     cases a with
     |true=>exact⟨0,y,rfl,e1⟩
     |false=>
      obtain⟨j,w,p,q⟩:=q2.mp (by simpa using z)
      exact⟨j+1,w,by simpa using p,q⟩
    ·rw[<- h]
     cases j with
     |zero=>simp at e;subst e;rw[e1]at f;cases f;rfl
     |succ j=>rw[q2.mpr ⟨j,w,by simpa using e,f⟩];simp
theorem m3(I:bM X ai σ H s){wx:W}{x:V}(rx:bK X.K μ H wx x)(rv:cW s.toks x v)(n:Nat){A:Around}(hu:A.units+n<cLine)
  {ys:List W} {vs:List V} {us:List Value} {k:Bool} (hd:depWs ys<=n) (rs:RelWs X.K μ H ys vs) (tt:cR s.toks vs us) (ha:uf wx ys=some k):∃e:Value->Bool,(∀u,u∈us.toArray->SeqAt.EqAt A s u v (e u))/\us.toArray.any e=k:=by
 classical
 obtain⟨q1,q2⟩:=zH ha
 have at':∀(j:Nat) (u:Value),us[j]?=some u->∃w b,ys[j]?=some w/\ky w wx=some b/\SeqAt.EqAt A s u v b:=fun j u e=>by
  have hj:j<ys.length:=by
   have h1:=(aj.mp e).1
   rw[rs.len,tt.length];exact h1
  obtain⟨b,hb⟩:=q1 j ys[j] (aq hj)
  obtain⟨y,g1,r1⟩:=rs.get (aq hj)
  obtain⟨u',f1,v1⟩:=tt.get g1
  rw[e]at f1;cases f1
  exact⟨_,b,aq hj,hb,GH I n ys[j] wx A y x u v b (aH (sN hj) hd) r1 rx v1 rv hu hb⟩
 refine⟨fun u=>decide (∃(j:Nat) (w:W),us[j]?=some u/\ys[j]?=some w/\ky w wx=some true),fun u hu=>?_,?_⟩
 ·by_cases c:∃(j:Nat) (w:W),us[j]?=some u/\ys[j]?=some w/\ky w wx=some true
  ·show SeqAt.EqAt A s u v (decide _)
   rw[aN c]
   obtain⟨j,w,e1,e2,e3⟩:=c
   obtain⟨w',b,f1,f2,f3⟩:=at' j u e1
   rw[e2]at f1;cases f1
   rw[e3]at f2;cases f2
   exact f3
  ·show SeqAt.EqAt A s u v (decide _)
   rw[aI c]
   obtain⟨j,hj,e⟩:=List.mem_iff_getElem.mp (show u∈us by simpa using hu)
   have e':us[j]?=some u:=by rw[aq hj,e]
   obtain⟨w',b,f1,f2,f3⟩:=at' j u e'
   cases b with
   |false=>exact f3
   |true=>exact absurd ⟨j,w',e',f1,f2⟩ c
 ·rw[List.any_toArray]
  cases k with
  |true=>
   obtain⟨j,w,e1,e2⟩:=q2.mp rfl
   have hj:j<us.length:=by rw[<- tt.length,<- rs.len];exact(aj.mp e1).1
   exact io.mpr ⟨us[j],dw hj,aN ⟨j,w,aq hj,e1,e2⟩⟩
  |false=>
   refine lV.mpr fun u _ c=>?_
   obtain⟨j,w,_,e1,e2⟩:=hZ c
   have:=q2.mpr ⟨j,w,e1,e2⟩
   cases this
theorem sO{k:Nat}(hr:jr k X.A):rJ X (compareOp .In) (mR false):=⟨fun ai s σ H x y v u Q I rv ru zq=>by
 obtain⟨μ,st,wx,wy,S,rx,ry,q⟩:=zq
 have hu:=hr.units
 cases wy with
 |str l=>
  simp only[mR]at q
  split at q
  ·exact EM ai s σ H x y v u Q I rv ru ⟨_,_,rx.strE,ry.strE,jB S q⟩
  ·exact q.elim
 |tup ys=>
  simp only[mR]at q
  cases hk:uf wx ys with
  |none=>rw[hk]at q;exact q.elim
  |some kk=>
   rw[hk]at q
   simp only at q
   by_cases c:depWs ys<=63
   ·rw[aC c]at q
    obtain⟨p,vs,rfl,hS,r⟩:=ry.tupE
    cases ru
    obtain⟨bT,w,ht,_⟩:=I.tuple hS
    obtain⟨e,he,ha⟩:=m3 (A:=X.A.in1) I rx rv 63 (by show X.A.units+1+63<cLine;omega) c r w hk
    exact SeqAt.in_tupleAt e ht he ⟨.bl _,H,I,rfl,by rw[ha];exact jB S q⟩
   ·rw[aJ c]at q;exact q.elim
 |loc n=>
  simp only[mR]at q
  cases e1:st[n]? with
  |none=>rw[e1]at q;exact q.elim
  |some cc=>
   rw[e1]at q
   cases cc with
   |lst ys=>
    simp only at q
    cases hk:uf wx ys with
    |none=>rw[hk]at q;exact q.elim
    |some kk=>
     rw[hk]at q
     simp only at q
     by_cases c:depWs ys<=63
     ·rw[aC c]at q
      obtain⟨a1,g1,vs,k1,r⟩:=S.get e1
      obtain⟨b1,f1,rfl⟩:=ry.locE
      rw[g1]at f1;cases f1
      cases ru
      obtain⟨bT,w,ht,_⟩:=I.list (sH.of k1)
      obtain⟨e,he,ha⟩:=m3 (A:=X.A.in1) I rx rv 63 (by show X.A.units+1+63<cLine;omega) c r w hk
      exact SeqAt.in_listAt e ht.isList he ⟨.bl _,H,I,rfl,by rw[ha];exact jB S q⟩
     ·rw[aJ c]at q;exact q.elim
   |_=>exact q.elim
 |_=>exact q.elim,fun x y st=>by
 unfold mR
 repeat' split
 all_goals trivial⟩
theorem Mr{k:Nat}(hr:jr k X.A):rJ X (compareOp .NotIn) (mR true):=⟨fun ai s σ H x y v u Q I rv ru zq=>by
 obtain⟨μ,st,wx,wy,S,rx,ry,q⟩:=zq
 have hu:=hr.units
 cases wy with
 |str l=>
  simp only[mR]at q
  split at q
  ·exact xY ai s σ H x y v u Q I rv ru ⟨_,_,rx.strE,ry.strE,jB S q⟩
  ·exact q.elim
 |tup ys=>
  simp only[mR]at q
  cases hk:uf wx ys with
  |none=>rw[hk]at q;exact q.elim
  |some kk=>
   rw[hk]at q
   simp only at q
   by_cases c:depWs ys<=63
   ·rw[aC c]at q
    obtain⟨p,vs,rfl,hS,r⟩:=ry.tupE
    cases ru
    obtain⟨bT,w,ht,_⟩:=I.tuple hS
    obtain⟨e,he,ha⟩:=m3 (A:=X.A.in1) I rx rv 63 (by show X.A.units+1+63<cLine;omega) c r w hk
    exact SeqAt.notIn_tupleAt e ht he ⟨.bl _,H,I,rfl,by rw[ha];exact jB S q⟩
   ·rw[aJ c]at q;exact q.elim
 |loc n=>
  simp only[mR]at q
  cases e1:st[n]? with
  |none=>rw[e1]at q;exact q.elim
  |some cc=>
   rw[e1]at q
   cases cc with
   |lst ys=>
    simp only at q
    cases hk:uf wx ys with
    |none=>rw[hk]at q;exact q.elim
    |some kk=>
     rw[hk]at q
     simp only at q
     by_cases c:depWs ys<=63
     ·rw[aC c]at q
      obtain⟨a1,g1,vs,k1,r⟩:=S.get e1
      obtain⟨b1,f1,rfl⟩:=ry.locE
      rw[g1]at f1;cases f1
      cases ru
      obtain⟨bT,w,ht,_⟩:=I.list (sH.of k1)
      obtain⟨e,he,ha⟩:=m3 (A:=X.A.in1) I rx rv 63 (by show X.A.units+1+63<cLine;omega) c r w hk
      exact SeqAt.notIn_listAt e ht.isList he ⟨.bl _,H,I,rfl,by rw[ha];exact jB S q⟩
     ·rw[aJ c]at q;exact q.elim
   |_=>exact q.elim
 |_=>exact q.elim,fun x y st=>by
 unfold mR
 repeat' split
 all_goals trivial⟩
end L2
namespace L2
open PySem PySem.Spec PyProof.Rows
section
variable{w:World}
theorem zI{t sl:Addr}{items:Array Value}{vl vu:Value}{lo hi:Option Int}(ht:IsTup s.heap t items)(hs:s.heap.IsSliceOf sl vl vu .none)(pl:IsPart vl lo)(pu:IsPart vu hi)
  (hw:HT.sIx items.size 0 lo=0/\HT.sIx items.size items.size hi=items.size) (h:Q (.ref t) s):wpAny #[9] A (getItem (.ref t) (.ref sl)) Q E s:=by
 obtain⟨os,hos,hcs,hds⟩:=id hs
 have hTs:s.TypeIs (.ref sl) "slice":=⟨os,hos,hcs⟩
 unfold getItem
 try with_reducible refine dm ?_
 first|refine ag (aA ?_)|skip
 refine ag (wpAny_sequenceKey ht.typeIs #[1] ?_)
 refine ag (cJ (name:=Str.ofString "__getitem__") ht.typeIs eD
  (cN eD ht.typeIs entry_tuple_getitem ?_ (args_tuple_getitem _ _)))
 show wpAny _ _ (Builtin.Tuple.tupleItemsOf (.ref t) >>= _) _ _ s
 refine ag (tupleItemsOf_ ht ?_)
 refine ag (gR hTs ?_)
 rw[aC #[1]]
 refine ag (HT.sliceApplied_gen hs pl pu ?_)
 have hyes:(((HT.sIx items.size 0 lo:Nat):Int)==0&&(1:Int)==1&&(HT.sIx items.size items.size hi-HT.sIx items.size 0 lo)==items.size)=true:=by
  rw[hw.1,hw.2];simp
 show wpAny _ _ (if (((HT.sIx items.size 0 lo:Nat):Int)==0&&(1:Int)==1&&(HT.sIx items.size items.size hi-HT.sIx items.size 0 lo)==items.size)=true then _ else _) _ _ s
 rw[aC hyes]
 unfold Builtin.Tuple.tupleIsExact
 obtain⟨ot,hot,hct,nt,hdt⟩:=id ht
 refine ag (ag (gR (T:="tuple") ht.typeIs ?_))
 refine aA ?_
 rw[aC #[1]]
 exact ag (nB (aA ⟨_,rfl,aA h⟩))
end
section
variable{a b c:Expr}{fc:FE}{fs:FA}
def lstOf(st:List al)(n:Nat):Option (List W):=match st[n]? with
 |some (.lst ws)=>some ws
 |some (.ro ws)=>some ws
 |_=>none
theorem iW.lstOf(S:iW K mg μ st H)(h:lstOf st n=some ws):∃a vs,μ[n]?=some a/\sH K H a vs/\RelWs K μ H ws vs:=by
 unfold L2.lstOf at h
 cases e:st[n]? with
 |none=>rw[e]at h;cases h
 |some cc=>
  rw[e]at h
  cases cc with
  |lst zs=>cases h;obtain⟨a,g,vs,k,r⟩:=S.get e;exact⟨a,vs,g,sH.of k,r⟩
  |ro zs=>cases h;obtain⟨a,g,vs,k,r⟩:=S.get e;exact⟨a,vs,g,k.sq,r⟩
  |exc zs=>cases h
  |dct zs=>cases h
  |rod zs=>cases h
  |dcx zs=>cases h
  |rox zs=>cases h
  |obj _ _=>cases h
  |tab _ _ _=>cases h
  |pin _ _ _ _=>cases h
  |gone=>cases h
def ut(o:Option α)(k:α->R W):R W:=match o with
 |some a=>k a
 |none=>.bad
@[simp] theorem dY{α:Type}(a:α)(k:α->R W):ut (some a) k=k a:=rfl
def bH(x y:W)(st:List al):R W:=match x,y with
 |.tup ws,.int i=>ut (rl ws i) fun w=>.ok w st
 |.str l,.int i=>if l.length<=kN then ut (rl l i) (fun c=>.ok (.str [c]) st)else .bad
 |.loc n,.int i=>ut (lstOf st n) fun ws=>ut (rl ws i) fun w=>.ok w st
 |_,_=>.bad
theorem Dw{i:Int}{w:W}(r:RelWs K μ H ws vs)(h:rl ws i=some w):∃v,rl vs i=some v/\bK K μ H w v:=by
 unfold rl at h ⊢
 rw[<- r.len]
 cases e:By ws.length i with
 |none=>rw[e]at h;cases h
 |some k=>rw[e]at h;exact r.get h
theorem U':J9 X (Sd X bH):=fun value slice ai s σ H x y v u Q I rv ru zq hs=>by
 obtain⟨μ,st,wx,wy,S,rx,ry,q⟩:=zq
 refine Oe value slice ai s σ H x y v u Q I rv ru ?_ hs
 cases wy with
 |int i=>
  cases wx with
  |tup ws=>
   simp only[bH]at q
   cases e1:rl ws i with
   |none=>rw[e1]at q;exact q.elim
   |some w=>
    rw[e1]at q
    obtain⟨p,vs,rfl,hS,r⟩:=rx.tupE
    obtain⟨z,f,g⟩:=Dw r e1
    exact .inr (.inl ⟨p,vs,i,z,rfl,ry.intE,hS,f,q μ z H (au _) fw.refl S g⟩)
  |str l=>
   simp only[bH]at q
   by_cases c:l.length<=kN
   ·rw[aC c]at q
    cases e1:rl l i with
    |none=>rw[e1]at q;exact q.elim
    |some w=>
     rw[e1]at q
     exact .inr (.inr ⟨_,i,w,rx.strE,ry.intE,by rw[iV];exact oB c,by rw[Om];exact e1,rM S q⟩)
   ·rw[aJ c]at q;exact q.elim
  |loc n=>
   simp only[bH]at q
   cases e0:lstOf st n with
   |none=>rw[e0]at q;exact q.elim
   |some ws=>
    rw[e0]at q
    cases e1:rl ws i with
    |none=>rw[dY,e1]at q;exact q.elim
    |some w=>
     rw[dY,e1]at q
     obtain⟨a,vs,g,hS,r⟩:=S.lstOf e0
     obtain⟨b1,f1,rfl⟩:=rx.locE
     rw[g]at f1;cases f1
     obtain⟨z,f,g⟩:=Dw r e1
     exact .inl ⟨_,vs,i,z,rfl,ry.intE,hS,f,q μ z H (au _) fw.refl S g⟩
  |_=>exact q.elim
 |_=>cases wx<;>exact q.elim
theorem qg{o:Option α}{k:α->R W}(h:∀a,rH (k a)):rH (ut o k):=by
 unfold ut
 split
 ·exact h _
 ·trivial
theorem Sk(x y:W)(st:List al):rH (bH x y st):=by
 unfold bH
 split
 ·exact qg fun _=>trivial
 ·split
  ·exact qg fun _=>trivial
  ·trivial
 ·exact qg fun _=>qg fun _=>trivial
 ·trivial
theorem bw(ha:SE X a fa)(hb:SE X b fb)(hs:Dg b:=by intro _ _;rfl):SE X (.Subscript a b pos) (e2 bH fa fb):=⟨(RJ U' ha.h hb.h hs).imp fun _ _ _ h=>Dt Sk h⟩
abbrev FO:=cv->List al->R (Option Int)
abbrev Va:List Addr->Hp->Option Int->Option Int->Prop:=fun _ _ a b=>a=b
structure SO(X:Cx)(e:Option Expr)(f:FO):Prop where
 h:PO X e (tG X Va f)
def oG:FO:=fun _ st=>.ok none st
def nK(fa:FE):FO:=fun ρ st=>(fa ρ st).bind fun x st=>match x with
 |.int i=>.ok (some i) st
 |_=>.bad
theorem PO.imp{e:Option Expr}{t t':TO}(h:PO X e t)(i:∀σ H Q,t' σ H Q->t σ H Q):PO X e t':=fun ai s σ H Q I q=>h ai s σ H Q I (i _ _ _ q)
theorem m5:SO X none oG:=⟨KB.imp fun σ H Q h=>by
 walk_at "2"
 exact h μ none H (au _) fw.refl l.sto rfl⟩
theorem m6(ha:SE X a fa):SO X (some a) (nK fa):=⟨(KC ha.h).imp fun σ H Q h=>by
 walk_at "2"
 walk_at "1"
 cases x with
 |int k=>exact⟨k,q1.intE,h1 μ1 _ H1 (au _) fw.refl l1.sto rfl⟩
 |_=>exact h1.elim⟩
def p7(xs:List α)(lo hi:Option Int):List α:=(xs.drop (HT.sIx xs.length 0 lo)).take (HT.sIx xs.length xs.length hi-HT.sIx xs.length 0 lo)
def E0(x:W)(lo hi:Option Int)(st:List al):R W:=match x with
 |.tup ws=>.ok (.tup (p7 ws lo hi)) st
 |.str l=>if l.length<=kN then .ok (.str (p7 l lo hi)) st else .bad
 |.loc n=>ut (lstOf st n) fun ws=>.ok (.loc st.length) (st++[.lst (p7 ws lo hi)])
 |_=>.bad
theorem Sl(x:W)(lo hi:Option Int)(st:List al):rH (E0 x lo hi st):=by
 unfold E0 ut
 repeat' split
 all_goals trivial
def Fz(fa:FE)(fl fh:FO):FE:=fun ρ st=>(fa ρ st).bind fun x st=>(fl ρ st).bind fun l st=>(fh ρ st).bind fun h st=>E0 x l h st
theorem Vb:RH X (fun x lo hi H Q=>∃μ st wx,iW X.K X.mg μ st H/\bK X.K μ H wx x/\Fy X μ H Q (E0 wx lo hi st)):=by
 intro ai s σ H x v vl vu lo hi sl Q I rv hs pl pu ⟨μ,st,wx,S,rx,q⟩
 cases wx with
 |tup ws=>
  obtain⟨p,vs,rfl,hS,r⟩:=rx.tupE
  have hl:=r.len
  by_cases hw:HT.sIx vs.length 0 lo=0/\HT.sIx vs.length vs.length hi=vs.length
  ·cases rv
   obtain⟨bT,w,ht,hz⟩:=I.tuple hS
   have dU:bT.toArray.size=vs.length:=by rw[aZ];exact w.length.symm
   refine⟨"tuple",_,eD.lookup,ht.typeIs,zI ht hs pl pu (by rw[dU];exact hw) ⟨.ref p,H,I,rfl,?_⟩⟩
   have e:p7 ws lo hi=ws:=by
    unfold p7
    rw[hl,hw.1,hw.2,List.drop_zero,Nat.sub_zero,<- hl,eN]
   have q':Fy X μ H Q (.ok (.tup (p7 ws lo hi)) st):=q
   rw[e]at q'
   exact q' μ _ H (au _) fw.refl S rx
  ·refine Ob ai s σ H _ v vl vu lo hi sl Q I rv hs pl pu ⟨p,vs,rfl,hS,hw,fun p2 Qq=>?_⟩
   have x:=ic.same (K:=X.K) (cY Qq (.tup (uQ vs lo hi)))
   have rc:RelWs X.K μ H (p7 ws lo hi) (uQ vs lo hi):=by
    unfold p7 uQ
    rw[hl]
    exact(r.drop _).take _
   exact q μ _ _ (au _) x (S.same (cY Qq _)) (.tupI ic.new (rc.mono (au _) x))
 |str l=>
  simp only[E0]at q
  by_cases c:l.length<=kN
  ·rw[aC c]at q
   exact Op ai s σ H _ v vl vu lo hi sl Q I rv hs pl pu ⟨l,rx.strE,oB c,rM S q⟩
  ·rw[aJ c]at q;exact q.elim
 |loc n=>
  simp only[E0]at q
  cases e0:lstOf st n with
  |none=>rw[e0]at q;exact q.elim
  |some ws=>
   rw[e0]at q
   obtain⟨a,vs,g,hS,r⟩:=S.lstOf e0
   obtain⟨b1,f1,rfl⟩:=rx.locE
   rw[g]at f1;cases f1
   have hl:=r.len
   refine KG ai s σ H _ v vl vu lo hi sl Q I rv hs pl pu ⟨_,vs,rfl,hS,fun p2 Qq=>?_⟩
   have rc:RelWs X.K μ H (p7 ws lo hi) (uQ vs lo hi):=by
    unfold p7 uQ
    rw[hl]
    exact(r.drop _).take _
   exact q (μ++[p2]) _ _ (bR _ _) (ic.same (cY Qq _)) (S.newLst Qq rc) (mZ S)
 |_=>exact q.elim
theorem B9{lo hi:Option Expr}{fl fh:FO}(ha:SE X a fa)(hl:SO X lo fl)(hh:SO X hi fh):SE X (.Subscript a (.Slice lo hi none p2) pos) (Fz fa fl fh):=⟨(F3 Vb ha.h hl.h hh.h).imp fun σ H Q h=>by
 walk_at "2"
 refine⟨μ,ρ,st,l,RK.bind h l fun μ1 st1 x v H1 p1 x1 l1 q1 h1=>⟨μ1,ρ,st1,l1,RK.bind h1 l1 fun μ2 cT y u H2 p2 x2 l2 q2 h2=>⟨μ2,ρ,cT,l2,RK.bind h2 l2 fun μ3 j_ z t H3 p3 x3 l3 q3 h3=>?_⟩⟩⟩
 cases q2;cases q3
 exact⟨μ3,j_,x,l3.sto,(q1.mono p2 x2).mono p3 x3,oD h3 (Sl _ _ _ _)⟩⟩
def VS(X:Cx)(F:List W->List al->R W):List V->Hp->VK->Prop:=fun vs H Q=>∃μ st ws,iW X.K X.mg μ st H/\RelWs X.K μ H ws vs/\Fy X μ H Q (F ws st)
structure rN(X:Cx)(f:Value)(F:List W->List al->R W):Prop where
 h:ja X f (VS X F)
 n:∀ws st,rH (F ws st)
def cr(F:List W->List al->R W)(fs:FA):FE:=fun ρ st=>(fs ρ st).bind fun ws st=>F ws st
theorem Dx{Q:VK}(n:∀ws st,rH (F ws st))(h:tE X (cr F fs) σ H Q):UT (VS X F) (U9 X fs) σ H Q:=by
 walk_at "2"
 exact⟨μ,ρ,st,l,RK.bind h l fun μ1 st1 x v H1 p1 x1 l1 q1 h1=>⟨μ1,st1,x,l1.sto,q1,oD h1 (n _ _)⟩⟩
theorem cy{id:String}(hc:rN X (.builtin id) F)(hm:X.mg x=none)(hv:bootBuiltins x=some (.builtin id))(ha:SA X (e::es) fs)(hg:Gl X x:=by rfl)(hn:x ≠ "__name__":=by decide)(Mb:(x==("__debug__":Str))=false:=by decide)
  (he:starEach (e::es) X.env=(false,eval e X.env)::starEach es X.env:=by rfl) (j':(backTo pos (starEach es X.env)).any (·.1)=false:=by rfl):SE X (.Call (.Name x p) (e::es) [] pos) (cr F fs):=⟨(oz hc.h hg hm hv ha.h hn Mb he j').imp fun _ _ _ h=>Dx hc.n h⟩
theorem jV(hc:rN X (.type T) F)(hm:X.mg x=none)(hv:bootBuiltins x=some (.type T))(ha:SA X (e::es) fs)(hg:Gl X x:=by rfl)(hn:x ≠ "__name__":=by decide)(Mb:(x==("__debug__":Str))=false:=by decide)
  (he:starEach (e::es) X.env=(false,eval e X.env)::starEach es X.env:=by rfl) (j':(backTo pos (starEach es X.env)).any (·.1)=false:=by rfl):SE X (.Call (.Name x p) (e::es) [] pos) (cr F fs):=⟨(sJ hc.h hg hm hv ha.h hn Mb he j').imp fun _ _ _ h=>Dx hc.n h⟩
theorem RelWs.two{a b:W}(r:RelWs K μ H [a,b] vs):∃x y,vs=[x,y]/\bK K μ H a x/\bK K μ H b y:=by
 obtain⟨x,xs,rfl,rx,rn⟩:=r.consE
 obtain⟨y,ys,rfl,ry,rm⟩:=rn.consE
 rw[rm.nilE];exact⟨x,y,rfl,rx,ry⟩
theorem RelWs.one{a:W}(r:RelWs K μ H [a] vs):∃x,vs=[x]/\bK K μ H a x:=by
 obtain⟨x,xs,rfl,rx,rn⟩:=r.consE
 rw[rn.nilE];exact⟨x,rfl,rx⟩
def eW(ws:List W)(st:List al):R W:=match ws with
 |[.tup xs]=>.ok (.int xs.length) st
 |[.str l]=>if l.length<=kN then .ok (.int l.length) st else .bad
 |[.loc n]=>ut (lstOf st n) fun xs=>.ok (.int xs.length) st
 |_=>.bad
theorem fH:rN X (.builtin "len") eW:=⟨fun ai s σ H vs us Q I rv zq=>by
 obtain⟨μ,st,ws,S,r,q⟩:=zq
 unfold eW at q
 split at q
 ·obtain⟨x,rfl,rx⟩:=r.one
  obtain⟨p,ys,rfl,hS,r'⟩:=rx.tupE
  exact rq ai s σ H _ us Q I rv ⟨p,ys,rfl,.inr hS,by rw[<- r'.len];exact pL S q⟩
 ·obtain⟨x,rfl,rx⟩:=r.one
  split at q
  ·rename_i c
   exact xU ai s σ H _ us Q I rv ⟨_,by rw[rx.strE],by rw[iV];exact oB c,by rw[iV];exact pL S q⟩
  ·exact q.elim
 ·obtain⟨x,rfl,rx⟩:=r.one
  unfold ut at q
  split at q
  ·rename_i ys e0
   obtain⟨a,vs,g,hS,r'⟩:=S.lstOf e0
   obtain⟨b1,f1,rfl⟩:=rx.locE
   rw[g]at f1;cases f1
   exact rq ai s σ H _ us Q I rv ⟨_,vs,rfl,.inl hS,by rw[<- r'.len];exact pL S q⟩
  ·exact q.elim
 ·exact q.elim,fun ws st=>by
 unfold eW ut
 repeat' split
 all_goals trivial⟩
def E1(ws:List W)(st:List al):R W:=match ws with
 |[.int i,.int j]=>.ok (.int (if j>i then j else i)) st
 |_=>.bad
theorem Ms(hc:X.calm=true:=by rfl):rN X (.builtin "max") E1:=⟨fun ai s σ H vs us Q I rv zq=>by
 obtain⟨μ,st,ws,S,r,q⟩:=zq
 unfold E1 at q
 split at q
 ·obtain⟨x,y,rfl,rx,ry⟩:=r.two
  exact EE hc ai s σ H _ us Q I rv ⟨_,_,by rw[rx.intE,ry.intE],pL S q⟩
 ·exact q.elim,fun ws st=>by unfold E1;split<;>trivial⟩
def jC(ws:List W)(st:List al):R W:=match ws with
 |[.tup xs]=>.ok (.tup xs) st
 |[.loc n]=>ut (lstOf st n) fun xs=>.ok (.tup xs) st
 |_=>.bad
theorem m7:rN X (.type "tuple") jC:=⟨fun ai s σ H vs us Q I rv zq=>by
 obtain⟨μ,st,ws,S,r,q⟩:=zq
 unfold jC at q
 split at q
 ·obtain⟨x,rfl,rx⟩:=r.one
  obtain⟨p,ys,rfl,hS,r'⟩:=id rx.tupE
  exact zi ai s σ H _ us Q I rv ⟨p,ys,rfl,hS,q μ _ H (au _) fw.refl S rx⟩
 ·obtain⟨x,rfl,rx⟩:=r.one
  unfold ut at q
  split at q
  ·rename_i ys e0
   obtain⟨a,vs,g,hS,r'⟩:=S.lstOf e0
   obtain⟨b1,f1,rfl⟩:=rx.locE
   rw[g]at f1;cases f1
   refine zp ai s σ H _ us Q I rv ⟨_,vs,rfl,hS,fun l H2 hl e=>?_⟩
   subst e
   have x:=ic.same (K:=X.K) (cY hl (.tup vs))
   exact q μ _ _ (au _) x (S.same (cY hl _)) (.tupI ic.new (r'.mono (au _) x))
  ·exact q.elim
 ·exact q.elim,fun ws st=>by
 unfold jC ut
 repeat' split
 all_goals trivial⟩
end
section
variable{a b c:Expr}{fc:FE}{fs:FA}{ft:FT}{st1:Stmt}{sr sa sb:List Stmt}{g g':FS}
def aX(g g':FS):FS:=fun ρ st=>match g ρ st with
 |.nx ρ' bF=>g' ρ' bF
 |r=>r
def b_:FS:=fun ρ st=>.nx ρ st
theorem bN:SB X [] b_:=⟨Kk.imp fun D σ H h=>by
 walk_at "2"
 exact h μ σ H (au _) fw.refl l⟩
theorem aL(h1:SS X st1 g):SB X [st1] g:=⟨Kl h1.h⟩
theorem aB(h1:SS X st1 g)(h2:SB X sr g'):SB X (st1::sr) (aX g g'):=⟨(FQ h1.h h2.h).imp fun D σ H h=>by
 walk_at "2"
 refine⟨μ,ρ,st,l,?_⟩
 unfold aX at h
 cases e:g ρ st with
 |nx ρ' bF=>rw[e]at h;exact fun μ' σ' H' p x l'=>⟨μ',ρ',bF,l',SK.mono h p x⟩
 |rt w bF=>rw[e]at h;exact h
 |bk ρ' bF=>rw[e]at h;exact h
 |ct ρ' bF=>rw[e]at h;exact h
 |ex c ρ' bF=>rw[e]at h;exact h
 |bad=>rw[e]at h;exact h⟩
def R.stmt(r:R α)(ρ:cv)(k:α->List al->RS):RS:=match r with
 |.ok a st=>k a st
 |.ex c st=>.ex c ρ st
 |.bad=>.bad
@[simp] theorem R.stmt_ok{α:Type}(a:α)(st:List al)(ρ:cv)(k:α->List al->RS):(R.ok a st).stmt ρ k=k a st:=rfl
theorem RK.stmt{rel:List Addr->Hp->α->β->Prop}{D:ze}{r:R α}{k:α->List al->RS}{T:β->Hp->Prop}
  (h:SK X μ H D (r.stmt ρ k)) (l:Rl X μ ρ st σ H)
  (hk:∀μ' bF x v H',μ <+: μ'->fw X.K H H'->Rl X μ' ρ bF σ H'->rel μ' H' x v->SK X μ' H' D (k x bF)->T v H'):RK X rel μ σ H T r:=by
 cases r with
 |ok a bF=>exact fun μ' b H' p x s q=>hk μ' bF a b H' p x (l.to p x s) q (SK.mono h p x)
 |ex c bF=>exact XS.toE h l
 |bad=>exact h
def eO(fe:FE):FS:=fun ρ st=>(fe ρ st).stmt ρ fun _ st=>.nx ρ st
theorem eE(he:SE X e fe)(hs:swapsWith e none pos.line X.env=pure false:=by rfl):SS X (.Expr e pos) (eO fe):=⟨(Km he.h hs).imp fun D σ H h=>by
 walk_at "2"
 exact⟨μ,ρ,st,l,RK.stmt h l fun μ1 st1 x v H1 p1 x1 l1 q1 h1=>h1 μ1 σ H1 (au _) fw.refl l1⟩⟩
def cK(fe:FE):FS:=fun ρ st=>(fe ρ st).stmt ρ fun w st=>.rt w st
theorem bh(he:SE X e fe):SS X (.Return (some e) pos) (cK fe):=⟨(NS he.h).imp fun D σ H h=>by
 walk_at "2"
 exact⟨μ,ρ,st,l,RK.stmt h l fun μ1 st1 x v H1 p1 x1 l1 q1 h1=>h1 μ1 v H1 (au _) fw.refl l1.sto q1⟩⟩
def fD(t:FT)(g g':FS):FS:=fun ρ st=>(t ρ st).stmt ρ fun k st=>if k then g ρ st else g' ρ st
theorem bW(hc:ST X c ft)(ha:SB X sa g)(hb:SB X sb g'):SS X (.If c sa sb pos) (fD ft g g'):=⟨(Rp hc.h ha.h hb.h).imp fun D σ H h=>by
 walk_at "2"
 refine⟨μ,ρ,st,l,RK.stmt h l fun μ1 st1 x v H1 p1 x1 l1 q1 h1=>?_⟩
 cases q1
 cases x with
 |true=>exact⟨μ1,ρ,st1,l1,h1⟩
 |false=>exact⟨μ1,ρ,st1,l1,h1⟩⟩
abbrev FG:=W->cv->Option cv
abbrev Mt:=List W->cv->Option cv
def Ur(X:Cx)(f:FG):TG:=fun v σ H Q=>∃μ ρ st w ρ',Rl X μ ρ st σ H/\bK X.K μ H w v/\f w ρ=some ρ'/\∀σ',Rl X μ ρ' st σ' H->Q σ' H
def Vc(X:Cx)(f:Mt):Kn:=fun vs σ H Q=>∃μ ρ st ws ρ',Rl X μ ρ st σ H/\RelWs X.K μ H ws vs/\f ws ρ=some ρ'/\∀σ',Rl X μ ρ' st σ' H->Q σ' H
theorem PG.imp{t t':TG}(h:PG X e t)(i:∀v σ H Q,t' v σ H Q->t v σ H Q):PG X e t':=fun ai s σ H x u Q I r q=>h ai s σ H x u Q I r (i _ _ _ _ q)
theorem Mh.imp{e:List Expr}{t t':Kn}(h:Mh X e t)(i:∀v σ H Q,t' v σ H Q->t v σ H Q):Mh X e t':=fun ai s σ H x u Q I r q=>h ai s σ H x u Q I r (i _ _ _ _ q)
structure SG(X:Cx)(e:Expr)(f:FG):Prop where
 h:PG X e (Ur X f)
structure Us(X:Cx)(e:List Expr)(f:Mt):Prop where
 h:Mh X e (Vc X f)
def g8(i:Nat):FG:=fun w ρ=>some (ρ.set i (some w))
theorem Dy(hN:X.N.Nodup)(hi:X.N[i]?=some x)(hx:J8 X.env.scope x)(hf:X.fn x=true\/X.env.scope.names.lookup x=some .local:=by first|exact .inl rfl|exact .inr rfl|assumption):SG X (.Name x pos) (g8 i):=⟨(Kp hN hi hx hf).imp fun v σ H Q h=>by
 obtain⟨μ,ρ,st,w,ρ',l,r,e,q⟩:=h
 cases e
 exact q _ ⟨rG r i l.env,l.sto⟩⟩
def rO:Mt:=fun ws ρ=>match ws with
 |[]=>some ρ
 |_=>none
def g9(f:FG)(fs:Mt):Mt:=fun ws ρ=>match ws with
 |w::ws=>(f w ρ).bind fun ρ'=>fs ws ρ'
 |[]=>none
theorem m8:Us X [] rO:=⟨Kq.imp fun vs σ H Q h=>by
 obtain⟨μ,ρ,st,ws,ρ',l,r,e,q⟩:=h
 cases ws with
 |nil=>cases e;exact⟨r.nilE,q σ l⟩
 |cons _ _=>cases e⟩
theorem fU{f:FG}{fs:Mt}(h1:SG X e f)(h2:Us X es fs)(hs:(assignEach (e::es) X.env).map (·.2)=assign e X.env::(assignEach es X.env).map (·.2):=by rfl):Us X (e::es) (g9 f fs):=⟨(FR h1.h h2.h hs).imp fun vs σ H Q h=>by
 obtain⟨μ,ρ,st,ws,ρ',l,r,e,q⟩:=h
 cases ws with
 |nil=>cases e
 |cons w ws=>
  obtain⟨x,xs,rfl,rx,rs⟩:=r.consE
  simp only[g9]at e
  cases e1:f w ρ with
  |none=>rw[e1]at e;cases e
  |some ρ1=>
   rw[e1]at e
   exact⟨x,xs,rfl,μ,ρ,st,w,ρ1,l,rx,e1,fun σ1 l1=>⟨μ,ρ1,st,ws,ρ',l1,rs,e,q⟩⟩⟩
def Ka(n:Nat)(fs:Mt):FG:=fun w ρ=>match w with
 |.tup ws=>if ws.length=n then fs ws ρ else none
 |_=>none
theorem qI{k:Nat}{fs:Mt}(hc:X.calm=true)(h:Us X es fs)(hn:(assignEach es X.env).length=n:=by rfl)(mT:(assignEach es X.env).findIdx? (·.1)=none:=by rfl):SG X (.Tuple es k pos) (Ka n fs):=⟨(NT hc h.h hn mT).imp fun v σ H Q h=>by
 obtain⟨μ,ρ,st,w,ρ',l,r,e,q⟩:=h
 cases w with
 |tup ws=>
  obtain⟨p,vs,rfl,hS,rs⟩:=r.tupE
  simp only[Ka]at e
  by_cases c:ws.length=n
  ·rw[aC c]at e
   exact⟨p,vs,rfl,hS,by rw[<- rs.len];exact c,μ,ρ,st,ws,ρ',l,rs,e,q⟩
  ·rw[aJ c]at e;cases e
 |_=>cases e⟩
def E2(fe:FE)(f:FG):FS:=fun ρ st=>(fe ρ st).stmt ρ fun w st=>match f w ρ with
 |some ρ'=>.nx ρ' st
 |none=>.bad
def b6(i:Nat)(fe:FE):FS:=fun ρ st=>(fe ρ st).stmt ρ fun w st=>.nx (ρ.set i (some w)) st
theorem OC(hN:X.N.Nodup)(hi:X.N[i]?=some x)(hx:J8 X.env.scope x)(he:SE X e fe)(hs:swapsWith e (some (.Name x iY)) pos.line X.env=pure false:=by rfl)(hf:X.fn x=true\/X.env.scope.names.lookup x=some .local:=by first|exact .inl rfl|exact .inr rfl|assumption) :
  SS X (.Assign [.Name x iY] e pos) (b6 i fe):=⟨(NW hN hi hx he.h hs hf).imp fun D σ H h=>by
 walk_at "2"
 exact⟨μ,ρ,st,l,RK.stmt h l fun μ1 st1 x v H1 p1 x1 l1 q1 h1=>h1 μ1 _ H1 (au _) fw.refl ⟨rG q1 i l1.env,l1.sto⟩⟩⟩
def lI(x i v:W)(st:List al):Option (List al):=match x,i with
 |.loc n,.int k=>(match st[n]? with
  |some (.lst ws)=>(By ws.length k).map fun j=>st.set n (.lst (ws.set j v))
  |_=>none)
 |_,_=>none
def p8(fo fi fe:FE)(f:W->W->W->List al->Option (List al)):FS:=fun ρ st=>(fe ρ st).stmt ρ fun v st=>(fo ρ st).stmt ρ fun x st=>(fi ρ st).stmt ρ fun i st=>match f x i v st with
 |some bF=>.nx ρ bF
 |none=>.bad
def GK(X:Cx)(f:W->W->W->List al->Option (List al)):Ko:=fun o i v H Q=>∃μ st wo wi wv bF,iW X.K X.mg μ st H/\bK X.K μ H wo o/\bK X.K μ H wi i/\bK X.K μ H wv v/\f wo wi wv st=some bF/\∀H',fw X.K H H'->iW X.K X.mg μ bF H'->Q H'
theorem qJ:Ez X (GK X lI):=fun ai s σ H o i v ov iv u Q I r1 r2 r3 zq=>by
 obtain⟨μ,st,wo,wi,wv,bF,S,ro,ri,rv,e,q⟩:=zq
 cases wo with
 |loc n=>
  cases wi with
  |int k=>
   simp only[lI]at e
   cases e1:st[n]? with
   |none=>rw[e1]at e;cases e
   |some cc=>
    rw[e1]at e
    cases cc with
    |lst ws=>
     simp only at e
     cases e2:By ws.length k with
     |none=>rw[e2]at e;cases e
     |some jj=>
      rw[e2]at e
      cases e
      obtain⟨a1,g1,vs,k1,r⟩:=S.get e1
      obtain⟨b1,f1,rfl⟩:=ro.locE
      rw[g1]at f1;cases f1
      refine EO ai s σ H _ i v ov iv u Q I r1 r2 r3 ⟨a1,vs,k,jj,rfl,ri.intE,k1,by rw[<- r.len];exact e2,fun H2 eH=>?_⟩
      subst eH
      exact q _ (ic.but mW k1) (S.set e1 g1 k1 (r.setI jj rv))
    |_=>cases e
  |_=>cases e
 |_=>cases wi<;>cases e
theorem ma{f:W->W->W->List al->Option (List al)}{i:Expr}{fi:FE}{fo:FE}(Vy:Ez X (GK X f))(he:SE X e fe)(ho:SE X o fo)(hi:SE X i fi)
  (ha:∀v,assign (.Subscript o i iY) X.env v=(do
   let ov <- holding [v] (eval o X.env)
   let iv <- holding [v,ov] (eval i X.env)
   standAt iY
   holding [v,ov,iv] (setItem ov iv v)
   release [v,ov,iv] []):=by intro _;rfl)
  (hs:swapsWithSole [.Subscript o i iY] e pos.line X.env=pure false:=by rfl) (hw:swappedStores [.Subscript o i iY] e X.env=pure none:=by rfl) (h1:(assignEach [.Subscript o i iY] X.env).map (·.2)=[assign (.Subscript o i iY) X.env]:=by rfl) :
  SS X (.Assign [.Subscript o i iY] e pos) (p8 fo fi fe f):=⟨(NV he.h (NU ho.h hi.h Vy ha) hs hw h1).imp fun D σ H h=>by
 walk_at "2"
 refine⟨μ,ρ,st,l,RK.stmt h l fun μ1 st1 v vv H1 p1 x1 l1 q1 h1=>⟨μ1,ρ,st1,l1,RK.stmt h1 l1 fun μ2 cT x xv H2 p2 x2 l2 q2 h2=>⟨μ2,ρ,cT,l2,RK.stmt h2 l2 fun μ3 j_ i iv H3 p3 x3 l3 q3 h3=>?_⟩⟩⟩
 cases e1:f x i v j_ with
 |none=>rw[e1]at h3;exact h3.elim
 |some bF=>
  rw[e1]at h3
  exact⟨μ3,j_,x,i,v,bF,l3.sto,q2.mono p3 x3,q3,(q1.mono p2 x2).mono p3 x3,e1,fun H' xx S'=>h3 μ3 σ H' (au _) xx (l3.to (au _) xx S')⟩⟩
end
def jd(st:List al):Option (Nat×List W)->Prop
 |none=>True
 |some (n,ws)=>lstOf st n=some ws
abbrev E3:=List W×Option (Nat×List W)
abbrev FI:=cv->List al->R E3
def B_(X:Cx)(J:It)(k:E3)(μ:List Addr)(H:Hp):Prop:=
 ∀(i:Nat) μ' bF H',μ <+: μ'->fw X.K H H'->iW X.K X.mg μ' bF H'->jd bF k.2 ->
  (∀w,k.1[i]?=some w->J.go i H'/\∀x H'',J.yld i H' x H''->fw X.K H' H''/\iW X.K X.mg μ' bF H''/\bK X.K μ' H'' w x)/\(k.1.length<=i->J.stop i H')
abbrev Sm(X:Cx):List Addr->Hp->E3->It->Prop:=fun μ H k J=>B_ X J k μ H
structure SI(X:Cx)(tg it:Expr)(f:FI):Prop where
 h:PI X tg it (fun σ H R=>tG X (Sm X) f σ H R)
theorem PI.imp{it:Expr}{t t':TI}(h:PI X tg it t)(i:∀σ H Q,t' σ H Q->t σ H Q):PI X tg it t':=fun ai s σ H Q I q=>h ai s σ H Q I (i _ _ _ q)
open Classical in
def n6(f:FG)(body:FS)(ck:Option (Nat×List W)):List W->FS
 |[],ρ,st=>if jd st ck then .nx ρ st else .bad
 |w::ws,ρ,st=>if jd st ck then(match f w ρ with
  |none=>.bad
  |some ρ'=>(match body ρ' st with
   |.nx ρ2 cT=>n6 f body ck ws ρ2 cT
   |.ct ρ2 cT=>n6 f body ck ws ρ2 cT
   |.bk ρ2 cT=>.nx ρ2 cT
   |.rt w cT=>.rt w cT
   |.ex c ρ2 cT=>.ex c ρ2 cT
   |.bad=>.bad))else .bad
def i'(fi:FI)(f:FG)(body:FS):FS:=fun ρ st=>(fi ρ st).stmt ρ fun k st=>n6 f body k.2 k.1 ρ st
section
variable{a b c:Expr}{fs:FA}{ft:FT}{body:List Stmt}{g:FS}{f:FG}{fi:FI}
theorem fI(hi:SI X tg d3 fi)(hg:SG X tg f)(hb:SB X body g)(hc:X.calm=true:=by rfl)(hp:PassesOwn #[5] X.A X.env X.xe:=by passes_own)(hs:∀x,foldedSetIterable d3 X.env x=pure x:=by intro _;rfl):SS X (.For tg d3 body [] pos) (i' fi f g):=⟨(NY hp hc hi.h hg.h hb.h hs).imp fun D σ H h=>by
 walk_at "2"
 refine⟨μ,ρ,st,l,RK.stmt h l fun μ1 st1 k J H1 p1 x1 l1 wk h1=>?_⟩
 refine⟨fun i m σ' H'=>i<=k.1.length/\m=k.1.length-i/\∃μ' ρ' bF,μ1 <+: μ'/\fw X.K H1 H'/\Rl X μ' ρ' bF σ' H'/\SK X μ' H' D (n6 f g k.2 (k.1.drop i) ρ' bF),
  ⟨_,bU _,rfl,μ1,ρ,st1,au _,fw.refl,l1,h1⟩,?_⟩
 rintro i m σ' H' ⟨hi,rfl,μ',ρ',bF,pm,xm,lm,hm⟩
 by_cases hlt:i<k.1.length
 ·rw[ip hlt]at hm
  unfold n6 at hm
  by_cases ck:jd bF k.2
  ·rw[aC ck]at hm
   obtain⟨go,yld⟩:=(wk i μ' bF H' pm xm lm.sto ck).1 _ (aq hlt)
   cases hf:f k.1[i] ρ' with
   |none=>rw[hf]at hm;exact hm.elim
   |some ρ2=>
    rw[hf]at hm
    simp only at hm
    refine .inr ⟨go,fun σ2 H2=>∃μ2 ρ3 cT,μ' <+: μ2/\fw X.K H' H2/\Rl X μ2 ρ3 cT σ2 H2/\SK X μ2 H2 D (n6 f g k.2 (k.1.drop (i+1)) ρ3 cT),fun σ2 H2 ⟨μ2,ρ3,cT,q1,q2,q3,q4⟩=>
     ⟨_,by omega,hlt,rfl,μ2,ρ3,cT,pm.trans q1,xm.trans q2,q3,q4⟩,fun x H2 hy=>?_⟩
    obtain⟨y1,y2,y3⟩:=yld x H2 hy
    refine⟨μ',ρ',bF,k.1[i],ρ2,lm.to (au _) y1 y2,y3,hf,fun σ2 l2=>⟨μ',ρ2,bF,l2,?_⟩⟩
    cases e:g ρ2 bF with
    |nx ρ3 j_=>rw[e]at hm;exact fun μ4 σ4 H4 p4 x4 l4=>⟨μ4,ρ3,j_,p4,y1.trans x4,l4,SK.mono hm p4 (y1.trans x4)⟩
    |ct ρ3 j_=>rw[e]at hm;exact fun μ4 σ4 H4 p4 x4 l4=>⟨μ4,ρ3,j_,p4,y1.trans x4,l4,SK.mono hm p4 (y1.trans x4)⟩
    |bk ρ3 j_=>rw[e]at hm;exact fun μ4 σ4 H4 p4 x4 l4=>hm μ4 σ4 H4 p4 (y1.trans x4) l4
    |rt w j_=>rw[e]at hm;exact fun μ4 v4 H4 p4 x4=>hm μ4 v4 H4 p4 (y1.trans x4)
    |ex c ρ3 j_=>rw[e]at hm;exact XS.mono hm (au _) y1
    |bad=>rw[e]at hm;exact hm
  ·rw[aJ ck]at hm;exact hm.elim
 ·have hi':i=k.1.length:=by omega
  subst hi'
  rw[nD (ay _)]at hm
  unfold n6 at hm
  by_cases ck:jd bF k.2
  ·rw[aC ck]at hm
   exact .inl ⟨(wk _ μ' bF H' pm xm lm.sto ck).2 (ay _),hm μ' σ' H' (au _) fw.refl lm⟩
  ·rw[aJ ck]at hm;exact hm.elim⟩
def gq(t:FT)(body:FS):Nat->FS
 |0,_,_=>.bad
 |n+1,ρ,st=>(t ρ st).stmt ρ fun k st=>if k then(match body ρ st with
   |.nx ρ2 cT=>gq t body n ρ2 cT
   |.ct ρ2 cT=>gq t body n ρ2 cT
   |.bk ρ2 cT=>.nx ρ2 cT
   |.rt w cT=>.rt w cT
   |.ex c ρ2 cT=>.ex c ρ2 cT
   |.bad=>.bad)else .nx ρ st
open Classical in
def oH(t:FT)(body:FS):FS:=fun ρ st=>if h:∃n,gq t body n ρ st≠.bad then gq t body h.choose ρ st else .bad
theorem oI(t:FT)(g:FS):∀(n:Nat) (ρ:cv) (st:List al),gq t g n ρ st≠.bad->gq t g (n+1) ρ st=gq t g n ρ st
 |0,_,_,h=>absurd rfl h
 |n+1,ρ,st,h=>by
  unfold gq at h ⊢
  cases e:t ρ st with
  |ex c st1=>rfl
  |bad=>rfl
  |ok k st1=>
   rw[e]at h
   simp only[R.stmt_ok]at h ⊢
   cases k with
   |false=>rfl
   |true=>
    simp only[jP]at h ⊢
    cases e2:g ρ st1 with
    |nx ρ2 cT=>rw[e2]at h;exact oI t g n ρ2 cT h
    |ct ρ2 cT=>rw[e2]at h;exact oI t g n ρ2 cT h
    |_=>rfl
theorem wN{n m:Nat}(h:gq t g n ρ st≠.bad)(hm:n<=m):gq t g m ρ st=gq t g n ρ st:=by
 induction hm with
 |refl=>rfl
 |@step m _ ih=>rw[oI t g m ρ st (by rw[ih];exact h),ih]
theorem E4{r:RS}(h:gq t g n ρ st=r)(hr:r≠.bad):oH t g ρ st=r:=by
 have hx:∃n,gq t g n ρ st≠.bad:=⟨n,by rw[h];exact hr⟩
 unfold oH
 rw[dif_pos hx]
 have c:=hx.choose_spec
 have a:=wN c (Nat.le_max_left hx.choose n)
 have b:=wN (n:=n) (m:=max hx.choose n) (by rw[h];exact hr) (Nat.le_max_right _ _)
 rw[<- a,b,h]
theorem zJ{D:ze}:∀(n:Nat) (σ:St) (H:Hp) (μ:List Addr) (ρ:cv) (st:List al),Rl X μ ρ st σ H->SK X μ H D (gq t g n ρ st)->FU (tT X t) (U_ X g) D σ H:=by
 intro n σ H μ ρ st l h
 refine⟨fun m σ' H'=>∃μ' ρ' bF,Rl X μ' ρ' bF σ' H'/\SK X μ' H' D (gq t g m ρ' bF),⟨n,μ,ρ,st,l,h⟩,?_⟩
 rintro m σ' H' ⟨μ',ρ',bF,l',h'⟩
 cases m with
 |zero=>exact h'.elim
 |succ m=>
  refine⟨μ',ρ',bF,l',RK.stmt h' l' fun μ1 st1 k v H1 p1 x1 l1 q1 h1=>?_⟩
  cases q1
  cases k with
  |false=>exact h1 μ1 σ' H1 (au _) fw.refl l1
  |true=>
   refine⟨fun σ2 H2=>∃μ2 ρ2 cT,Rl X μ2 ρ2 cT σ2 H2/\SK X μ2 H2 D (gq t g m ρ2 cT),fun σ2 H2 z=>⟨m,cM m,z⟩,μ1,ρ',st1,l1,?_⟩
   simp only[jP]at h1
   cases e:g ρ' st1 with
   |nx ρ3 j_=>rw[e]at h1;exact fun μ4 σ4 H4 p4 x4 l4=>⟨μ4,ρ3,j_,l4,SK.mono h1 p4 x4⟩
   |ct ρ3 j_=>rw[e]at h1;exact fun μ4 σ4 H4 p4 x4 l4=>⟨μ4,ρ3,j_,l4,SK.mono h1 p4 x4⟩
   |bk ρ3 j_=>rw[e]at h1;exact h1
   |rt w j_=>rw[e]at h1;exact h1
   |ex c ρ3 j_=>rw[e]at h1;exact h1
   |bad=>rw[e]at h1;exact h1
theorem zK(hc:ST X c t)(hb:SB X body g)(hp:PassesOwn #[5] X.A X.env X.xe:=by passes_own):SS X (.While c body [] pos) (oH t g):=⟨(FV hp hc.h hb.h).imp fun D σ H h=>by
 walk_at "2"
 unfold oH at h
 by_cases hx:∃n,gq t g n ρ st≠.bad
 ·rw[dif_pos hx]at h;exact zJ _ σ H μ ρ st l h
 ·rw[dif_neg hx]at h;exact h.elim⟩
def GL(fe:FE):FI:=fun ρ st=>(fe ρ st).bind fun x st=>match x with
 |.tup ws=>.ok (ws,none) st
 |_=>.bad
theorem GM(he:SE X e fe):SI X tg e (GL fe):=⟨(NX he.h).imp fun σ H R h=>by
 walk_at "2"
 walk_at "1"
 cases x with
 |tup ws=>
  obtain⟨p,vs,rfl,hS,r⟩:=q1.tupE
  refine⟨p,rfl,⟨vs,hS⟩,h1 μ1 _ H1 (au _) fw.refl l1.sto fun i μ' bF H' pp xx S _=>⟨fun w hw=>?_,fun hl=>⟨vs,xx _ _ hS,by rw[<- r.len];exact hl⟩⟩⟩
  have r':=r.mono pp xx
  obtain⟨v,g1,g2⟩:=r'.get hw
  refine⟨⟨vs,v,xx _ _ hS,g1⟩,fun y H'' hy=>?_⟩
  obtain⟨rfl,hy⟩:=hy
  have:=hy vs (xx _ _ hS)
  rw[g1]at this;cases this
  exact⟨fw.refl,S,g2⟩
 |_=>exact h1.elim⟩
def Mu(fe:FE):FI:=fun ρ st=>(fe ρ st).bind fun x st=>match x with
 |.loc n=>(match lstOf st n with
  |some ws=>.ok (ws,some (n,ws)) st
  |none=>.bad)
 |_=>.bad
theorem OD(he:SE X e fe):SI X tg e (Mu fe):=⟨(Ks he.h).imp fun σ H R h=>by
 walk_at "2"
 walk_at "1"
 cases x with
 |loc n=>
  obtain⟨a,ha,rfl⟩:=q1.locE
  simp only at h1
  cases e1:lstOf st1 n with
  |none=>rw[e1]at h1;exact h1.elim
  |some ws=>
   rw[e1]at h1
   obtain⟨a',vs0,g0,hS0,r0⟩:=l1.sto.lstOf e1
   rw[ha]at g0;cases g0
   refine⟨a,rfl,⟨vs0,hS0⟩,h1 μ1 _ H1 (au _) fw.refl l1.sto fun i μ' bF H' pp xx S ck=>?_⟩
   obtain⟨a2,vs,g2,hS,r⟩:=S.lstOf (show lstOf bF n=some ws from ck)
   have:μ'[n]?=some a:=x_ pp ha
   rw[g2]at this;cases this
   refine⟨fun w hw=>?_,fun hl=>⟨vs,hS,by rw[<- r.len];exact hl⟩⟩
   obtain⟨v,g1,g3⟩:=r.get hw
   refine⟨⟨vs,v,hS,g1⟩,fun y H'' hy=>?_⟩
   obtain⟨rfl,hy⟩:=hy
   have:=hy vs hS
   rw[g1]at this;cases this
   exact⟨fw.refl,S,g3⟩
 |_=>exact h1.elim⟩
def fx(lo:Int)(n:Nat):List W:=(List.range n).map fun(i:Nat)=>W.int (lo+i)
theorem fJ(lo:Int)(n:Nat):(fx lo n).length=n:=by simp[fx]
theorem B'{lo:Int}:B_ X (Um lo n) (fx lo n,none) μ H:=fun i μ' bF H' pp xx S _=>by
 refine⟨fun w hw=>?_,fun hl=>by rw[fJ]at hl;exact hl⟩
 have hi:i<n:=by
  have:=(aj.mp hw).1
  rw[fJ]at this;exact this
 refine⟨hi,fun y H'' hy=>?_⟩
 obtain⟨rfl,rfl⟩:=hy
 have e:w=.int (lo+i):=by
  unfold fx at hw
  rw[aG,cU hi]at hw
  exact(bn hw).symm
 subst e
 exact⟨fw.refl,S,.int⟩
def dM(fs:FA):FI:=fun ρ st=>(fs ρ st).bind fun ws st=>match ws with
 |[.int j]=>if -(2^62)<=j/\j<2^62 then .ok (fx 0 j.toNat,none) st else .bad
 |_=>.bad
theorem fR(hm:X.mg "range"=none)(ha:SA X [a] fs)(hg:Gl X "range":=by rfl)(hs:starEach [a] X.env=[(false,eval a X.env)]:=by rfl):SI X tg (.Call (.Name "range" p) [a] [] pos) (dM fs):=⟨(EB hg hm ha.h hs).imp fun σ H R h=>by
 walk_at "2"
 walk_at "1"
 split at h1
 ·obtain⟨y,rfl,ry⟩:=q1.one
  split at h1
  ·rename_i c
   exact⟨_,by rw[ry.intE],c.1,c.2,h1 μ1 _ H1 (au _) fw.refl l1.sto B'⟩
  ·exact h1.elim
 ·exact h1.elim⟩
end
end L2
variable{fi:L2.FI}
namespace L2
open PySem PySem.Spec PyProof.Rows
mutual
def W.und(n:Nat):W->Bool
 |.loc m=>decide (m<n)
 |.tup ws=>undWs n ws
 |_=>true
def undWs(n:Nat):List W->Bool
 |[]=>true
 |w::ws=>w.und n&&undWs n ws
end
def al.und(n:Nat):al->Bool
 |.lst ws=>undWs n ws
 |.ro ws=>undWs n ws
 |.exc _=>true
 |.dct kvs=>undWs n (kvs.map fun p=>p.2)
 |.rod kvs=>undWs n (kvs.map fun p=>p.2)
 |.dcx kvs=>undWs n (kvs.map fun p=>p.2)
 |.rox kvs=>undWs n (kvs.map fun p=>p.2)
 |.obj _ fs=>undWs n (fs.map fun p=>p.2)
 |.tab _ _ _=>true
 |.pin _ _ _ w=>w.und n
 |.gone=>true
section
mutual
theorem bK.und:∀{w:W} {v:V},bK K μ H w v->w.und μ.length=true
 |.non,_,_=>by simp[W.und]
 |.bl _,_,_=>by simp[W.und]
 |.int _,_,_=>by simp[W.und]
 |.str _,_,_=>by simp[W.und]
 |.tup _,_,r=>by obtain⟨p,vs,_,_,c⟩:=r.tupE;unfold W.und;exact RelWs.und c
 |.loc _,_,r=>by obtain⟨a,e,_⟩:=r.locE;unfold W.und;exact aN (aj.mp e).1
theorem RelWs.und:∀{ws:List W} {vs:List V},RelWs K μ H ws vs->undWs μ.length ws=true
 |[],_,_=>by unfold undWs;rfl
 |_::_,_,r=>by obtain⟨x,xs,_,b,c⟩:=r.consE;unfold undWs;rw[bK.und b,RelWs.und c];rfl
end
mutual
theorem bK.take:∀{w:W} {v:V},bK K μ H w v->w.und n=true->bK K (μ.take n) H w v
 |.non,_,r,_=>by rw[r.nonE];exact .non
 |.bl _,_,r,_=>by rw[r.blE];exact .bl
 |.int _,_,r,_=>by rw[r.intE];exact .int
 |.str _,_,r,_=>by rw[r.strE];exact .str
 |.tup _,_,r,b=>by obtain⟨p,vs,rfl,h,c⟩:=r.tupE;unfold W.und at b;exact .tupI h (RelWs.takeN c b)
 |.loc _,_,r,b=>by obtain⟨a,e,rfl⟩:=r.locE;unfold W.und at b;exact .locI (by rw[c8 (hZ b)];exact e)
theorem RelWs.takeN:∀{ws:List W} {vs:List V},RelWs K μ H ws vs->undWs n ws=true->RelWs K (μ.take n) H ws vs
 |[],_,r,_=>by rw[r.nilE];exact .nilI
 |_::_,_,r,b=>by
  obtain⟨x,xs,rfl,b1,c1⟩:=r.consE
  unfold undWs at b
  rw[cO]at b
  exact .consI (bK.take b1 b.1) (RelWs.takeN c1 b.2)
end
theorem KX.und_w(k:KX)(n:Nat):k.w.und n=true:=by
 have hi:∀ks:List Int,undWs n (ks.map W.int)=true:=fun ks=>by
  induction ks with
  |nil=>rfl
  |cons a l ih=>show(true&&undWs n (l.map W.int))=true;rw[ih];rfl
 cases k with
 |bo b=>rfl
 |fl ks=>unfold KX.w W.und;exact hi ks
 |pr i ks=>unfold KX.w W.und undWs;rw[show(W.int i).und n=true from rfl];unfold undWs;rw[show(W.tup (ks.map W.int)).und n=true by unfold W.und;exact hi ks];rfl
theorem u8:∀{kvs:List (KX×W)} {es:List DictEntry},Paired (zC K μ H) kvs es->undWs μ.length (kvs.map fun p=>p.2)=true
 |_,_,.nil=>rfl
 |_,_,.cons r t=>by
  obtain⟨_,_,v,h,_⟩:=r
  show(_&&undWs _ _)=true
  rw[h.und,u8 t];rfl
theorem sP:∀{kvs:List (KX×W)} {es:List DictEntry},Paired (zC K μ H) kvs es->undWs n (kvs.map fun p=>p.2)=true->Paired (zC K (μ.take n) H) kvs es
 |_,_,.nil,_=>.nil
 |_,_,.cons r t,b=>by
  obtain⟨a,⟨u,c,d⟩,v,h,g⟩:=r
  have b:(_&&undWs n _)=true:=b
  rw[cO]at b
  exact .cons ⟨a,⟨u,bK.take c (KX.und_w _ n),d⟩,v,bK.take h b.1,g⟩ (sP t b.2)
theorem lH.und{c:al}(r:lH K mg μ H c a):c.und μ.length=true:=by
 cases c with
 |lst ws=>obtain⟨vs,_,y⟩:=r;exact y.und
 |ro ws=>obtain⟨vs,_,y⟩:=r;exact y.und
 |exc c=>rfl
 |dct kvs=>obtain⟨vs,_,y⟩:=r;exact y.und
 |rod kvs=>obtain⟨vs,_,_,y⟩:=r;exact y.und
 |dcx kvs=>obtain⟨es,_,_,y,_⟩:=r;exact u8 y
 |rox kvs=>obtain⟨es,_,_,_,y,_⟩:=r;exact u8 y
 |obj _ fs=>obtain⟨_,_,vs,_,_,y⟩:=r;exact y.und
 |tab _ _ _=>rfl
 |pin _ _ _ _=>obtain⟨_,_,_,v,y,_⟩:=r;exact y.und
 |gone=>rfl
theorem lH.take{c:al}(r:lH K mg μ H c a)(b:c.und n=true):lH K mg (μ.take n) H c a:=by
 cases c with
 |lst ws=>obtain⟨vs,x,y⟩:=r;exact⟨vs,x,y.takeN b⟩
 |ro ws=>obtain⟨vs,x,y⟩:=r;exact⟨vs,x,y.takeN b⟩
 |exc c=>exact r
 |dct kvs=>obtain⟨vs,x,y⟩:=r;exact⟨vs,x,y.takeN b⟩
 |rod kvs=>obtain⟨vs,o,x,y⟩:=r;exact⟨vs,o,x,y.takeN b⟩
 |dcx kvs=>obtain⟨es,x,d,y,z⟩:=r;exact⟨es,x,d,sP y b,z⟩
 |rox kvs=>obtain⟨es,o,x,d,y,z⟩:=r;exact⟨es,o,x,d,sP y b,z⟩
 |obj _ fs=>obtain⟨C,dx,vs,m,x,y⟩:=r;exact⟨C,dx,vs,m,x,y.takeN b⟩
 |tab _ _ _=>exact r
 |pin _ _ _ _=>obtain⟨ea,p,g,v,y,z⟩:=r;exact⟨ea,p,g,v,y.take b,z⟩
 |gone=>trivial
end
theorem eR.ex{w:World}{o:HO}(x:eR P w nk H h a o):∃ob,h.get? a=some ob:=by
 cases o with
 |lst xs=>obtain⟨_,_,_,_,e⟩:=x;exact⟨_,e⟩
 |tup xs=>obtain⟨_,_,_,o,e,_⟩:=x;exact⟨_,e⟩
 |dK kvs=>obtain⟨_,_,_,_,o,_,_,e,_⟩:=x;exact⟨_,e⟩
 |dT kvs=>obtain⟨_,_,_,_,o,_,_,e,_⟩:=x;exact⟨_,e⟩
 |set S n=>obtain⟨o,_,_,_,e,_⟩:=x;exact⟨_,e⟩
 |ins C dx fs=>obtain⟨_,_,_,e,_⟩:=x;exact⟨_,e⟩
 |own y=>obtain⟨_,e⟩:=x;exact⟨_,e⟩
 |xd fs=>obtain⟨_,⟨_,_,_,e,_⟩,_⟩:=x;exact⟨_,e⟩
 |rng lo hi=>obtain⟨_,_,_,e⟩:=x;exact⟨_,e⟩
 |frz ob u=>obtain⟨e,_⟩:=x;exact⟨_,e⟩
 |tbl ps=>exact⟨_,(show h.get? a=some _ from x)⟩
 |met f y=>exact⟨_,(show h.get? a=some _ from x)⟩
 |ext φ=>obtain⟨_,⟨_,e⟩,_⟩:=x;exact⟨_,e⟩
def Mv(st bF:List al)(ws:List W):Prop:=undWs st.length ws=true/\st.length<=bF.length/\∀(i:Nat),i<st.length->bF[i]?=st[i]?\/∃c,bF[i]?=some c/\c.und st.length=true
open Classical in
def nL(st bF:List al)(ws:List W):List al:=if Mv st bF ws then bF.take st.length else bF
theorem u9{ws:List W}{vs:List V}(S:iW K mg μ st H)(S':iW K mg μ' bF H')(p:μ <+: μ')(r:RelWs K μ' H' ws vs) :
  ∃μ2,μ <+: μ2/\iW K mg μ2 (nL st bF ws) H'/\RelWs K μ2 H' ws vs:=by
 unfold nL
 by_cases k:Mv st bF ws
 ·rw[aC k]
  obtain⟨k1,k2,k3⟩:=k
  have e:μ'.take st.length=μ:=by
   obtain⟨t,rfl⟩:=p
   rw[S.len,lg]
  refine⟨μ'.take st.length,by rw[e];exact au _,⟨fun i j a ci cj h1 h2 r1 r2 m1 m2=>?_,by rw[bE,bE,S'.len],fun i c a h1 h2=>?_⟩,r.takeN k1⟩
  ·have hi:i<st.length:=by have:=(aj.mp h1).1;rw[bE]at this;omega
   have hj:j<st.length:=by have:=(aj.mp h2).1;rw[bE]at this;omega
   rw[c8 hi]at h1 m1
   rw[c8 hj]at h2 m2
   exact S'.nd i j a ci cj h1 h2 r1 r2 m1 m2
  ·have hi:i<st.length:=by have:=(aj.mp h1).1;rw[bE]at this;omega
   rw[c8 hi]at h1 h2
   refine(S'.at' i c a h1 h2).take ?_
   rcases k3 i hi with q|⟨c',q,b⟩
   ·rw[h1]at q
    obtain⟨a0,g0,r0⟩:=S.get q.symm
    have:=r0.und
    rw[S.len];exact this
   ·rw[h1]at q;cases q;exact b
 ·rw[aJ k]
  exact⟨μ',p,S',r⟩
def dZ(N:Nat)(body:FS)(ws:List W)(st:List al):R W:=match body #[14] st with
 |.rt w bF=>.ok w (nL st bF [w])
 |.nx _ bF=>.ok .non (nL st bF [])
 |.ex c _ bF=>.ex c (nL st bF [])
 |_=>.bad
def kP(P:Program)(w:World):Fx:=fun outer H s E e s'=>∃x C t B H',e=.ref x/\E C none H'/\s'.os=s.os/\AllBare s'.gens/\Un (rk outer) [] H H' s.heap s'.heap/\pI P w s'.toks H' s'.heap/\H' x=none/\Heap.FlyingW B outer x C (.ref t) s'.heap /\
 ∀b o,s'.heap.get? b=some o->(H' b≠none\/((∃o0,s.heap.get? b=some o0)/\b∉rk outer))->B.get? b=some o
def md(K:Frag)(mg:Str->Option Value)(n:Nat)(F:List W->List al->R W):Sp:=fun vs H Q E=>vs.length=n/\∃μ ws st,iW K mg μ st H/\RelWs K μ H ws vs/\(match F ws st with
 |.ok w bF=>∀μ' v H',μ <+: μ'->fw K H H'->iW K mg μ' bF H'->bK K μ' H' w v->Q v H'
 |.ex c bF=>∀C μ' H',mg c=some C->μ <+: μ'->fw K H H'->iW K mg μ' bF H'->E C none H'
 |.bad=>False)
theorem tN.noted{c:Str}{e:Value}{Q:Unit->Shared->Prop}{E:Value->Shared->Prop}{M:Model}{outer:List Env}(f:tN X ai σ c H e s)(mT:X.stack=X.env::outer)(yZ:X.env.frame=some X.env.locals)(hA:X.A.frames=some X.stack)
  (h:∀x C t B h',e=.ref x->X.mg c=some C->H x=none->Heap.FlyingW B X.stack x C (.ref t) h'->s.heap.UpToSlots h' ->
   (∀b o,s.heap.get? b=some o->(H b≠none\/((∃o0,X.s₀.heap.get? b=some o0)/\b∉X.fs/\b∉X.ex)\/((∃y,X.env.cells.lookup y=some b)/\b∉rk X.stack)\/∃p∈X.pn++ai,p.1=b)->B.get? b=some o)->Q () { s with heap:=h' }) :
  wpAny M X.A (leaving X.env e) Q E s:=by
 obtain⟨x,C,t,B,rfl,hC,hx,st,nx,ff,tr,cov⟩:=f.ex
 rw[mT]at ff hA
 rcases tr with tr|⟨oe,vs,he,rfl,_,hd,h1,h0⟩|⟨L,hL,tr⟩
 ·refine wpAny_leaving_nextW hA ff yZ tr st nx fun h' hL=>?_
  obtain⟨k1,k2,k3,k4⟩:=hL
  exact h x C t B h' rfl hC hx ⟨k1,nx,by rw[mT];exact k2,k3⟩ k4 cov
 ·refine wpAny_leaving_firstW hA ff yZ he st nx hd h1 h0 fun h' hL=>?_
  obtain⟨k1,k2,k3,k4⟩:=hL
  exact h x _ t B h' rfl hC hx ⟨k1,nx,by rw[mT];exact k2,k3⟩ k4 cov
 ·unfold leaving
  refine ag (nE hL tr (sB ⟨st,nx,ff,tr⟩ fun h' fl up=>?_))
  exact h x C t B h' rfl hC hx (by rw[mT];exact fl) up cov
theorem tN.leaves{c:Str}{e:Value}{E:XK}{E':Value->Shared->Prop}(f:tN X ai σ c H e s)(mT:X.stack=X.env::X.outer)(yZ:X.env.frame=some X.env.locals)(hA:X.A.frames=some X.stack)(xE:X.ex=[])
  (hE:∀C,X.mg c=some C->E C none H):wpAny M X.A (leaving X.env e) (fun _ s''=>kP X.prog X.w X.outer X.H₀ X.s₀ E e s'') E' s:=by
 refine f.noted mT yZ hA fun x C t B h' he hC hx fl up cov=>?_
 have I:=f.inv
 have un:=I.base
 rw[xE]at un
 have fsE:X.fs=rk X.outer:=rfl
 obtain⟨f1,f2,f3,f4⟩:=fl
 rw[mT]at f3
 obtain⟨_,_,f3'⟩:=f3
 have frames:∀b∈rk X.outer,∀o,s.heap.get? b=some o->∃sl,h'.get? b=some { o with slots:=sl }:=fun b hb o ho=>by
  obtain⟨_,o',t6,hd⟩:=I.funs.mem hb
  rw[ho]at t6;cases t6
  exact up b o ho hd
 have kept:∀b o,s.heap.get? b=some o->(∃o0,X.s₀.heap.get? b=some o0)->b∉rk X.outer->h'.get? b=some o:=fun b o ho h0 hb=>f1 b o (cov b o ho (.inr (.inl ⟨h0,hb,by rw[xE];simp⟩)))
 have keptH:∀b o,s.heap.get? b=some o->H b≠none->h'.get? b=some o:=fun b o ho h0=>f1 b o (cov b o ho (.inl h0))
 refine⟨x,C,t,B,H,he,hE C hC,I.os,I.bare,⟨fun b o q n hb hx=>?_,fun b o q n hb hx=>?_,fun b o q n hx=>un.free b o q n hx,fun b o q hx=>?_,un.tups,un.frzs,un.tbls⟩,fun b u hb=>?_,hx,⟨f1,f2,f3',f4⟩,fun b o ho hr=>?_⟩
 ·exact kept b o (un.keep b o q n hb hx) ⟨o,q⟩ hb
 ·obtain⟨sl,q1⟩:=un.slot b o q n hb hx
  obtain⟨sl2,q2⟩:=frames b hb _ q1
  exact⟨sl2,q2⟩
 ·obtain⟨o',q1⟩:=un.there b o q hx
  by_cases hb:b∈rk X.outer
  ·obtain⟨sl2,q2⟩:=frames b hb _ q1;exact⟨_,q2⟩
  ·exact⟨o',kept b o' q1 ⟨o,q⟩ hb⟩
 ·refine(I.hok b u hb).stay (fun c v hc q=>?_) (fun _ q=>q) fun _ _ q=>q
  refine keptH c v q ?_
  rcases hc with rfl|hc
  ·rw[hb];simp
  ·rw[hc];simp
 ·rcases hr with hr|⟨⟨o0,h0⟩,hb⟩
  ·cases hu:H b with
   |none=>exact absurd hu hr
   |some u=>
    have lt:=I.hok.lt hu
    obtain⟨ob,JQ⟩:∃ob,s.heap.get? b=some ob:=by
     exact(I.hok b u hu).ex
    have:=keptH b ob JQ hr
    rw[ho]at this;cases this
    exact cov b o JQ (.inl hr)
  ·obtain⟨o',q1⟩:=un.there b o0 h0 #[18]
   have:=kept b o' q1 ⟨o0,h0⟩ hb
   rw[ho]at this;cases this
   exact cov b o q1 (.inr (.inl ⟨⟨o0,h0⟩,hb,by rw[xE];simp⟩))
structure cG(P:Program)(w:World)(K:Frag)(mg:Str->Option Value)(base:Heap)(k:Nat)(x:Str)(n:Nat)(F:List W->List al->R W):Prop where
 ex:∃(f:Addr) (fd:FuncData) (ps:List Str),mg x=some (.ref f)/\keepIn K (.ref f)=true/\ps.length=n/\zh K fd ps []/\eY P w K mg base (kP P w) k f fd ps (md K mg n F)
theorem cG.mono{w:World}{k:Nat}(h:cG P w K mg base j x n F)(hj:j<=k):cG P w K mg base k x n F:=by
 obtain⟨f,fd,ps,a,b,c,d,e⟩:=h.ex
 exact⟨f,fd,ps,a,b,c,d,e.mono hj⟩
def bS(n:Nat)(F:List W->List al->R W)(fs:FA):FE:=fun ρ st=>(fs ρ st).bind fun ws st=>if ws.length=n then F ws st else .bad
section
theorem Sn{k:Nat}{f:Addr}{Q:VK}
  (Fn:eY X.prog X.w X.K X.mg X.base (kP X.prog X.w) k f fd ps (md X.K X.mg n F)) (hn:ps.length=n) (hr:jr k X.A) (hb:zh X.K fd ps []) (I:bM X ai σ H s) (S:iW X.K X.mg μ st H) (r:RelWs X.K μ H ws vs) (rv:cR s.toks vs us) (hl:ws.length=n)
  (h:RK X (wa X) μ σ H Q (F ws st)):wpAny #[5] X.A (call (.ref f) us) (EP X ai σ Q) X.xe s:=by
 have hl':(us++([]:List Value)).length=ps.length:=by rw[cC,<- rv.length,<- r.len,hl,hn]
 cases e:F ws st with
 |bad=>rw[e]at h;exact h.elim
 |ok w bF=>
  rw[e]at h
  refine up (wpAny_call (jk (Fn.run X.A X.stack s H ⟨us,[]⟩ us vs Q (fun _ _ _=>False) hr I.env0 (.inl I.pos) (by have:=hb s us I.kIn hl';rwa[cC]at this) rv ⟨by rw[<- r.len];exact hl,μ,ws,st,S,r,by rw[e];exact h⟩) fun r s' hq=>?_))
  cases r with
  |error e=>obtain⟨_,_,_,_,_,_,z,_⟩:=hq;exact z.elim
  |ok fl=>
   cases fl with
   |ret u=>exact fun kt=>I.after hq kt
   |next=>exact False.elim hq
   |brk=>exact False.elim hq
   |cont=>exact False.elim hq
 |ex c bF=>
  rw[e]at h
  refine up (wpAny_call (jk (Fn.run X.A X.stack s H ⟨us,[]⟩ us vs (fun _ _=>False) (fun C _ H'=>X.mg c=some C/\∃μ',μ <+: μ'/\fw X.K H H'/\iW X.K X.mg μ' bF H') hr I.env0 (.inl I.pos) (by have:=hb s us I.kIn hl';rwa[cC]at this) rv
   ⟨by rw[<- r.len];exact hl,μ,ws,st,S,r,by rw[e];exact fun C μ' H' hC p x S'=>⟨hC,μ',p,x,S'⟩⟩) fun r s' hq=>?_))
  cases r with
  |ok fl=>
   cases fl with
   |ret u=>obtain⟨_,_,_,_,_,_,_,z⟩:=hq;exact z.elim
   |next=>exact False.elim hq
   |brk=>exact False.elim hq
   |cont=>exact False.elim hq
  |error ev=>
   obtain⟨x,C,t,B,H',rfl,⟨hC,μ',p,xx,S'⟩,os,bare,un,hok,hx,fl,cov⟩:=hq
   intro kt
   have I':bM X ai σ H' s':=I.call' os un hok bare (fun b hb=>absurd hb #[18]) kt
   refine h ai μ' H' (.ref x) s' p xx S' ⟨I',x,C,t,B,rfl,hC,hx,fl.1,fl.2.1,fl.2.2.1,.inl fl.2.2.2,fun b o ho hrel=>?_⟩
   refine cov b o ho ?_
   rcases hrel with q|⟨⟨o0,h0⟩,hb,hbx⟩|⟨⟨y,hy⟩,hb⟩|⟨pp,hp,rfl⟩
   ·exact .inl q
   ·refine .inr ⟨?_,fun z=>?_⟩
    ·obtain⟨o',q1⟩:=I.base.there b o0 h0 hbx
     exact⟨o',q1⟩
    ·rcases a7.mp (I.stkSub b z)with z|z
     ·rw[z]at h0
      exact absurd (aS (aP h0) I.ok.above) (dh _)
     ·exact hb z
   ·obtain⟨v,ov,hov,_⟩:=I.cell y b hy
    exact .inr ⟨⟨_,hov⟩,hb⟩
   ·obtain⟨g1,g2,g3,g4,_⟩:=I.pin pp hp
    refine .inr ⟨⟨_,g1⟩,fun z=>?_⟩
    rcases a7.mp (I.stkSub _ z)with z|z
    ·exact g3 z
    ·exact g4 z
variable{fs:FA}
theorem bA{k k':Nat}(Fn:cG X.prog X.w X.K X.mg X.base k x n F)(hr:jr k' X.A)(hk:k<=k')(ha:SA X (e::es) fs)(hg:Gl X x:=by rfl)(Mb:(x==("__debug__":Str))=false:=by decide)
  (he:starEach (e::es) X.env=(false,eval e X.env)::starEach es X.env:=by rfl) (j':(backTo pos (starEach es X.env)).any (·.1)=false:=by rfl):SE X (.Call (.Name x p) (e::es) [] pos) (bS n F fs):=⟨by
 intro ai s σ H Q I h
 obtain⟨f,fd,ps,hm,hkp,hn,hb,Fo⟩:=(Fn.mono hk).ex
 refine gQ (ur I hg hm ?_ Mb)
 walk_at "2"
 have h':U9 X fs σ H fun vs H1=>∃μ1 st1 ws,Rl X μ1 ρ st1 σ H1/\RelWs X.K μ1 H1 ws vs/\RK X (wa X) μ1 σ H1 Q (if ws.length=n then F ws st1 else .bad):=
  ⟨μ,ρ,st,l,RK.bind h l fun μ1 st1 x v H1 p1 x1 l1 q1 h1=>⟨μ1,st1,x,l1,q1,h1⟩⟩
 refine PySem.W.callWith_K (h₀:=X.base) I.ok.mod.kin hkp (jq (ha.h pos ai s σ H _ I h') fun us s1 kt1 ⟨vs,H1,I1,r,μ1,st1,ws,l1,r1,q⟩=>⟨I1.kIn,?_⟩) he j'
 by_cases c:ws.length=n
 ·rw[aC c]at q
  exact Sn Fo hn hr hb I1 l1.sto r1 r c q
 ·rw[aJ c]at q;exact q.elim⟩
end
theorem K8{w:World}{st:Stmt}{f:Addr}{N:List Str}{k:Nat}{g:FS}(F:j9 K x fL st f fd)(S:bJ N ps (a8 st))(hn:ps.length=n)
  (AU:∀(gJ:Value) (A:Around) (outer:List Env) (s:Shared) (H:Hp) (E:XK),fd.code=gJ->jr k (A.deeper (envOfC fL (a8 st) s.heap.objs.size f gJ)) ->
   SB (BK (kP P w) P w K mg base N fL (a8 st) f gJ A outer s H E) (iN st) g):eY P w K mg base (kP P w) (k+1) f fd ps (md K mg n (dZ N.length g)):=by
 obtain⟨oc,od,kV,uL,pm,an,gJ,ct,ND,rfl,lk,um⟩:=F.ex
 refine RF lk um S (fun vs H Q E h=>by rw[hn];exact h.1) fun A outer s H vs Q E hr Nx=>?_
 obtain⟨hl,μ,ws,Uy,Sr,r,h⟩:=Nx
 refine⟨_,(AU gJ A outer s H E rfl hr).h,μ,ws.map some++List.replicate (N.length-ws.length) none,Uy,⟨?_,Sr⟩,?_⟩
 ·unfold tH
  rw[<- r.len]
  have base:∀(ws:List W) (vs:List V) (m:Nat),RelWs K μ H ws vs->Paired (fun(o:Option W) (s:Option V)=>∀w,o=some w->∃v,s=some v/\bK K μ H w v) (ws.map some++List.replicate m none) (vs.map some++List.replicate m none):=by
   intro ws
   induction ws with
   |nil=>
    intro vs m r
    rw[r.nilE]
    induction m with
    |zero=>exact .nil
    |succ m ih=>exact .cons (fun w z=>nomatch z) ih
   |cons w ws ih=>
    intro vs m r
    obtain⟨y,ys,rfl,ry,rys⟩:=r.consE
    exact .cons (fun w' z=>⟨y,rfl,by cases z;exact ry⟩) (ih ys m rys)
  exact base ws vs _ r
 ·unfold dZ at h
  cases e:g (ws.map some++List.replicate (N.length-ws.length) none) Uy with
  |rt w bF=>
   rw[e]at h
   intro μ' v H' p x S' tt
   obtain⟨μ2,p2,S2,r2⟩:=u9 Sr S' p (.consI tt .nilI)
   obtain⟨_,e2,r3⟩:=r2.one
   cases e2
   exact h μ2 v H' p2 x S2 r3
  |nx ρ' bF=>
   rw[e]at h
   intro μ' σ' H' p x l'
   obtain⟨μ2,p2,S2,_⟩:=u9 (ws:=[]) (vs:=[]) Sr l'.sto p .nilI
   exact h μ2 .non H' p2 x S2 .non
  |ex c ρ' bF=>
   rw[e]at h
   intro ai μ' σ' H' ev s' p x l' fl
   obtain⟨μ2,p2,S2,_⟩:=u9 (ws:=[]) (vs:=[]) Sr l'.sto p .nilI
   exact fl.leaves rfl rfl fl.inv.ok.frames rfl fun C hC=>h C μ2 H' hC p2 x S2
  |bk ρ' bF=>rw[e]at h;exact h.elim
  |ct ρ' bF=>rw[e]at h;exact h.elim
  |bad=>rw[e]at h;exact h.elim
theorem cS{w:World}{st:Stmt}{f:Addr}{N:List Str}{k:Nat}{g:FS}(F:j9 K x fL st f fd)(S:bJ N ps (a8 st))(hn:ps.length=n)
  (AU:∀(gJ:Value) (A:Around) (outer:List Env) (s:Shared) (H:Hp) (E:XK),jr k (A.deeper (envOfC fL (a8 st) s.heap.objs.size f gJ)) ->
   SB (BK (kP P w) P w K mg base N fL (a8 st) f gJ A outer s H E) (iN st) g):eY P w K mg base (kP P w) (k+1) f fd ps (md K mg n (dZ N.length g)):=K8 F S hn fun gJ A outer s H E _ hr=>AU gJ A outer s H E hr
theorem jM{w:World}{k:Nat}{st:Stmt}{f:Addr}{ps:List Str}
  (F:j9 K x x st f fd) (hm:mg x=some (.ref f)) (hn:ps.length=n)
  (hb:∀(kV uL pm:Value) (an:Option Addr) (gJ ct:Value) (us:List Value),us.length=ps.length->bindArgs (fnOf x x (jK st) (iN st) (a8 st) .none kV uL pm an gJ ct) ⟨us,[]⟩=pure (ps.zip us))
  (ok:eY P w K mg base (kP P w) k f fd ps (md K mg n G)):cG P w K mg base k x n G:=⟨f,fd,ps,hm,F.kp,hn,F.binds hb,ok⟩
end L2
namespace L2
open PySem PySem.Spec PyProof.Rows
theorem RelWs.split:∀{as bs:List W} {vs:List V},RelWs K μ H (as++bs) vs->∃xs ys,vs=xs++ys/\RelWs K μ H as xs/\RelWs K μ H bs ys
 |[],_,vs,r=>⟨[],vs,rfl,.nilI,r⟩
 |w::as,bs,vs,r=>by
  obtain⟨x,xs,rfl,rx,rs⟩:=r.consE
  obtain⟨ys,zs,rfl,r1,r2⟩:=RelWs.split rs
  exact⟨x::ys,zs,rfl,.consI rx r1,r2⟩
section
variable{a b c:Expr}{fo:FE}{fs:FA}{id:String}
structure OE(X:Cx)(id:String)(F:W->List W->List al->R W):Prop where
 h:EH X id (fun x vs H Q=>∃μ st wx ws,iW X.K X.mg μ st H/\bK X.K μ H wx x/\RelWs X.K μ H ws vs/\Fy X μ H Q (F wx ws st))
 n:∀x ws st,rH (F x ws st)
def mC(st:List al):W->Bool
 |.loc n=>(match st[n]? with|some (.lst _)=>true|_=>false)
 |_=>false
def wO:W->Bool
 |.str _=>true
 |_=>false
theorem zL{w:W}{v:V}(S:iW X.K X.mg μ st H)(r:bK X.K μ H w v)(h:mC st w=true):∃l ys,v=.ref l/\H l=some (.lst ys):=by
 cases w with
 |loc n=>
  obtain⟨a,ha,rfl⟩:=r.locE
  simp only[mC]at h
  cases e1:st[n]? with
  |none=>rw[e1]at h;cases h
  |some cc=>
   rw[e1]at h
   cases cc with
   |lst ws=>obtain⟨a1,g1,vs,k1,_⟩:=S.get e1;rw[ha]at g1;cases g1;exact⟨_,vs,rfl,k1⟩
   |_=>cases h
 |_=>cases h
def lJ(F:W->List W->List al->R W)(fo:FE)(fs:FA):FE:=fun ρ st=>(fo ρ st).bind fun x st=>if mC st x then(fs ρ st).bind fun ws st=>F x ws st else .bad
def BA(F:W->List W->List al->R W)(fo:FE)(fs:FA):FE:=fun ρ st=>(fo ρ st).bind fun x st=>if wO x then(fs ρ st).bind fun ws st=>F x ws st else .bad
theorem me{F:W->List W->List al->R W}(slot:Slot "list" name id)(Bu:typeOf (.builtin id)=pure (.type "method_descriptor"))(hm:OE X id F)(ho:SE X o fo)(ha:SA X (e::es) fs)
  (ji:attributeBase o name X.env (eval o X.env)=eval o X.env:=by rfl)
  (qW:((backTo dD (starEach (e::es) X.env)).all (fun x=>!x.1)&&(backToKw dD (keywordEach [] X.env)).all (fun x=>x.1.isSome)
   && decide #[19])=true:=by rfl)
  (j4:(gH.endLine==dD.line)=true:=by rfl) (hs:starEach (e::es) X.env=(false,eval e X.env)::starEach es X.env:=by rfl) (no:(backTo dD (starEach es X.env)).any (·.1)=false:=by rfl) :
  SE X (.Call (.Attribute o name gH) (e::es) [] dD) (lJ F fo fs):=⟨(RZ slot Bu hm.h ho.h ha.h ji qW j4 hs no).imp fun σ H Q h=>by
 walk_at "2"
 walk_at "1"
 by_cases c:mC st1 x=true
 ·rw[aC c]at h1
  refine⟨zL l1.sto q1 c,μ1,ρ,st1,l1,RK.bind h1 l1 fun μ2 cT ws vs H2 p2 x2 l2 q2 h2=>?_⟩
  exact⟨μ2,cT,x,ws,l2.sto,q1.mono p2 x2,q2,oD h2 (hm.n _ _ _)⟩
 ·rw[aJ c]at h1;exact h1.elim⟩
theorem tQ{F:W->List W->List al->R W}(slot:Slot "list" name id)(Bu:typeOf (.builtin id)=pure (.type "method_descriptor"))(hm:OE X id F)(ho:SE X o fo)
  (ji:attributeBase o name X.env (eval o X.env)=eval o X.env:=by rfl) (j4:(gH.endLine==dD.line)=true:=by rfl):SE X (.Call (.Attribute o name gH) [] [] dD) (lJ F fo aK):=⟨(Oq slot Bu hm.h ho.h ji j4).imp fun σ H Q h=>by
 walk_at "2"
 walk_at "1"
 by_cases c:mC st1 x=true
 ·rw[aC c]at h1
  exact⟨zL l1.sto q1 c,μ1,st1,x,[],l1.sto,q1,.nilI,oD h1 (hm.n _ _ _)⟩
 ·rw[aJ c]at h1;exact h1.elim⟩
theorem we{F:W->List W->List al->R W}(slot:Slot "str" name id)(Bu:typeOf (.builtin id)=pure (.type "method_descriptor"))(hm:OE X id F)(ho:SE X o fo)(ha:SA X (e::es) fs)
  (ji:attributeBase o name X.env (eval o X.env)=eval o X.env:=by rfl)
  (qW:((backTo dD (starEach (e::es) X.env)).all (fun x=>!x.1)&&(backToKw dD (keywordEach [] X.env)).all (fun x=>x.1.isSome)
   && decide #[19])=true:=by rfl)
  (j4:(gH.endLine==dD.line)=true:=by rfl) (hs:starEach (e::es) X.env=(false,eval e X.env)::starEach es X.env:=by rfl) (no:(backTo dD (starEach es X.env)).any (·.1)=false:=by rfl) :
  SE X (.Call (.Attribute o name gH) (e::es) [] dD) (BA F fo fs):=⟨(R0 slot Bu hm.h ho.h ha.h ji qW j4 hs no).imp fun σ H Q h=>by
 walk_at "2"
 walk_at "1"
 cases x with
 |str z=>
  rw[aC (show wO (W.str z)=true from rfl)]at h1
  refine⟨⟨z,q1.strE⟩,μ1,ρ,st1,l1,RK.bind h1 l1 fun μ2 cT ws vs H2 p2 x2 l2 q2 h2=>?_⟩
  exact⟨μ2,cT,_,ws,l2.sto,q1.mono p2 x2,q2,oD h2 (hm.n _ _ _)⟩
 |_=>exact h1.elim⟩
def bO(x:W)(ws:List W)(st:List al):R W:=match x,ws with
 |.loc n,[y]=>(match st[n]? with
  |some (.lst zs)=>if zs.length<kN then .ok .non (st.set n (.lst (zs++[y])))else .bad
  |_=>.bad)
 |_,_=>.bad
theorem c7:OE X "list.append" bO:=⟨fun ai s σ H x vs v us Q I rv rus zq=>by
 obtain⟨μ,st,wx,ws,S,rx,rs,q⟩:=zq
 unfold bO at q
 split at q
 ·rename_i n y
  obtain⟨y1,rfl,ry⟩:=rs.one
  split at q
  ·rename_i zs e1
   split at q
   ·rename_i c
    obtain⟨a1,g1,vs,k1,r⟩:=S.get e1
    obtain⟨b1,f1,rfl⟩:=rx.locE
    rw[g1]at f1;cases f1
    refine BX ai s σ H _ _ v us Q I rv rus ⟨a1,vs,y1,rfl,rfl,k1,by rw[<- r.len];exact Ow (fW c),fun H2 e=>?_⟩
    subst e
    exact q μ _ _ (au _) (ic.but mW k1) (S.set e1 g1 k1 (r.app (.consI ry .nilI))) .non
   ·exact q.elim
  ·exact q.elim
 ·exact q.elim,fun x ws st=>by
 unfold bO
 repeat' split
 all_goals trivial⟩
def p9(x:W)(ws:List W)(st:List al):R W:=match x,ws with
 |.loc n,[]=>(match st[n]? with
  |some (.lst zs)=>ut zs.getLast? fun w=>.ok w (st.set n (.lst zs.dropLast))
  |_=>.bad)
 |_,_=>.bad
theorem oJ:OE X "list.pop" p9:=⟨fun ai s σ H x vs v us Q I rv rus zq=>by
 obtain⟨μ,st,wx,ws,S,rx,rs,q⟩:=zq
 unfold p9 at q
 split at q
 ·rename_i n
  have e0:=rs.nilE
  subst e0
  split at q
  ·rename_i zs e1
   obtain⟨a1,g1,vs,k1,r⟩:=S.get e1
   obtain⟨b1,f1,rfl⟩:=rx.locE
   rw[g1]at f1;cases f1
   cases hl:zs.getLast? with
   |none=>rw[hl]at q;exact q.elim
   |some w=>
    rw[hl]at q
    have hz:zs=zs.dropLast++[w]:=by
     obtain⟨ys,rfl⟩:=List.getLast?_eq_some_iff.mp hl
     simp
    rw[hz]at r
    obtain⟨xs',Ue,hx,r1,r3⟩:=r.split
    obtain⟨y',rfl,r2⟩:=r3.one
    refine KQ ai s σ H _ _ v us Q I rv rus ⟨a1,xs',y',rfl,rfl,by rw[<- hx];exact k1,fun H2 e=>?_⟩
    subst e
    have xx:fw X.K H (eG H a1 (.lst xs')):=ic.but mW k1
    exact q μ _ _ (au _) xx (S.set e1 g1 k1 r1) (r2.mono (au _) xx)
  ·exact q.elim
 ·exact q.elim,fun x ws st=>by
 unfold p9 ut
 repeat' split
 all_goals trivial⟩
def nM:List W->Option (List (List Nat))
 |[]=>some []
 |.str l::ws=>(nM ws).map (l :: ·)
 |_=>none
theorem u_:∀{ws:List W} {ls:List (List Nat)} {vs:List V},nM ws=some ls->RelWs K μ H ws vs->vs=ls.map fun l=>V.str (tx l)
 |[],ls,vs,h,r=>by simp only[nM]at h;cases h;exact r.nilE
 |w::ws,ls,vs,h,r=>by
  obtain⟨x,xs,rfl,rx,rs⟩:=r.consE
  cases w with
  |str l=>
   simp only[nM]at h
   cases e:nM ws with
   |none=>rw[e]at h;cases h
   |some ls'=>rw[e]at h;cases h;rw[rx.strE,u_ e rs];rfl
  |_=>simp only[nM]at h;cases h
theorem wP(ls:List (List Nat)):nM (ls.map W.str)=some ls:=by
 induction ls with
 |nil=>rfl
 |cons a r ih=>show(nM (r.map W.str)).map (a :: ·)=_;rw[ih];rfl
def kj(x:W)(ws:List W)(st:List al):R W:=match x,ws with
 |.str sep,[.loc n]=>ut (lstOf st n) fun zs=>ut (nM zs) fun ls=>if (ls.map List.length).sum+ls.length*sep.length<=kN then .ok (.str (kM sep ls)) st else .bad
 |_,_=>.bad
theorem lK:OE X "str.join" kj:=⟨fun ai s σ H x vs v us Q I rv rus zq=>by
 obtain⟨μ,st,wx,ws,S,rx,rs,q⟩:=zq
 unfold kj at q
 split at q
 ·rename_i sep n
  obtain⟨y1,rfl,ry⟩:=rs.one
  cases e1:lstOf st n with
  |none=>rw[e1]at q;exact q.elim
  |some zs=>
   rw[e1,dY]at q
   cases e2:nM zs with
   |none=>rw[e2]at q;exact q.elim
   |some ls=>
    rw[e2,dY]at q
    split at q
    ·rename_i c
     obtain⟨a,vs,g,hS,r⟩:=S.lstOf e1
     obtain⟨b1,f1,rfl⟩:=ry.locE
     rw[g]at f1;cases f1
     have:=u_ e2 r
     subst this
     exact KO ai s σ H _ _ v us Q I rv rus ⟨sep,_,ls,rx.strE,rfl,hS,aH c #[1],rM S q⟩
    ·exact q.elim
 ·exact q.elim,fun x ws st=>by
 unfold kj
 split
 ·exact qg fun _=>qg fun _=>by split<;>trivial
 ·trivial⟩
end
def va(cap:List (Option Nat))(ρ:cv):cv:=cap.map fun o=>o.bind fun j=>(ρ[j]?).join
theorem So(r:Paired (fun(o:Option W) (s:Option V)=>∀w,o=some w->∃v,s=some v/\bK X.K μ H w v) ρ σ):∀cap:List (Option Nat),
  Paired (fun(o:Option W) (s:Option V)=>∀w,o=some w->∃v,s=some v/\bK X.K μ H w v) (va cap ρ) (qd cap σ)
 |[]=>.nil
 |o::cap=>by
  refine .cons (fun w e=>?_) (So r cap)
  cases o with
  |none=>cases e
  |some j=>
   have e':(ρ[j]?).join=some w:=e
   have e2:ρ[j]?=some (some w):=by
    cases h:ρ[j]? with
    |none=>rw[h]at e';cases e'
    |some ow=>rw[h]at e';simp at e';rw[e']
   obtain⟨v,g1,g2⟩:=u4 r e2
   exact⟨v,by show(σ[j]?).join=some v;rw[g1];rfl,g2⟩
open Classical in
def nN(f:FG)(t:FT)(el:FE)(ck:Option (Nat×List W))(ρ0:cv):List W->List W->List al->R (List W)
 |[],gg,st=>if jd st ck then .ok gg st else .bad
 |w::ws,gg,st=>if jd st ck then(match f w ρ0 with
  |none=>.bad
  |some ρ'=>(match t ρ' st with
   |.ok true st1=>(match el ρ' st1 with
    |.ok y cT=>nN f t el ck ρ0 ws (gg++[y]) cT
    |_=>.bad)
   |.ok false st1=>nN f t el ck ρ0 ws gg st1
   |_=>.bad))else .bad
def gj(cap:List (Option Nat))(fi:FI)(f:FG)(t:FT)(el:FE):FE:=fun ρ st=>(fi ρ st).bind fun k st=>if k.1.length<=kN then(nN f t el k.2 (va cap ρ) k.1 [] st).bind fun ys st=>nJ ys st else .bad
def Ut(X:Cx)(rel:List Addr->Hp->α->β->Prop)(f:cv->List al->R α)(σ:St)(H:Hp)(Q:β->Hp->Prop):Prop:=
 ∃μ ρ st a bF,Rl X μ ρ st σ H/\f ρ st=.ok a bF/\∀μ' b H',μ <+: μ'->fw X.K H H'->iW X.K X.mg μ' bF H'->rel μ' H' a b->Q b H'
def m9:FT:=fun _ st=>.ok true st
structure Sq(X:Cx)(es:List Expr)(f:FT):Prop where
 h:Ga X es (tT X f)
theorem Ga.imp{e:List Expr}{t t':TT}(h:Ga X e t)(i:∀σ H Q,t' σ H Q->t σ H Q):Ga X e t':=fun ai s σ H Q I q=>h ai s σ H Q I (i _ _ _ q)
theorem jN:Sq X [] m9:=⟨KJ.imp fun σ H Q h=>by
 walk_at "2"
 exact h μ true H (au _) fw.refl l.sto rfl⟩
theorem uu{c:Expr}(hc:ST X c t):Sq X [c] t:=⟨KL hc.h⟩
theorem GN{f:FG}{Q:VK}(h:tE X (gj cap fi f t el) σ H Q) :
  uR cap (fun σ H R=>tG X (Sm X) fi σ H R) (Ur X f) (Ut X Ox t) (Ut X (wa X) el) σ H Q:=by
 walk_at "2"
 refine⟨μ,ρ,st,l,RK.bind h l fun μ1 st1 k J H1 p1 x1 l1 wk h1=>?_⟩
 by_cases hz:k.1.length<=kN
 ·rw[aC hz]at h1
  refine⟨fun i m ys H'=>i<=k.1.length/\m=k.1.length-i/\ys.length<=i/\∃μ' gg bF,μ1 <+: μ'/\fw X.K H1 H'/\Rl X μ' ρ bF σ H'/\RelWs X.K μ' H' gg ys/\RK X (wa X) μ' σ H' Q ((nN f t el k.2 (va cap ρ) (k.1.drop i) gg bF).bind fun ys st=>nJ ys st),
   ⟨_,bU _,rfl,ay _,μ1,[],st1,au _,fw.refl,l1,.nilI,h1⟩,?_⟩
  rintro i m ys H' ⟨hi,rfl,hy,μ',gg,bF,pm,xm,lm,ra,hm⟩
  by_cases hlt:i<k.1.length
  ·rw[ip hlt]at hm
   unfold nN at hm
   by_cases ck:jd bF k.2
   ·rw[aC ck]at hm
    obtain⟨go,yld⟩:=(wk i μ' bF H' pm xm lm.sto ck).1 _ (aq hlt)
    refine .inr ⟨go,fun x H2 hy2=>?_⟩
    obtain⟨y1,y2,y3⟩:=yld x H2 hy2
    cases hf:f k.1[i] (va cap ρ)with
    |none=>rw[hf]at hm;exact hm.elim
    |some ρ2=>
     rw[hf]at hm
     simp only at hm
     have lb:Rl X μ' (va cap ρ) bF (qd cap σ) H2:=⟨So (lm.to (au _) y1 y2).env cap,y2⟩
     refine⟨μ',va cap ρ,bF,k.1[i],ρ2,lb,y3,hf,fun σ2 l2=>?_⟩
     cases ht:t ρ2 bF with
     |bad=>rw[ht]at hm;exact hm.elim
     |ex c s=>rw[ht]at hm;exact hm.elim
     |ok kk cT=>
      rw[ht]at hm
      refine⟨μ',ρ2,bF,kk,cT,l2,ht,fun μ3 b3 H3 p3 x3 S3 q3=>?_⟩
      cases q3
      cases kk with
      |false=>
       exact⟨_,by omega,hlt,rfl,by omega,μ3,gg,cT,pm.trans p3,xm.trans (y1.trans x3),lm.to p3 (y1.trans x3) S3,ra.mono p3 (y1.trans x3),RK.mono hm p3 (y1.trans x3)⟩
      |true=>
       rw[aC rfl]
       simp only at hm
       cases he:el ρ2 cT with
       |bad=>rw[he]at hm;exact hm.elim
       |ex c s=>rw[he]at hm;exact hm.elim
       |ok w j_=>
        rw[he]at hm
        refine⟨μ3,ρ2,cT,w,j_,l2.to p3 x3 S3,he,fun μ4 b4 H4 p4 x4 S4 q4=>?_⟩
        have pp:=p3.trans p4
        have xx:=y1.trans (x3.trans x4)
        exact⟨eK hy (aS hlt (oB hz)),_,by omega,hlt,rfl,by simp;omega,μ4,gg++[w],j_,pm.trans pp,xm.trans xx,lm.to pp xx S4,(ra.mono pp xx).app (.consI q4 .nilI),RK.mono hm pp xx⟩
   ·rw[aJ ck]at hm;exact hm.elim
  ·have hi':i=k.1.length:=by omega
   subst hi'
   rw[nD (ay _)]at hm
   unfold nN at hm
   by_cases ck:jd bF k.2
   ·rw[aC ck]at hm
    obtain⟨z1,z2⟩:=u7 lm.sto ra hm
    exact .inl ⟨(wk _ μ' bF H' pm xm lm.sto ck).2 (ay _),z1,fun p hp=>z2 p _ hp rfl⟩
   ·rw[aJ ck]at hm;exact hm.elim
 ·rw[aJ hz]at h1;exact h1.elim
section
variable{f:FG}
theorem VT{X X':Cx}{f:FE}(hK:X'.K=X.K)(hm:X'.mg=X.mg)(h:SE X' e f):QE X' e (Ut X (wa X) f):=⟨h.h.imp fun σ H Q ⟨μ,ρ,st,a,bF,l,e,q⟩=>⟨μ,ρ,st,⟨by rw[hK];exact l.env,by rw[hK,hm];exact l.sto⟩,by rw[e];exact fun μ' b H' p x S r=>q μ' b H' p (by rw[<- hK];exact x) (by rw[<- hK,<- hm];exact S) (by show bK X.K μ' H' a b;rw[<- hK];exact r)⟩⟩
theorem VU{X X':Cx}{e:List Expr}{f:FT}(hK:X'.K=X.K)(hm:X'.mg=X.mg)(h:Sq X' e f):U3 X' e (Ut X Ox f):=⟨h.h.imp fun σ H Q ⟨μ,ρ,st,a,bF,l,e,q⟩=>⟨μ,ρ,st,⟨by rw[hK];exact l.env,by rw[hK,hm];exact l.sto⟩,by rw[e];exact fun μ' b H' p x S r=>q μ' b H' p (by rw[<- hK];exact x) (by rw[<- hK,<- hm];exact S) r⟩⟩
theorem VV{X X':Cx}(hK:X'.K=X.K)(hm:X'.mg=X.mg)(h:SG X' e f):QG X' e (Ur X f):=⟨h.h.imp fun v σ H Q ⟨μ,ρ,st,w,ρ',l,r,e,q⟩=>⟨μ,ρ,st,w,ρ',⟨by rw[hK];exact l.env,by rw[hK,hm];exact l.sto⟩,by rw[hK];exact r,e,fun σ' l'=>q σ' ⟨by rw[<- hK];exact l'.env,by rw[<- hK,<- hm];exact l'.sto⟩⟩⟩
theorem kQ(hB:EQ X.env.scope.names scope.names nm cap X.N=true)(qZ:X.env.cells=cellsFrom m X.env.scope.names [])(hi:SI X tg d3 fi)(hg:∀cl C s0 H0 fp,SG #[8] tg f)(ht:∀cl C s0 H0 fp,Sq #[8] mU t)
  (he:∀cl C s0 H0 fp,SE #[8] rh el) (jw:X.calm=true:=by rfl) (jx:scope.kind=.function:=by rfl) (hs:∀x,foldedSetIterable d3 X.env x=pure x:=by intro _;rfl) :
  SE X #[11] (gj cap fi f t el):=
 ⟨(Ot jw qZ jx hB ⟨hi.h⟩ (fun cl C s0 H0 fp=>VV (X:=X) rfl rfl (hg cl C s0 H0 fp)) (fun cl C s0 H0 fp=>VU (X:=X) rfl rfl (ht cl C s0 H0 fp)) (fun cl C s0 H0 fp=>VT (X:=X) rfl rfl (he cl C s0 H0 fp)) hs).h.imp fun _ _ _ h=>GN h⟩
theorem qK{x0:Str}{p0 p1:Pos}(T3:SG X (.Name x0 p0) (g8 i))(hB:EQ X.env.scope.names scope.names nm cap X.N=true)(qZ:X.env.cells=cellsFrom m X.env.scope.names [])(hi:SI X tg d3 fi)(hg:∀cl C s0 H0 fp,SG #[8] tg f)(ht:∀cl C s0 H0 fp,Sq #[8] mU t)
  (he:∀cl C s0 H0 fp,SE #[8] rh el) (jw:X.calm=true:=by rfl) (jx:scope.kind=.function:=by rfl) (hs:∀x,foldedSetIterable d3 X.env x=pure x:=by intro _;rfl)
  (TX:swapsWith #[11] (some (.Name x0 p0)) p1.line X.env=pure true:=by first|rfl|kernel_rfl) :
  SS X (.Assign [.Name x0 p0] #[11] p1) (E2 (gj cap fi f t el) (g8 i)):=
 ⟨(B3 ⟨T3.h⟩ jw qZ jx hB ⟨hi.h⟩ (fun cl C s0 H0 fp=>VV (X:=X) rfl rfl (hg cl C s0 H0 fp)) (fun cl C s0 H0 fp=>VU (X:=X) rfl rfl (ht cl C s0 H0 fp)) (fun cl C s0 H0 fp=>VT (X:=X) rfl rfl (he cl C s0 H0 fp)) hs TX).h.imp fun D σ H h=>by
  walk_at "2"
  have h':tE X (gj cap fi f t el) σ H fun x H1=>Ur X (g8 i) x σ H1 D.nx:=⟨μ,ρ,st,l,RK.stmt h l fun μ1 st1 x v H1 p1 x1 l1 q1 h1=>⟨μ1,ρ,st1,x,ρ.set i (some x),l1,q1,rfl,fun σ' l'=>h1 μ1 σ' H1 (au _) fw.refl l'⟩⟩
  exact GN h'⟩
end
section
variable{a b c:Expr}{fc fo:FE}{fs:FA}
theorem wQ{nq:List V}(hr:∀μ H,RelWs X.K μ H ws nq):B_ X (RU nq) (ws,none) μ H:=fun i μ' bF H' pp xx S _=>by
 have hl:ws.length=nq.length:=(hr μ H).len
 refine⟨fun w hw=>?_,fun h=>by show nq.length<=i;rw[<- hl];exact h⟩
 obtain⟨v,g1,g2⟩:=(hr μ' H').get hw
 refine⟨(aj.mp g1).1,fun y H'' hy=>?_⟩
 obtain⟨rfl,hy⟩:=hy
 rw[g1]at hy;cases hy
 exact⟨fw.refl,S,g2⟩
def dG(l:List Nat):List W:=l.map fun c=>.str [c]
theorem wR(l:List Nat)(μ:List Addr)(H:Hp):RelWs X.K μ H (dG l) (jb l):=by
 induction l with
 |nil=>exact .nilI
 |cons a r ih=>exact .consI .str ih
def Mw(fe:FE):FI:=fun ρ st=>(fe ρ st).bind fun x st=>match x with
 |.str l=>.ok (dG l,none) st
 |_=>.bad
theorem OF(he:SE X e fe):SI X tg e (Mw fe):=⟨(On he.h).imp fun σ H R h=>by
 walk_at "2"
 walk_at "1"
 cases x with
 |str z=>exact⟨z,q1.strE,h1 μ1 _ H1 (au _) fw.refl l1.sto (wQ (wR z))⟩
 |_=>exact h1.elim⟩
def dz(fe:FE):FI:=fun ρ st=>(fe ρ st).bind fun x st=>match x with
 |.tup ws=>.ok (ws,none) st
 |.loc n=>(match lstOf st n with
  |some ws=>.ok (ws,some (n,ws)) st
  |none=>.bad)
 |.str l=>.ok (dG l,none) st
 |_=>.bad
theorem gs(he:SE X e fe):SI X tg e (dz fe):=⟨fun ai s σ H Rr I h=>by
 walk_at "2"
 cases e1:fe ρ st with
 |bad=>simp only[dz,e1,R.bind_bad]at h;exact h.elim
 |ex c st1=>
  refine(GM (tg:=tg) he).h ai s σ H Rr I ⟨μ,ρ,st,l,?_⟩
  simp only[dz,GL,e1,R.bind_ex]at h ⊢;exact h
 |ok w st1=>
  cases w with
  |tup ws=>
   refine(GM (tg:=tg) he).h ai s σ H Rr I ⟨μ,ρ,st,l,?_⟩
   simp only[dz,GL,e1,R.bind_ok]at h ⊢;exact h
  |loc n=>
   refine(OD (tg:=tg) he).h ai s σ H Rr I ⟨μ,ρ,st,l,?_⟩
   simp only[dz,Mu,e1,R.bind_ok]at h ⊢;exact h
  |str z=>
   refine(OF (tg:=tg) he).h ai s σ H Rr I ⟨μ,ρ,st,l,?_⟩
   simp only[dz,Mw,e1,R.bind_ok]at h ⊢;exact h
  |_=>simp only[dz,e1,R.bind_ok]at h;exact h.elim⟩
def km(ws:List W):List W:=(List.range ws.length).map fun(i:Nat)=>W.tup [.int i,ws.getD i .non]
theorem pM{w:W}(h:(km ws)[i]?=some w):∃y,ws[i]?=some y/\w=.tup [.int i,y]:=by
 unfold km at h
 rw[aG]at h
 by_cases hi:i<ws.length
 ·rw[cU hi]at h
  refine⟨ws[i],aq hi,?_⟩
  have:=(bn h).symm
  rw[this]
  show W.tup [W.int i,ws.getD i W.non]=_
  rw[aT,aq hi];rfl
 ·rw[bq (by simpa using hi)]at h;cases h
theorem sQ(ws:List W):(km ws).length=ws.length:=by simp[km]
def mf(fs:FA):FI:=fun ρ st=>(fs ρ st).bind fun ws st=>match ws with
 |[.tup zs]=>.ok (km zs,none) st
 |_=>.bad
theorem uv{JF:List Expr}{kk:Nat}{tp:Pos}(hm:X.mg "enumerate"=none)(ha:SA X [a] fs)(hg:Gl X "enumerate":=by rfl)(hs:starEach [a] X.env=[(false,eval a X.env)]:=by rfl) :
  SI X (.Tuple JF kk tp) (.Call (.Name "enumerate" p) [a] [] pos) (mf fs):=⟨(Gm hm ⟨ha.h⟩ hg hs).h.imp fun σ H R h=>by
 walk_at "2"
 walk_at "1"
 split at h1
 ·rename_i zs
  obtain⟨y,rfl,ry⟩:=q1.one
  obtain⟨p,vs,rfl,hS,r⟩:=ry.tupE
  refine⟨p,rfl,⟨vs,hS⟩,h1 μ1 _ H1 (au _) fw.refl l1.sto fun i μ' bF H' pp xx S _=>⟨fun w hw=>?_,fun hl=>⟨vs,xx _ _ hS,by rw[sQ]at hl;rw[<- r.len];exact hl⟩⟩⟩
  obtain⟨y,hy,rfl⟩:=pM hw
  have r':=r.mono pp xx
  obtain⟨v,g1,g2⟩:=r'.get hy
  refine⟨⟨vs,v,xx _ _ hS,g1⟩,fun z H'' hz=>?_⟩
  obtain⟨q,hq,rfl,hH⟩:=hz
  have e:=hH vs v (xx _ _ hS) g1
  subst e
  have ex:=ic.same (K:=X.K) (cY hq (.tup [.int i,v]))
  exact⟨ex,S.same (cY hq _),.tupI ic.new (.consI .int (.consI (g2.mono (au _) ex) .nilI))⟩
 ·exact h1.elim⟩
def qL(f f':W->W->List al->R W)(fa fb fc:FE):FE:=fun ρ st=>(fa ρ st).bind fun x st=>(fb ρ st).bind fun y st=>(f x y st).bind fun z st=>match z with
 |.bl true=>(fc ρ st).bind fun w st=>f' y w st
 |.bl false=>.ok (.bl false) st
 |_=>.bad
theorem K9{Q:VK}(n:∀x y st,rH (f x y st))(n':∀x y st,rH (f' x y st))(h:tE X (qL f f' fa fb fc) σ H Q):F0 (Sd X f) (Sd X f') (tE X fa) (tE X fb) (tE X fc) σ H Q:=by
 walk_at "2"
 refine⟨μ,ρ,st,l,RK.bind h l fun μ1 st1 x v H1 p1 x1 l1 q1 h1=>⟨μ1,ρ,st1,l1,RK.bind h1 l1 fun μ2 cT y u H2 p2 x2 l2 q2 h2=>⟨μ2,cT,x,y,l2.sto,q1.mono p2 x2,q2,oD (σ:=σ) (RK.bind h2 l2 fun μ3 j_ z t H3 p3 x3 l3 q3 h3=>?_) (n _ _ _)⟩⟩⟩
 cases z with
 |bl k=>
  refine⟨k,q3.blE,?_⟩
  cases k with
  |false=>exact h3 μ3 _ H3 (au _) fw.refl l3.sto .bl
  |true=>
   refine⟨μ3,ρ,j_,l3,RK.bind h3 l3 fun μ4 st4 w s H4 p4 x4 l4 q4 h4=>?_⟩
   exact⟨μ4,st4,y,w,l4.sto,(q2.mono p3 x3).mono p4 x4,q4,oD h4 (n' _ _ _)⟩
 |_=>exact h3.elim
theorem K_{QX:CmpOp}(ho:rJ X (compareOp op) f)(t6:rJ X (compareOp QX) f')(ha:SE X a fa)(hb:SE X b fb)(hc:SE X c fc)(hm:lastMarks [op,QX] [b,c]=false:=by with_unfolding_all rfl):SE X (.Compare a [op,QX] [b,c] pos) (qL f f' fa fb fc):=⟨(F1 ho.h t6.h ha.h hb.h hc.h hm).imp fun _ _ _ h=>K9 ho.n t6.n h⟩
def oK(fa:FE):FE:=fun ρ st=>(fa ρ st).bind fun x st=>match x with
 |.int i=>.ok (.int (-i)) st
 |_=>.bad
theorem qh(ha:SE X a fa):SE X (.UnaryOp .USub a pos) (oK fa):=⟨(Rw N_ ha.h).imp fun σ H Q h=>by
 walk_at "2"
 walk_at "1"
 cases x with
 |int k=>exact⟨k,q1.intE,h1 μ1 _ H1 (au _) fw.refl l1.sto .int⟩
 |_=>exact h1.elim⟩
def Cb(x y:W)(st:List al):R W:=match x,y with
 |.int i,.int j=>.ok (.bl (decide (i<=j))) st
 |.str [c],.str [d]=>.ok (.bl (decide (c<=d))) st
 |_,_=>.bad
theorem GO:rJ X (compareOp .LtE) Cb:=⟨fun ai s σ H x y v u Q I rv ru zq=>by
 obtain⟨μ,st,wx,wy,S,rx,ry,q⟩:=zq
 unfold Cb at q
 split at q
 ·exact Rz ai s σ H x y v u Q I rv ru ⟨_,_,rx.intE,ry.intE,jB S q⟩
 ·exact EN ai s σ H x y v u Q I rv ru ⟨_,_,rx.strE,ry.strE,jB S q⟩
 ·exact q.elim,fun x y st=>by unfold Cb;split<;>trivial⟩
end
def yc(c:Nat):List Nat->List Nat
 |[]=>[c]
 |d::r=>if c<d then c::d::r else if c=d then d::r else d::yc c r
def eZ(l:List Nat):List Nat:=l.foldr yc []
theorem vb{x:Nat}:∀{l:List Nat},x∈yc c l↔x=c\/x∈l
 |[]=>by simp[yc]
 |d::r=>by
  unfold yc
  split
  ·simp
  ·split
   ·rename_i h;subst h;simp
   ·simp only[a7,vb]
    constructor
    ·rintro(h|h|h)<;>simp[h]
    ·rintro(h|h|h)<;>simp[h]
theorem Dz:∀{l:List Nat},l.Pairwise (· < ·)->(yc c l).Pairwise (· < ·)
 |[],_=>by simp[yc]
 |d::r,h=>by
  obtain⟨h1,h2⟩:=bZ.mp h
  unfold yc
  split
  ·rename_i hc
   refine bZ.mpr ⟨fun x hx=>?_,h⟩
   rcases a7.mp hx with rfl|hx
   ·exact hc
   ·exact Nat.lt_trans hc (h1 x hx)
  ·split
   ·exact h
   ·rename_i hc hd
    refine bZ.mpr ⟨fun x hx=>?_,Dz h2⟩
    rcases vb.mp hx with rfl|hx
    ·omega
    ·exact h1 x hx
theorem e5{x:Nat}:x∈eZ l↔x∈l:=by
 induction l with
 |nil=>simp[eZ]
 |cons a r ih=>show x∈yc a (eZ r)↔_;rw[vb,ih];simp
theorem jW(l:List Nat):(eZ l).Pairwise (· < ·):=by
 induction l with
 |nil=>exact List.Pairwise.nil
 |cons a r ih=>exact Dz ih
theorem GP:∀{l m:List Nat},l.Pairwise (· < ·)->m.Pairwise (· < ·)->(∀x,x∈l↔x∈m)->l=m
 |[],[],_,_,_=>rfl
 |[],b::m,_,_,h=>by have:=(h b).mpr (by simp);simp at this
 |a::l,[],_,_,h=>by have:=(h a).mp (by simp);simp at this
 |a::l,b::m,h1,h2,h=>by
  obtain⟨p1,p2⟩:=bZ.mp h1
  obtain⟨q1,q2⟩:=bZ.mp h2
  have e:a=b:=by
   rcases a7.mp ((h a).mp #[18])with z|z
   ·exact z
   ·rcases a7.mp ((h b).mpr #[18])with y|y
    ·exact y.symm
    ·have:=p1 b y;have:=q1 a z;omega
  subst e
  rw[GP p2 q2 fun x=>?_]
  constructor
  ·intro hx
   rcases a7.mp ((h x).mp (bi _ hx))with z|z
   ·subst z;exact absurd (p1 x hx) (dh _)
   ·exact z
  ·intro hx
   rcases a7.mp ((h x).mpr (bi _ hx))with z|z
   ·subst z;exact absurd (q1 x hx) (dh _)
   ·exact z
def Cc(c:List Nat):List (List Nat)->List (List Nat)
 |[]=>[c]
 |d::r=>if c<d then c::d::r else d::Cc c r
def lL(l:List (List Nat)):List (List Nat):=l.foldr Cc []
theorem sR(c:List Nat):∀l:List (List Nat),(Cc c l).Perm (c::l)
 |[]=>ii _
 |d::r=>by
  unfold Cc
  split
  ·exact ii _
  ·exact((sR c r).cons d).trans (List.Perm.swap c d r)
theorem iX(l:List (List Nat)):(lL l).Perm l:=by
 induction l with
 |nil=>exact ii _
 |cons a r ih=>exact(sR a _).trans (ih.cons a)
def K':List (List Nat)->Prop:=List.Pairwise fun a b=>¬ b<a
theorem DA(c:List Nat):∀{l:List (List Nat)},K' l->K' (Cc c l)
 |[],_=>by simp[Cc,K']
 |d::r,h=>by
  obtain⟨h1,h2⟩:=bZ.mp h
  unfold Cc
  split
  ·rename_i hc
   refine bZ.mpr ⟨fun x hx=>?_,h⟩
   rcases a7.mp hx with rfl|hx
   ·exact fun z=>List.lt_irrefl _ (List.lt_trans z hc)
   ·exact fun z=>h1 x hx (List.lt_trans z hc)
  ·rename_i hc
   refine bZ.mpr ⟨fun x hx=>?_,DA c h2⟩
   rcases a7.mp ((sR c r).mem_iff.mp hx)with rfl|hx
   ·exact hc
   ·exact h1 x hx
theorem zM(l:List (List Nat)):K' (lL l):=by
 induction l with
 |nil=>exact List.Pairwise.nil
 |cons a r ih=>exact DA a ih
theorem yd:∀{l m:List (List Nat)},K' l->K' m->l.Perm m->l=m
 |[],m,_,_,h=>(List.Perm.nil_eq h)
 |a::l,[],_,_,h=>(by have:=h.length_eq;simp at this)
 |a::l,b::m,h1,h2,h=>by
  obtain⟨p1,p2⟩:=bZ.mp h1
  obtain⟨q1,q2⟩:=bZ.mp h2
  have e:a=b:=by
   rcases a7.mp (h.mem_iff.mp (by simp:a∈a::l))with z|z
   ·exact z
   ·rcases a7.mp (h.mem_iff.mpr (by simp:b∈b::m))with y|y
    ·exact y.symm
    ·exact List.le_antisymm (show a<=b from p1 b y) (show b<=a from q1 a z)
  subst e
  rw[yd p2 q2 (List.perm_cons a |>.mp h)]
theorem vc:∀{zs:List (List Nat)},sortedS (zs.map tx)=true->K' zs:=by
 have key:∀(zs:List (List Nat)) (p:List Nat),risingS (tx p) (zs.map tx)=true->K' (p::zs):=by
  intro zs
  induction zs with
  |nil=>intro p _;simp[K']
  |cons a r ih=>
   intro p h
   have h':(!ltCps a p&&risingS (tx a) (r.map tx))=true:=h
   rw[cO,fY,ltCps_eq,decide_eq_false_iff_not]at h'
   have u:=ih a h'.2
   refine bZ.mpr ⟨fun x hx=>?_,u⟩
   rcases a7.mp hx with rfl|hx
   ·exact h'.1
   ·have:=(bZ.mp u).1 x hx
    exact List.not_lt.mpr (List.le_trans (List.not_lt.mp h'.1) (List.not_lt.mp this))
 intro zs h
 cases zs with
 |nil=>exact List.Pairwise.nil
 |cons a r=>exact key r a h
section
variable{a b c:Expr}{fc fo:FE}{fs:FA}
def pN(ws:List W)(st:List al):R W:=match ws with
 |[.loc n]=>ut (lstOf st n) fun zs=>ut (nM zs) fun ls=>if ls.length<64 then .ok (.loc st.length) (st++[.lst ((lL ls).map W.str)])else .bad
 |_=>.bad
theorem zN(ls:List (List Nat)):RelWs K μ H (ls.map W.str) (ls.map fun l=>V.str (tx l)):=by
 induction ls with
 |nil=>exact .nilI
 |cons a r ih=>exact .consI .str ih
theorem zO:rN X (.builtin "sorted") pN:=⟨fun ai s σ H vs us Q I rv zq=>by
 obtain⟨μ,st,ws,S,r,q⟩:=zq
 unfold pN at q
 split at q
 ·rename_i n
  obtain⟨y,rfl,ry⟩:=r.one
  cases e1:lstOf st n with
  |none=>rw[e1]at q;exact q.elim
  |some zs=>
   rw[e1,dY]at q
   cases e2:nM zs with
   |none=>rw[e2]at q;exact q.elim
   |some ls=>
    rw[e2,dY]at q
    split at q
    ·rename_i c
     obtain⟨a,vs,g,hS,rz⟩:=S.lstOf e1
     obtain⟨b1,f1,rfl⟩:=ry.locE
     rw[g]at f1;cases f1
     have:=u_ e2 rz
     subst this
     refine v5.h ai s σ H _ us Q I rv ⟨_,ls,rfl,hS,c,fun zs hp hs l H2 hl eH=>?_⟩
     subst eH
     have ez:zs=lL ls:=yd (vc hs) (zM ls) (hp.trans (iX ls).symm)
     subst ez
     exact q (μ++[l]) _ _ (bR _ _) (ic.same (cY hl _)) (S.newLst hl (zN _)) (mZ S)
    ·exact q.elim
 ·exact q.elim,fun ws st=>by
 unfold pN
 split
 ·exact qg fun _=>qg fun _=>by split<;>trivial
 ·trivial⟩
def kH:List W->Option (List Nat)
 |[]=>some []
 |.str [c]::ws=>(kH ws).map (c :: ·)
 |_=>none
theorem rP:∀{ws:List W} {l:List Nat} {vs:List V},kH ws=some l->RelWs K μ H ws vs->vs=jb l
 |[],l,vs,h,r=>by simp only[kH]at h;cases h;exact r.nilE
 |w::ws,l,vs,h,r=>by
  obtain⟨x,xs,rfl,rx,rs⟩:=r.consE
  unfold kH at h
  split at h
  ·rename_i e;cases e
  ·rename_i c T4 e
   cases e
   cases e2:kH ws with
   |none=>rw[e2]at h;cases h
   |some l'=>rw[e2]at h;cases h;rw[rx.strE,rP e2 rs];rfl
  ·cases h
def rQ:W->Option (List Nat)
 |.str l=>some l
 |.tup ws=>kH ws
 |_=>none
def iD(fe:FE):FE:=fun ρ st=>(fe ρ st).bind fun x st=>ut (rQ x) fun l=>if l.length<4000/\(eZ l).length<64 then .ok #[2] (st++[.lst (dG (eZ l))])else .bad
theorem gZ{m:List Nat}(hm:m.Nodup)(h:∀c∈m,c∈l):m.length<=l.length:=by
 induction m generalizing l with
 |nil=>exact bU _
 |cons a r ih=>
  obtain⟨h1,h2⟩:=iR.mp hm
  have ha:a∈l:=h a #[18]
  have:=ih h2 (l:=l.erase a) fun c hc=>by
   have:c≠a:=fun z=>h1 (z▸hc)
   exact(List.mem_erase_of_ne this).mpr (h c (bi _ hc))
  rw[List.length_erase_of_mem ha]at this
  have:0<l.length:=List.length_pos_of_mem ha
  simp;omega
theorem pO{p1 p2 QW AZ:Pos}(h1:X.mg "sorted"=none)(h3:X.mg "set"=none)(he:SE X e fe)(hc:X.calm=true:=by rfl)
  (VF:Gl X "sorted":=by rfl) (Ua:Gl X "set":=by rfl) (Ux:starEach [e] X.env=(false,eval e X.env)::starEach [] X.env:=by rfl):SE X (.Call (.Name "sorted" p1) [.Call (.Name "set" p2) [e] [] AZ] [] QW) (iD fe):=⟨(EX h1 h3 ⟨he.h⟩ hc VF Ua Ux).h.imp fun σ H Q h=>by
 walk_at "2"
 walk_at "1"
 cases e1:rQ x with
 |none=>rw[e1]at h1;exact h1.elim
 |some ll=>
  rw[e1,dY]at h1
  split at h1
  ·rename_i c
   refine⟨ll,?_,c.1,fun m hm hsub=>?_,fun m Vx hup hmem a H2 ha eH=>?_⟩
   ·cases x with
    |str z=>cases e1;exact .inl q1.strE
    |tup ws=>obtain⟨p,vs,rfl,hS,r⟩:=q1.tupE;have:=rP e1 r;subst this;exact .inr ⟨p,rfl,hS⟩
    |_=>cases e1
   ·exact eK (gZ hm fun c hc=>e5.mpr (hsub c hc)) c.2
   ·subst eH
    have em:m=eZ ll:=by
     refine GP ((List.Pairwise.and hup Vx).imp fun z=>Nat.lt_of_le_of_ne z.1 z.2) (jW ll) fun x=>?_
     rw[hmem,e5]
    subst em
    exact h1 (μ1++[a]) _ _ (bR _ _) (ic.same (cY ha _)) (l1.sto.newLst ha (wR (X:=X) _ _ _)) (mZ l1.sto)
  ·exact h1.elim⟩
def wf:List W->Option (List Bool)
 |[]=>some []
 |.bl k::ws=>(wf ws).map (k :: ·)
 |_=>none
theorem DB:∀{ws:List W} {ls:List Bool} {vs:List V},wf ws=some ls->RelWs K μ H ws vs->vs=ls.map V.bl
 |[],ls,vs,h,r=>by simp only[wf]at h;cases h;exact r.nilE
 |w::ws,ls,vs,h,r=>by
  obtain⟨x,xs,rfl,rx,rs⟩:=r.consE
  cases w with
  |bl l=>
   simp only[wf]at h
   cases e:wf ws with
   |none=>rw[e]at h;cases h
   |some ls'=>rw[e]at h;cases h;rw[rx.blE,DB e rs];rfl
  |_=>simp only[wf]at h;cases h
def ye(ws:List W)(st:List al):R W:=match ws with
 |[.loc n]=>ut (lstOf st n) fun zs=>ut (wf zs) fun ls=>.ok (.bl (ls.all id)) st
 |_=>.bad
theorem GQ(hc:X.calm=true:=by rfl):rN X (.builtin "all") ye:=⟨fun ai s σ H vs us Q I rv zq=>by
 obtain⟨μ,st,ws,S,r,q⟩:=zq
 unfold ye at q
 split at q
 ·rename_i n
  obtain⟨y,rfl,ry⟩:=r.one
  cases e1:lstOf st n with
  |none=>rw[e1]at q;exact q.elim
  |some zs=>
   rw[e1,dY]at q
   cases e2:wf zs with
   |none=>rw[e2]at q;exact q.elim
   |some ls=>
    rw[e2,dY]at q
    obtain⟨a,vs,g,hS,rz⟩:=S.lstOf e1
    obtain⟨b1,f1,rfl⟩:=ry.locE
    rw[g]at f1;cases f1
    have:=DB e2 rz
    subst this
    exact(R_ hc).h ai s σ H _ us Q I rv ⟨_,ls,rfl,hS,jB S q⟩
 ·exact q.elim,fun ws st=>by
 unfold ye
 split
 ·exact qg fun _=>qg fun _=>trivial
 ·trivial⟩
end
def W.ty:W->Option String
 |.non=>some "NoneType" | .bl _=>some "bool" | .int _=>some "int" | .str _=>some "str" | .tup _=>some "tuple" | .loc _=>none
def La(t T:String):Bool:=(t==T)||(t == "bool" && T == "int")
theorem Ss{K:Frag}(h:Gj T){w:W}{t:String}(hw:w.ty=some t):kitOne K (.type t) (.type T)=some (La t T):=by
 cases w<;>simp only[W.ty]at hw<;>cases hw<;>(rcases h with rfl|rfl|rfl|rfl<;>rfl)
def rR(T:String)(fa:FE):FE:=fun ρ st=>(fa ρ st).bind fun x st=>match x.ty with
 |some t=>.ok (.bl (La t T)) st
 |none=>.bad
section
variable{a b c:Expr}{fc fo:FE}{fs:FA}
theorem qi{xT:Str}(hm:X.mg "isinstance"=none)(hT:X.mg xT=none)(hv:bootBuiltins xT=some (.type T))(ha:SE X a fa)(hk:Gj T:=by first|exact .inl rfl|exact .inr (.inl rfl)|exact .inr (.inr (.inl rfl))|exact .inr (.inr (.inr rfl)))
  (hg:Gl X "isinstance":=by rfl) (Uk:Gl X xT:=by rfl) (hn:xT ≠ "__name__":=by decide) (hd:(xT==("__debug__":Str))=false:=by decide)
  (he:starEach [a,.Name xT p2] X.env=(false,eval a X.env)::starEach [.Name xT p2] X.env:=by rfl) (FF:starEach [.Name xT p2] X.env=(false,eval (.Name xT p2) X.env)::starEach [] X.env:=by rfl) (j':(backTo pos (starEach [.Name xT p2] X.env)).any (·.1)=false:=by rfl) :
  SE X (.Call (.Name "isinstance" p) [a,.Name xT p2] [] pos) (rR T fa):=by
 have C:ja X (.builtin "isinstance") (fun xs H Q=>∃x μ st w t,xs=[x,.ty T]/\iW X.K X.mg μ st H/\bK X.K μ H w x/\w.ty=some t/\Q (.bl (La t T)) H):=by
  intro ai s σ H xs us Q I r h
  obtain⟨x,μ,st,w,t,rfl,S,rx,ht,q⟩:=h
  obtain⟨u,u2,rfl,r1,r2⟩:=cR.two r
  obtain rfl:u2=.type T:=r2
  have e:=Ss (K:=X.K) hk ht
  cases w with
  |tup ws=>
   cases ht
   obtain⟨p,vs,rfl,hS,_⟩:=rx.tupE
   cases(show u=Value.ref p from r1)
   obtain⟨bT,_,hp,_⟩:=I.tuple hS
   obtain⟨o,h1,h2,_⟩:=hp
   exact up (kia_one PySem.W.kitx_tuple I.kIn ⟨o,h1,h2⟩ e (fun z=>nomatch z) fun tk hk=>⟨.bl _,H,I.tok tk,rfl,q⟩)
  |non=>cases ht;cases rx.nonE;exact up (pJ I r1 .non e fun tk hk=>⟨.bl _,H,I.tok tk,rfl,q⟩)
  |bl b=>cases ht;cases rx.blE;exact up (pJ I r1 (.bl _) e fun tk hk=>⟨.bl _,H,I.tok tk,rfl,q⟩)
  |int b=>cases ht;cases rx.intE;exact up (pJ I r1 (.int _) e fun tk hk=>⟨.bl _,H,I.tok tk,rfl,q⟩)
  |str b=>cases ht;cases rx.strE;exact up (pJ I r1 (.str _) e fun tk hk=>⟨.bl _,H,I.tok tk,rfl,q⟩)
  |loc b=>cases ht
 refine⟨(oz C hg hm iS (iM ha.h (iM (Dc Uk hT hv (v:=.ty T) rfl hn hd) oy FF) he) #[1] #[1] he j').imp fun σ H Q h=>?_⟩
 walk_at "2"
 walk_at "1"
 cases ht:x.ty with
 |none=>rw[ht]at h1;exact h1.elim
 |some t=>
  rw[ht]at h1
  exact⟨v,μ1,st1,x,t,rfl,l1.sto,q1,ht,h1 μ1 _ H1 (au _) fw.refl l1.sto .bl⟩
theorem jX{w:World}{k:Nat}{st:Stmt}{f:Addr}{ps:List Str}
  (F:j9 K x x st f fd) (hm:mg x=some (.ref f)) (hn:ps.length=n)
  (hb:∀(kV uL pm:Value) (an:Option Addr) (gJ ct:Value) (us:List Value),us.length=ps.length->bindArgs (fnOf x x (jK st) (iN st) (a8 st) .none kV uL pm an gJ ct) ⟨us,[]⟩=pure (ps.zip us)) :
  cG P w K mg base k x n (fun _ _=>.bad):=jM F hm hn hb ⟨fun vs H Q E h=>by rw[hn];exact h.1,fun _ _ _ _ _ _ _ _ _ _ _ _ _ _ h=>by obtain⟨_,_,_,_,_,_,z⟩:=h;exact z.elim⟩
end
def Mx(F:List W->List al->R W):Prop:=∀ns:List Int,ns.length<=63->∃bF,F [.loc 0] [.ro (ns.map W.int)]=.ok (.bl true) bF
theorem walkW{l:PySem.W.OpenLaw}{k:Nat}{q:Program}{xG:List Str}{d:DefRec}{K:Params->Frag}(hn:l.most=some 63)(T5:d.params.defaults=[])(hr:jr k callerA)
  (hY:∀(w:World) (h:Heap),YP w h->(K w.params).In h)
  (F:∀(w:World) (mg:Str->Option Value) (fa:Addr) (h:Heap),(K w.params).In h->h.Ns mainGlobals mg->mg d.name=some (.ref fa) ->
   ∃fd:FuncData,fd.scope.names.lookup x=some .local/\(∀(s:Shared) (u:Value),BindsTo s fd ⟨[u],[]⟩ [(x,u)])/\∀base:Heap,(K w.params).In base->base.Ns mainGlobals mg->eY l.prog w (K w.params) mg base (kP l.prog w) k fa fd [x] (md (K w.params) mg 1 G))
  (ok:Mx G):PySem.W.WalkO q xG XP YP l.row.toRowW d [] (fun f vs=>PySem.call f vs):=by
 refine L2.walk_of (n:=63) (k:=k) (x:=x) (CX:=fun w=>kP l.prog w)
  (sp:=fun w=>fun vs H Q E=>∃(a:Addr) (ns:List Int),vs=[.ref a]/\sH (K w.params) H a (ns.map V.int)/\KH H/\ns.length<=63/\∀H',Q (.bl true) H') hn #[1] T5 hr hY (fun w mg fa h h1 h2 h3=>?_)
  (fun w H a ns hl hO hS=>⟨a,ns,rfl,hS,hO,hl,fun _=>rfl⟩) fun w H s e s' z=>?_
 ·obtain⟨fd,hlo,hb,ho⟩:=F w mg fa h h1 h2 h3
  refine⟨fd,hlo,hb,fun base kb nb=>(ho base kb nb).imp fun vs H Q E hh=>?_⟩
  obtain⟨a,ns,rfl,hS,hO,hl,q⟩:=hh
  obtain⟨bF,e⟩:=ok ns hl
  have Bs:Uq (K w.params) H a (ns.map V.int):=by
   rcases hS with(z|⟨o,z⟩)|z
   ·rcases hO a with y|⟨o,xs,y⟩
    ·rw[z]at y;cases y
    ·rw[z]at y;cases y
   ·exact .inl ⟨o,z⟩
   ·exact .inr z
  have hr:RelWs (K w.params) [a] H (ns.map W.int) (ns.map V.int):=by
   clear hS Bs e hl
   induction ns with
   |nil=>exact .nilI
   |cons n r ih=>exact .consI .int ih
  refine⟨rfl,[a],[.loc 0],[.ro (ns.map W.int)],⟨fun i j b ci cj c1 c2 r1 r2 m1 m2=>?_,rfl,fun i c b c1 c2=>?_⟩,.consI (.locI rfl) .nilI,?_⟩
  ·cases i with
   |zero=>cases c1;cases r1
   |succ i=>simp at c1
  ·cases i with
   |zero=>cases c1;cases c2;exact⟨_,Bs,hr⟩
   |succ i=>simp at c1
  ·rw[e]
   intro μ' v H' _ _ _ rv
   rw[rv.blE];exact q H'
 ·obtain⟨_,_,_,_,_,_,z,_⟩:=z
  exact z
abbrev qM:List Value:=[.type "ValueError",.type "Exception",.type "BaseException",.type "object"]
abbrev rS:String:="ValueError.__new__"
def Cd(K:Frag)(C:Addr):List Value:=match K.lookup C with
 |some ⟨_,_,.cls cd,_⟩=>cd.mro
 |_=>[]
theorem pP{V4:List Value}{pA:String}(X:K.In h)(q:excIn K C V4 pA=true) :
  ∃bm N nm qn bs hdct sn sub ab col dd k0 k1 k2 k3 k5 mN,h.get? C=some (excClassObj nm qn C N bs bm hdct sn sub ab col dd k0 k1 k2 k3 k5 pA)/\h.Ns N mN/\mN "__init__"=none/\OwnTail h V4 bm/\Cd K C=.ref C::bm:=by
 have q0:=q
 unfold excIn at q
 split at q
 ·rename_i dd cd sl ho
  split at q
  ·rename_i C' bm k0 k1 k2 k3 n k5 hm hs
   simp only[cO,dL,fY]at q
   obtain⟨⟨⟨⟨⟨rfl,rfl⟩,hdel⟩,ht⟩,hok⟩,hni⟩:=q
   have hmro:Cd K C'=cd.mro:=by unfold Cd;rw[ho]
   obtain⟨nm,bs,mro,ns,qn,hd,sn,sub,ab,col,del⟩:=cd
   dsimp only at hm hdel hok hni hmro
   subst hm hdel
   have hsl:sl=#[k0,k1,k2,k3,some (.builtin n),k5]:=by
    obtain⟨l⟩:=sl
    simp only at hs
    rw[hs]
   subst hsl
   exact⟨bm,ns,nm,qn,bs,hd,sn,sub,ab,col,dd,k0,k1,k2,k3,k5,_,X _ _ ho,.of_isNs (PySem.W.isNs_of_in X hok),PySem.W.nsMap_none_of_in X hok hni,PySem.W.tail_of_in X ht,hmro⟩
  ·cases q
 ·cases q
structure Lb(K:Frag)(mg:Str->Option Value)(x:Str):Prop where
 ex:∃C,mg x=some (.ref C)/\excIn K C qM rS=true
def yf(c:Str):FS:=fun ρ st=>.ex c ρ st
theorem zP{np dD pos p':Pos}{z:Str}{j:Nat}(hC:Lb X.K X.mg x)(jw:X.calm=true:=by rfl)(hg:Gl X x:=by rfl)(hd:(x==("__debug__":Str))=false:=by decide)
  (he:starEach [.Constant (.str z) j p'] X.env=(false,eval (.Constant (.str z) j p') X.env)::starEach [] X.env:=by rfl):SS X (.Raise (some (.Call (.Name x np) [.Constant (.str z) j p'] [] dD)) none pos) (yf x):=⟨by
 intro ai s σ H D I h
 walk_at "2"
 obtain⟨C,hm,q⟩:=hC.ex
 have hh:X.A.handled=none:=I.ok.hd jw
 obtain⟨bm,N,nm,qn,bs,hdct,sn,sub,ab,col,dd,k0,k1,k2,k3,k5,mN,g1,g2,g3,g4,g5⟩:=pP I.kIn q
 refine wpAny_Raise_call_subT (C:=C) (nm:=nm) (q:=qn) (N:=N) (bs:=bs) (bm:=bm) (hdct:=hdct) (sn:=sn) (sub:=sub) (ab:=ab) (col:=col) (dd:=dd) (k0:=k0) (k1:=k1) (k2:=k2) (k3:=k3) (k5:=k5)
  F.excBase_ValueError (mN:=mN) (g4.hasType F.excBase_ValueError.hasBase) hh (by rw[he];rfl) g3 (ur I hg hm ⟨rfl,?_⟩ hd)
 rw[he]
 refine ig ?_
 show wpAny _ _ (spliced ((false,eval (.Constant (.str z) j p') X.env)::[])) _ _ s
 refine dJ (wpAny_Constant_str (fX ?_))
 refine⟨rfl,(by show 1<=sizeLine;decide),g1,g2,g4,fun h' e hx=>?_⟩
 have I2:bM X ai σ H { s with heap:=h',toks:=s.toks+1 }:=I.kept hx.keeps
 have en:H e=none:=by
  cases hu:H e with
  |none=>rfl
  |some u=>
   obtain⟨ob,JQ⟩:=(I.hok e u hu).ex
   have:=hx.new
   rw[show({ s with toks:=s.toks+1 }:Shared).heap=s.heap from rfl]at this
   rw[JQ]at this;cases this
 obtain⟨t,ht1,ht2,ht3⟩:=hx.there
 have hin:∀env∈X.stack,∀b,env.frame=some b->b∈rk X.stack:=fun env he b hb=>k7.mpr ⟨env,he,hb⟩
 refine h ai μ σ H (.ref e) _ (au _) fw.refl l ⟨I2,e,.ref C,t,hideAll s.heap (rk X.stack),rfl,hm,en,fun b o hb=>hx.keeps b o (PySem.W.of_hideAll _ hb),?_,?_,.inr (.inl ⟨_,_,ht1,rfl,rfl,rfl,rfl,rfl⟩),fun b o hb hr=>?_⟩
 ·cases hq:(hideAll s.heap (rk X.stack)).get? e with
  |none=>rfl
  |some o=>have z:=PySem.W.of_hideAll _ hq;have y:=hx.new;rw[show({ s with toks:=s.toks+1 }:Shared).heap=s.heap from rfl,z]at y;cases y
 ·exact(PySem.W.funFrames_hide I.stack hin).of_keeps fun b o hb _=>⟨o,hx.keeps b o hb,rfl⟩
 ·have old:∀o0,s.heap.get? b=some o0->s.heap.get? b=some o:=fun o0 h0=>by
   have h1:h'.get? b=some o0:=hx.keeps b o0 h0
   have h2:h'.get? b=some o:=hb
   rw[h1]at h2;rw[<- h2];exact h0
  have ie:∀o0,s.heap.get? b=some o0->b∉rk X.stack->(hideAll s.heap (rk X.stack)).get? b=some o:=fun o0 h0 hn=>PySem.W.hideAll_get _ (old o0 h0) hn
  rcases hr with hr|⟨⟨o0,h0⟩,hf,hbx⟩|⟨⟨y,hy⟩,hf⟩|⟨pp,hp,rfl⟩
  ·cases hu:H b with
   |none=>exact absurd hu hr
   |some u=>
    obtain⟨ob,JQ⟩:=(I.hok b u hu).ex
    exact ie ob JQ fun z=>by have:=I.stkFree b z;rw[hu]at this;cases this
  ·obtain⟨o1,h1⟩:=I.base.there b o0 h0 hbx
   refine ie o1 h1 fun z=>?_
   rcases a7.mp (I.stkSub b z)with z|z
   ·rw[z]at h0;exact absurd (aS (aP h0) I.ok.above) (dh _)
   ·exact hf z
  ·obtain⟨v,ov,hov,_⟩:=I.cell y b hy
   exact ie ov hov hf
  ·obtain⟨p1,p2,p3,p4,_⟩:=I.pin pp hp
   refine ie _ p1 fun z=>?_
   rcases a7.mp (I.stkSub _ z)with z|z
   ·exact p3 z
   ·exact p4 z⟩
theorem bM.unbound{v:Option Value}{m:Str->Option Value}(I:bM X ai σ H s)(hN:X.N.Nodup)(hi:X.N[i]?=some x)(hn:s.heap.Ns X.env.locals m)
  (Uc:h'.Ns X.env.locals (fun y=>if y=x then v else m y)) (hs:Heap.SameBut X.env.locals s.heap h') (QM:s.toks<=t':=by first|exact ay _|exact bB _|assumption|omega):bM X ai (σ.set i none) H { s with heap:=h',toks:=t' }:=by
 obtain⟨m0,hn0,hl⟩:=id I.loc
 have em:m0=m:=by
  obtain⟨o,es,ep,a1,a2,a3,a4⟩:=hn0
  obtain⟨o',es',ep',b1,b2,b3,b4⟩:=hn
  rw[a1]at b1;cases b1
  rw[a2]at b2;cases b2
  funext y;rw[<- a4,<- b4]
 subst em
 obtain⟨oL,_,_,hoL,_⟩:=id hn0
 have cne:=I.cne
 refine⟨I.ok,I.os,I.bare,⟨fun b o e n hb hx=>?_,fun b o e n hb hx=>?_,I.base.free,fun b o e hx=>?_,I.base.tups,I.base.frzs,I.base.tbls⟩,⟨_,Uc,fun j y w e1 e2 e3=>?_⟩,fun y c e=>?_,I.free,I.freeC,fun p hp=>?_,fun b ob e=>?_,by simpa using I.len,aS I.pos QM,aH I.tk QM⟩
 ·exact(hs.2 b (aY (aS (aP e) I.ok.above))).trans (I.base.keep b o e n hb hx)
 ·obtain⟨sl,e1⟩:=I.base.slot b o e n hb hx
  exact⟨sl,(hs.2 b (aY (aS (aP e) I.ok.above))).trans e1⟩
 ·obtain⟨o',e1⟩:=I.base.there b o e hx
  exact⟨o',(hs.2 b (aY (aS (aP e) I.ok.above))).trans e1⟩
 ·by_cases hj:j=i
  ·subst hj
   by_cases hlt:j<σ.length
   ·rw[bQ hlt]at e2;cases e2
   ·rw[bq (by simpa using hlt)]at e2;cases e2
  ·rw[ce (Ne.symm hj)]at e2
   obtain⟨u',r',q⟩:=hl j y w e1 e2 e3
   refine⟨u',r'.up QM,?_⟩
   rcases q with⟨k,e⟩|⟨k,c,e,z⟩
   ·refine .inl ⟨k,?_⟩
    have:y≠x:=fun e=>hj (uM hN e1 (e▸hi))
    simp[this,e]
   ·exact .inr ⟨k,c,e,z.sameBut hs (cne y c e)⟩
 ·obtain⟨w',z⟩:=I.cell y c e
  exact⟨w',z.sameBut hs (cne y c e)⟩
 ·obtain⟨e,n,ne,nf,d⟩:=I.pin p hp
  exact⟨(hs.2 p.1 ne).trans e,n,ne,nf,d⟩
 ·refine((I.hok b ob e).up QM).stay (fun c w' hc q=>(hs.2 c ?_).trans q) (fun _ q=>q) fun _ _ q=>q
  rintro rfl
  rcases hc with rfl|hc
  ·rw[I.free]at e;cases e
  ·rw[I.free]at hc;cases hc
theorem tN.lands{c:Str}{e:Value}{Q:Unit->Shared->Prop}{E:Value->Shared->Prop}{M:Model}{outer:List Env}(f:tN X ai σ c H e s)(mT:X.stack=X.env::outer)(yZ:X.env.frame=some X.env.locals)(hA:X.A.frames=some X.stack)
  (h:∀x C t B h',e=.ref x->X.mg c=some C->H x=none->Heap.FlyingW B X.stack x C (.ref t) h'->s.heap.UpToSlots h' ->
   (∀b o,s.heap.get? b=some o->(H b≠none\/((∃o0,X.s₀.heap.get? b=some o0)/\b∉X.fs/\b∉X.ex)\/((∃y,X.env.cells.lookup y=some b)/\b∉rk X.stack)\/∃p∈X.pn++ai,p.1=b)->B.get? b=some o)->Q () { s with heap:=h' }) :
  wpAny M X.A (noteFrame e X.env) (fun _ s₂=>wpAny M X.A (setFlight e none) Q E s₂) E s:=by
 obtain⟨x,C,t,B,rfl,hC,hx,st,nx,ff,tr,cov⟩:=f.ex
 rw[mT]at ff hA
 rcases tr with tr|⟨oe,vs,he,rfl,_,hd,h1,h0⟩|⟨L,hL,tr⟩
 ·refine wpAny_looks_onW hA yZ ⟨st,nx,ff,tr⟩ fun h1 hh u1=>sB hh fun h2 fl u2=>?_
  exact h x C t B h2 rfl hC hx (by rw[mT];exact fl) (u1.trans u2) cov
 ·unfold noteFrame
  simp only[yZ]
  refine ag (gK he hd h1 ?_)
  rw[aJ #[1]]
  refine wpAny_newEntryW hA ff yZ he st nx hd (Array.getElem?_eq_some_iff.mp h1).1 h0 fun h' hL=>?_
  obtain⟨k1,k2,k3,k4⟩:=hL
  exact h x _ t B h' rfl hC hx ⟨k1,nx,by rw[mT];exact k2,k3⟩ k4 cov
 ·refine nE hL tr (sB ⟨st,nx,ff,tr⟩ fun h' fl up=>?_)
  exact h x C t B h' rfl hC hx (by rw[mT];exact fl) up cov
theorem bM.landed{B:Heap}{x:Addr}{C:Value}{t:Addr}(I:bM X ai σ H s)(fl:Heap.FlyingW B X.stack x C (.ref t) h')(up:s.heap.UpToSlots h')(mT:X.stack=X.env::X.outer)
  (cov:∀b o,s.heap.get? b=some o->(H b≠none\/((∃o0,X.s₀.heap.get? b=some o0)/\b∉X.fs/\b∉X.ex)\/((∃y,X.env.cells.lookup y=some b)/\b∉rk X.stack)\/∃p∈X.pn++ai,p.1=b)->B.get? b=some o) :
  bM X ai σ H { s with heap:=h' }:=by
 obtain⟨f1,f2,f3,f4⟩:=fl
 obtain⟨m,hn,hl⟩:=id I.loc
 have cellK:∀y c,X.env.cells.lookup y=some c->∀v,s.heap.IsCell c v->h'.IsCell c v:=fun y c e v zq=>by
  obtain⟨o,ho,hd⟩:=zq
  by_cases hc:c∈rk X.stack
  ·obtain⟨sl,q⟩:=up c o ho fun vs z=>by rw[hd]at z;cases z
   exact⟨_,q,hd⟩
  ·exact⟨o,f1 c o (cov c o ho (.inr (.inr (.inl ⟨⟨y,e⟩,hc⟩)))),hd⟩
 have frames:∀b∈X.fs,∀o,s.heap.get? b=some o->∃sl,h'.get? b=some { o with slots:=sl }:=fun b hb o ho=>by
  obtain⟨_,o',t6,hd⟩:=I.funs.mem hb
  rw[ho]at t6;cases t6
  exact up b o ho hd
 have kept:∀b o,s.heap.get? b=some o->(∃o0,X.s₀.heap.get? b=some o0)->b∉X.fs->b∉X.ex->h'.get? b=some o:=fun b o ho h0 hb hx=>f1 b o (cov b o ho (.inr (.inl ⟨h0,hb,hx⟩)))
 refine⟨I.ok,I.os,I.bare,⟨fun b o q n hb hx=>kept b o (I.base.keep b o q n hb hx) ⟨o,q⟩ hb hx,fun b o q n hb hx=>?_,I.base.free,fun b o q hx=>?_,I.base.tups,I.base.frzs,I.base.tbls⟩,⟨m,up.ns hn,fun i y v e1 e2 e3=>?_⟩,fun y c e=>?_,I.free,I.freeC,fun p hp=>?_,fun b u hb=>?_,I.len,I.pos,I.tk⟩
 ·obtain⟨sl,q1⟩:=I.base.slot b o q n hb hx
  obtain⟨sl2,q2⟩:=frames b hb _ q1
  exact⟨sl2,q2⟩
 ·obtain⟨o',q1⟩:=I.base.there b o q hx
  by_cases hb:b∈X.fs
  ·obtain⟨sl2,q2⟩:=frames b hb _ q1;exact⟨_,q2⟩
  ·exact⟨o',kept b o' q1 ⟨o,q⟩ hb hx⟩
 ·obtain⟨u,r,lk⟩:=hl i y v e1 e2 e3
  refine⟨u,r,?_⟩
  rcases lk with lk|⟨k,c,e,z⟩
  ·exact .inl lk
  ·exact .inr ⟨k,c,e,cellK y c e _ z⟩
 ·obtain⟨v,z⟩:=I.cell y c e
  exact⟨v,cellK y c e v z⟩
 ·obtain⟨e,n,ne,nf,d⟩:=I.pin p hp
  exact⟨f1 _ _ (cov _ _ e (.inr (.inr (.inr ⟨p,hp,rfl⟩)))),n,ne,nf,d⟩
 ·refine(I.hok b u hb).stay (fun c v hc q=>f1 c v (cov c v q (.inl ?_))) (fun _ q=>q) fun _ _ q=>q
  rcases hc with rfl|hc
  ·rw[hb];simp
  ·rw[hc];simp
abbrev Cx.trying(X:Cx)(pn:List (Addr×Obj))(E:Value->Shared->Prop):Cx:={ X with pn:=pn,xe:=E }
abbrev Cx.within(X:Cx)(v:Value):Cx:={ X with A:=X.A.mark (some v),calm:=false,xe:=fun _ _=>False }
theorem Cx.Ok.trying(k:X.Ok)(pn:List (Addr×Obj))(E:Value->Shared->Prop):(X.trying pn E).Ok:=⟨k.mod,k.kind,k.glob,k.blt,k.above,k.inj,k.has,k.cab,k.hd,k.frames,k.stk,k.exf,k.bs,k.bsz,k.noex,k.exfs,k.funs,k.frf⟩
theorem Cx.Ok.within(k:X.Ok)(v:Value):(X.within v).Ok:=⟨k.mod,k.kind,k.glob,k.blt,k.above,k.inj,k.has,k.cab,(fun z=>by cases z),k.frames,k.stk,k.exf,k.bs,k.bsz,k.noex,k.exfs,k.funs,k.frf⟩
section
theorem bM.trying(I:bM X ai σ H s)(E:Value->Shared->Prop):bM (X.trying (X.pn++ai) E) [] σ H s:=⟨I.ok.trying _ _,I.os,I.bare,I.base,I.loc,I.cell,I.free,I.freeC,fun p hp=>I.pin p (by simpa using hp),I.hok,I.len,I.pos,I.tk⟩
theorem bM.tried(ok:X.Ok)(I:bM (X.trying (X.pn++ai) E) pins' σ H s):bM X ai σ H s:=⟨ok,I.os,I.bare,I.base,I.loc,I.cell,I.free,I.freeC,fun p hp=>I.pin p (cZ _ hp),I.hok,I.len,I.pos,I.tk⟩
theorem bM.within(I:bM X ai σ H s)(v:Value):bM (X.within v) ai σ H s:=⟨I.ok.within v,I.os,I.bare,I.base,I.loc,I.cell,I.free,I.freeC,I.pin,I.hok,I.len,I.pos,I.tk⟩
theorem bM.out(ok:X.Ok)(I:bM (X.within v) ai σ H s):bM X ai σ H s:=⟨ok,I.os,I.bare,I.base,I.loc,I.cell,I.free,I.freeC,I.pin,I.hok,I.len,I.pos,I.tk⟩
theorem bM.adopt{x:Addr}{ob:HO}(I:bM X ai σ H s)(hx:H x=none)(h0:X.s₀.heap.get? x=none)(hL:x≠X.env.locals)(hc:∀y c,X.env.cells.lookup y=some c->c≠x)(hp:∀p∈X.pn++ai,p.1≠x)(ok:eR X.prog X.w s.toks (eG H x ob) s.heap x ob):bM X ai σ (eG H x ob) s:=by
 have hs:ud H (eG H x ob):=cY hx ob
 refine⟨I.ok,I.os,I.bare,⟨I.base.keep,I.base.slot,fun b o q n hb=>?_,I.base.there,fun b xs q=>hs _ _ (I.base.tups b xs q),fun b o u q=>hs _ _ (I.base.frzs b o u q),fun b ps q=>?_⟩,I.loc,I.cell,?_,fun y c e=>?_,fun p h=>?_,fun b u hb=>?_,I.len,I.pos,I.tk⟩
 ·rw[c9 (fun z=>by rw[z,h0]at q;cases q)];exact I.base.free b o q n hb
 ·obtain⟨m,e⟩:=I.base.tbls b ps q;exact⟨m,hs _ _ e⟩
 ·rw[c9 (Ne.symm hL)];exact I.free
 ·rw[c9 (hc y c e)];exact I.freeC y c e
 ·obtain⟨a,b,c,d,e⟩:=I.pin p h;exact⟨a,by rw[c9 (hp p h)];exact b,c,d,e⟩
 ·by_cases e:b=x
  ·subst e;rw[gU]at hb;cases hb;exact ok
  ·rw[c9 e]at hb
   exact(I.hok b u hb).stay (fun _ _ _ q=>q) (fun c q=>hs _ _ q) fun c xs q=>hs _ _ q
end
theorem vd{g:Array GenState}{d:Drawn}{t:Nat}{os:OsState}{e:Addr}{oe:Obj}{Q:Bool->Shared->Prop}{nm qn V' V7:Str}{N D N':Addr}{bs bm Wc UA:List Value}{hdct Nz:Bool}{sn V8:List Str}{sub Ud:List Value}{ab Wb:Bool}{col T0:Option Bool}{dd NB:Option Addr}{k0 k1 k2 k3 k5 j0 j1 j2 j3 j5:Option Value}{pA QT:String}
  (hC:h.get? C=some (excClassObj nm qn C N bs bm hdct sn sub ab col dd k0 k1 k2 k3 k5 pA)) (hD:h.get? D=some (excClassObj V' V7 D N' Wc UA Nz V8 Ud Wb T0 NB j0 j1 j2 j3 j5 QT)) (he:h.get? e=some oe) (JR:oe.cls=.ref C) (ji:UA.contains (.type "BaseException")=true)
  {b:Bool} (hb:(Value.ref C::bm).contains (.ref D)=b) (hq:Q b ⟨h,g,d,t,os⟩):wpAny M A (excMatches (.ref e) (.ref D)) Q E ⟨h,g,d,t,os⟩:=by
 have hcB:(Value.ref D::UA).contains (.type "BaseException")=true:=by rw[lh,ji,Bool.or_true]
 have f:=tc_notTuple
 unfold excMatches
 repeat(first|(with_reducible refine e6 he ?_;rw[JR])|with_reducible refine e6 hD ?_|(with_reducible refine iy hD ?_;rw[hcB])|(with_reducible refine iy hC ?_;rw[hb])|wp_step)
 cases b<;>(wp_walk;exact hq)
open AutoSeq1 (wpAny_loadPart')
section
end
section
variable{a b c:Expr}{fo:FE}{fs:FA}
def tR(i:Int)(n:Nat):List W:=(List.range n).map fun k:Nat=>W.int (i-k)
theorem GR(i:Int)(n:Nat)(μ:List Addr)(H:Hp):RelWs X.K μ H (tR i n) (wL i n):=by
 unfold tR wL
 induction (List.range n)with
 |nil=>exact .nilI
 |cons a r ih=>exact .consI .int ih
def ve(fs:FA):FI:=fun ρ st=>(fs ρ st).bind fun ws st=>match ws with
 |[.int i,.int j,.int k]=>if k=-1/\(-(2^60)<=i/\i<2^60/\-(2^60)<=j/\j<2^60)then .ok (tR i (i-j).toNat,none) st else .bad
 |_=>.bad
theorem Ld(hm:X.mg "range"=none)(ha:SA X [a,b,c] fs)(hg:Gl X "range":=by rfl)(hs:starEach [a,b,c] X.env=(false,eval a X.env)::starEach [b,c] X.env:=by rfl)(j':(backTo pos (starEach [b,c] X.env)).any (·.1)=false:=by rfl) :
  SI X tg (.Call (.Name "range" p) [a,b,c] [] pos) (ve fs):=⟨(x9 hm ⟨ha.h⟩ hg hs j').h.imp fun σ H R h=>by
 walk_at "2"
 walk_at "1"
 split at h1
 ·rename_i i j k
  obtain⟨y,ys,rfl,ry,r1⟩:=q1.consE
  obtain⟨z,zs,rfl,rz,r2⟩:=r1.consE
  obtain⟨w,rfl,tt⟩:=r2.one
  split at h1
  ·rename_i cc
   obtain⟨rfl,cc⟩:=cc
   exact⟨_,_,by rw[ry.intE,rz.intE,tt.intE],cc,h1 μ1 _ H1 (au _) fw.refl l1.sto (wQ (GR _ _))⟩
  ·exact h1.elim
 ·exact h1.elim⟩
end
def OG(i:Nat):RS->RS
 |.nx ρ st=>.nx (ρ.set i none) st
 |.bk ρ st=>.bk (ρ.set i none) st
 |.ct ρ st=>.ct (ρ.set i none) st
 |.rt w st=>.rt w st
 |_=>.bad
def Ce(g:FS)(cs:List Str)(i:Nat)(gh:FS):FS:=fun ρ st=>match g ρ st with
 |.ex c ρ' bF=>if c∈cs then OG i (gh (ρ'.set i (some (.loc bF.length))) (bF++[.exc c]))else .bad
 |r=>r
structure GS(K:Frag)(mg:Str->Option Value)(T:Str)(cs:List Str):Prop where
 h:∀c∈cs,∃C Ta,mg c=some (.ref C)/\mg T=some (.ref Ta)/\excIn K C qM rS=true/\excIn K Ta qM rS=true/\(Cd K C).contains (.ref Ta)=true
theorem m_:∀{ρ:cv} {σ:St} (i:Nat),Paired (fun(o:Option W) (s:Option V)=>∀w,o=some w->∃v,s=some v/\bK K μ H w v) ρ σ ->
  Paired (fun(o:Option W) (s:Option V)=>∀w,o=some w->∃v,s=some v/\bK K μ H w v) (ρ.set i none) (σ.set i none)
 |_,_,_,.nil=>.nil
 |_,_,0,.cons a t=>.cons (fun w e=>by cases e) t
 |_,_,i+1,.cons a t=>.cons a (m_ i t)
theorem iW.pushE(S:iW K mg μ st H){x:Addr}{c:Str}{C:Value}(hx:H x=none)(hc:mg c=some C):iW K mg (μ++[x]) (st++[.exc c]) (eG H x (u3 x C)):=
 S.push (c:=.exc c) hx ⟨C,hc,gU⟩
theorem OH{body NC:List Stmt}{b₀:Stmt}{T n:Str}{i:Nat}{g gh:FS}{cs:List Str}{pos Bg np:Pos}(hC:GS X.K X.mg T cs)(hN:X.N.Nodup)(hi:X.N[i]?=some n)(hx:J8 X.env.scope n)
  (hb:∀pn E,SB (X.trying pn E) body g) (hs:∀v,SB (X.within v) (b₀::NC) gh) (xE:X.ex=[]:=by rfl) (mT:X.stack=X.env::X.outer:=by rfl) (yZ:X.env.frame=some X.env.locals:=by rfl) (hk:X.env.kindOf n=some .local:=by rfl) (hg:Gl X T:=by rfl) (hd:(T==("__debug__":Str))=false:=by decide)
  (hf:X.fn n=true\/X.env.scope.names.lookup n=some .local:=by first|exact .inl rfl|exact .inr rfl) :
  SS X (.Try body [.ExceptHandler (some (.Name T np)) (some n) (b₀::NC) Bg] [] [] pos) (Ce g cs i gh):=⟨by
 intro ai s σ H D I h
 walk_at "2"
 refine wpAny_Try_except ?_
 refine iZ ((hb (X.pn++ai) _).h [] s σ H D (I.trying _) ⟨μ,ρ,st,⟨l.env,l.sto⟩,?_⟩) (fun f s1 q=>?_) (fun _ _ q=>q)
 ·unfold Ce at h
  cases e:g ρ st with
  |nx ρ' bF=>rw[e]at h;exact fun μ' σ' H' p x r=>h μ' σ' H' p x ⟨r.env,r.sto⟩
  |bk ρ' bF=>rw[e]at h;exact fun μ' σ' H' p x r=>h μ' σ' H' p x ⟨r.env,r.sto⟩
  |ct ρ' bF=>rw[e]at h;exact fun μ' σ' H' p x r=>h μ' σ' H' p x ⟨r.env,r.sto⟩
  |rt w bF=>rw[e]at h;exact h
  |bad=>rw[e]at h;exact h
  |ex c ρ' bF=>
   rw[e]at h
   intro pins' μ' σ' H' ev s' pp xx r f
   dsimp only at h
   split at h
   ·rename_i hc
    obtain⟨Ca,Ta,m1,m2,q1,q2,hsub⟩:=hC.h c hc
    have I0:=f.inv
    refine f.lands mT yZ I.ok.frames fun ex C t B h' he hCc hxn fl up cov=>?_
    subst he
    obtain rfl:C=.ref Ca:=by have:=hCc.symm.trans m1;exact bn this
    have I1:=I0.landed fl up mT cov
    have I2:bM X ai σ' H' { s' with heap:=h' }:=bM.tried I.ok I1
    obtain⟨oe,vs,_,_,_,Ke,⟨JR,_⟩,hdat,_⟩:=fl.2.2.2
    have cov2:∀b o,h'.get? b=some o->(H' b≠none\/((∃o0,X.s₀.heap.get? b=some o0)/\b∉X.fs/\b∉X.ex)\/((∃y,X.env.cells.lookup y=some b)/\b∉rk X.stack)\/∃p∈X.pn++ai,p.1=b)->B.get? b=some o:=by
     intro b o hbo hr
     have ie:∀o1,s'.heap.get? b=some o1->(H' b≠none\/((∃o0,X.s₀.heap.get? b=some o0)/\b∉X.fs/\b∉X.ex)\/((∃y,X.env.cells.lookup y=some b)/\b∉rk X.stack)\/∃p∈(X.pn++ai)++pins',p.1=b)->B.get? b=some o:=fun o1 h1 hr=>by
      have h2:=cov b o1 h1 hr
      have h3:=fl.1 b o1 h2
      rw[h3]at hbo;cases hbo;exact h2
     rcases hr with hr|⟨⟨o0,h0⟩,hbf,hbx⟩|⟨⟨y,hy⟩,hbf⟩|⟨p,hp,rfl⟩
     ·cases hu:H' b with
      |none=>exact absurd hu hr
      |some u=>obtain⟨ob,JQ⟩:=(I0.hok b u hu).ex;exact ie ob JQ (.inl hr)
     ·obtain⟨o1,h1⟩:=I0.base.there b o0 h0 hbx
      exact ie o1 h1 (.inr (.inl ⟨⟨o0,h0⟩,hbf,hbx⟩))
     ·obtain⟨v,ov,hov,_⟩:=I0.cell y b hy
      exact ie ov hov (.inr (.inr (.inl ⟨⟨y,hy⟩,hbf⟩)))
     ·obtain⟨p1,_⟩:=I0.pin p (cZ _ hp)
      exact ie _ p1 (.inr (.inr (.inr ⟨p,cZ _ hp,rfl⟩)))
    have noB:∀o,B.get? ex=some o->False:=fun o z=>by have:=fl.2.1;rw[z]at this;cases this
    obtain⟨bm,N,nm,qn,bs,hdct,sn,sub,ab,col,dd,k0,k1,k2,k3,k5,mN,g1,g2,g3,g4,g5⟩:=pP I2.kIn q1
    obtain⟨UA,N',V',V7,Wc,Nz,V8,Ud,Wb,T0,NB,j0,j1,j2,j3,j5,mN',g1',g2',g3',g4',g5'⟩:=pP I2.kIn q2
    refine wpAny_handleBy_cons (codeAny_handlers_test ?_) (by intro z;cases z)
    refine ur (X:=X.within (.ref ex)) (I2.within _) hg m2 ?_ hd
    refine vd g1 g1' Ke JR (g4'.hasType F.excBase_ValueError.hasBase) (b:=true) (by rw[<- g5];exact hsub) ?_
    refine codeAny_handlers_suite_as ?_
    refine lands_againW fl fun h2 fl2 up2=>?_
    have I3:bM X ai σ' H' { s' with heap:=h2 }:=I2.landed fl2 up2 mT cov2
    obtain⟨oe2,vs2,_,_,_,heo2,⟨hcls2,_⟩,hdat2,_⟩:=fl2.2.2.2
    have I4:bM X ai σ' (eG H' ex (u3 ex (.ref Ca))) { s' with heap:=h2 }:=by
     refine I3.adopt hxn ?_ ?_ ?_ ?_ ?_
     ·cases h0:X.s₀.heap.get? ex with
      |none=>rfl
      |some o0=>
       exfalso
       by_cases hfs:ex∈X.fs
       ·obtain⟨_,o',t6,hd'⟩:=I3.funs.mem hfs
        have t6:h2.get? ex=some o':=t6
        rw[heo2]at t6;cases t6
        exact hd' _ hdat2
       ·exact noB _ (cov2 ex oe Ke (.inr (.inl ⟨⟨o0,h0⟩,hfs,by rw[xE];simp⟩)))
     ·rintro rfl
      obtain⟨m,⟨o,es,ep,a1,a2,_⟩,_⟩:=I3.loc
      have a1:h2.get? _=some o:=a1
      rw[heo2]at a1;cases a1
      rw[hdat2]at a2;cases a2
     ·rintro y c' hy rfl
      obtain⟨v,o,a1,a2⟩:=I3.cell y _ hy
      have a1:h2.get? _=some o:=a1
      rw[heo2]at a1;cases a1
      rw[hdat2]at a2;cases a2
     ·rintro p hp rfl
      exact noB _ (cov2 p.1 oe Ke (.inr (.inr (.inr ⟨p,hp,rfl⟩))))
     ·refine⟨⟨oe2,vs2,heo2,hcls2,hdat2⟩,⟨oe2,heo2⟩,?_⟩
      rintro ha hb' ⟨o,vs,z1,z2,z3⟩ keep
      exact⟨o,vs,keep o z1,z2,z3⟩
    have hxt:fw X.K H' (eG H' ex (u3 ex (.ref Ca))):=ic.same (cY hxn _)
    refine uN (X:=X.within (.ref ex)) (I4.within _) hN hi hx (v:=.ref ex) rfl (fun s5 I5=>?_) hf
    have S4:iW X.K X.mg (μ'++[ex]) (bF++[.exc c]) (eG H' ex (u3 ex (.ref Ca))):=iW.pushE r.sto hxn m1
    have L4:Rl (X.within (.ref ex)) (μ'++[ex]) (ρ'.set i (some (.loc bF.length))) (bF++[.exc c]) (σ'.set i (some (.ref ex))) (eG H' ex (u3 ex (.ref Ca))):=
     ⟨rG (mZ r.sto) i (sM (bR _ _) hxt r.env),S4⟩
    have pm:μ <+: μ'++[ex]:=pp.trans (bR _ _)
    have xm:fw X.K H (eG H' ex (u3 ex (.ref Ca))):=xx.trans hxt
    have hp:(X.env.scope.kind==.class||(X.env.scope.kind==.module&&X.env.locals != X.env.globals))=false:=by rw[I.ok.kind];rfl
    refine iZ ((hs (.ref ex)).h ai s5 _ _ { nx:=fun σ H=>D.nx (σ.set i none) H,rt:=D.rt,bk:=fun σ H=>D.bk (σ.set i none) H,ct:=fun σ H=>D.ct (σ.set i none) H } I5 ⟨μ'++[ex],_,_,L4,?_⟩) (fun f6 s6 q=>?_) (fun _ _ z=>z.elim)
    ·cases e2:gh (ρ'.set i (some (.loc bF.length))) (bF++[.exc c])with
     |nx ρ2 cT=>rw[e2]at h;exact fun μ3 σ3 H3 p3 x3 r3=>h μ3 (σ3.set i none) H3 (pm.trans p3) (xm.trans x3) ⟨m_ i r3.env,r3.sto⟩
     |bk ρ2 cT=>rw[e2]at h;exact fun μ3 σ3 H3 p3 x3 r3=>h μ3 (σ3.set i none) H3 (pm.trans p3) (xm.trans x3) ⟨m_ i r3.env,r3.sto⟩
     |ct ρ2 cT=>rw[e2]at h;exact fun μ3 σ3 H3 p3 x3 r3=>h μ3 (σ3.set i none) H3 (pm.trans p3) (xm.trans x3) ⟨m_ i r3.env,r3.sto⟩
     |rt w cT=>rw[e2]at h;exact fun μ3 v H3 p3 x3 S3 r3=>h μ3 v H3 (pm.trans p3) (xm.trans x3) S3 r3
     |ex c2 ρ2 cT=>rw[e2]at h;exact h.elim
     |bad=>rw[e2]at h;exact h.elim
    ·cases f6 with
     |next=>
      obtain⟨σ6,H6,I6,q⟩:=q
      have I6':bM X ai σ6 H6 s6:=bM.out I.ok I6
      obtain⟨m,hn,hl⟩:=id I6'.loc
      exact ij hk hn hp fun h7 v hn7 hs7=>⟨_,H6,I6'.unbound hN hi hn hn7 hs7,q⟩
     |brk=>
      obtain⟨σ6,H6,I6,q⟩:=q
      have I6':bM X ai σ6 H6 s6:=bM.out I.ok I6
      obtain⟨m,hn,hl⟩:=id I6'.loc
      exact ij hk hn hp fun h7 v hn7 hs7=>⟨_,H6,I6'.unbound hN hi hn hn7 hs7,q⟩
     |cont=>
      obtain⟨σ6,H6,I6,q⟩:=q
      have I6':bM X ai σ6 H6 s6:=bM.out I.ok I6
      obtain⟨m,hn,hl⟩:=id I6'.loc
      exact ij hk hn hp fun h7 v hn7 hs7=>⟨_,H6,I6'.unbound hN hi hn hn7 hs7,q⟩
     |ret u=>
      obtain⟨v6,σ6,H6,I6,rr,q⟩:=q
      have I6':bM X ai σ6 H6 s6:=bM.out I.ok I6
      obtain⟨m,hn,hl⟩:=id I6'.loc
      exact ij hk hn hp fun h7 v hn7 hs7=>⟨v6,_,H6,I6'.unbound hN hi hn hn7 hs7,rr.up (bB _),q⟩
   ·exact h.elim
 ·cases f with
  |next=>
   obtain⟨σ',H',I',q⟩:=q
   exact iQ ⟨σ',H',bM.tried I.ok I',q⟩
  |brk=>obtain⟨σ',H',I',q⟩:=q;exact⟨σ',H',bM.tried I.ok I',q⟩
  |cont=>obtain⟨σ',H',I',q⟩:=q;exact⟨σ',H',bM.tried I.ok I',q⟩
  |ret u=>obtain⟨v,σ',H',I',rr,q⟩:=q;exact⟨v,σ',H',bM.tried I.ok I',rr,q⟩⟩
section
variable{w:World}{g:Array GenState}{d:Drawn}{t:Nat}{os:OsState}{o:Obj}
 {nm q:Str} {C N:Addr} {bs bm:List Value} {hdct:Bool} {sn:List Str} {sub:List Value} {ab:Bool} {col:Option Bool} {dd:Option Addr} {k0 k1 k2 k3 k5:Option Value} {pA:String} {K:Frag}
theorem OI{R:Result->Shared->Prop}(hC:h.get? C=some #[21])(T:OwnTail h qM bm)(hx:h.get? a=some o)(hc:o.cls=.ref C)(hq:R (.ok (.ret (.ref C))) ⟨h,g,d,t,os⟩) :
  codeAny #[9] A (.call (.builtin "getset_descriptor.__get__") ⟨[.builtin "object.__class__",.ref a,.ref C],[]⟩) R ⟨h,g,d,t,os⟩:=by
 have hT5:(⟨h,g,d,t,os⟩:Shared).TypeIs (.builtin "object.__class__") "getset_descriptor":=jz
 have hcB:(Value.ref C::bm).contains (.type (".".intercalate ("object.__class__".cutAt '.').dropLast))=true:=by
  rw[F.owner_object_class,lh,T.hasType (X:="object") (b:=true) #[1]]
  rfl
 refine j7 F.slot_gs_get.plain F.entry_gs_get (F.slot_gs_get.check _ _ _ _ _ _ _ _ hT5 (F.args_gs_get _ _ _) ?_)
 repeat(any_goals (first|assumption|(with_reducible refine e6 hx ?_;rw[hc])|(with_reducible refine iy hC ?_;rw[hcB])|wp_step))
 refine⟨Code.quiet_builtin _ (by decide +kernel),c6 F.entry_object_class ?_⟩
 repeat(any_goals (first|assumption|(with_reducible refine e6 hx ?_;rw[hc])|wp_step))
theorem yg{Q:Option Value->Shared->Prop}{r:Option Value}(X:K.In h)(f:findIn K (.ref C) x=some r)(hq:Q r ⟨h,g,d,t,os⟩):wpAny #[9] A (typeLookup (.ref C) x) Q E ⟨h,g,d,t,os⟩:=
 PySem.W.looks_findIn X f A Q E _ (fun _ _ z=>z) hq
theorem GT{tk:Tok}{Q:Fin->Shared->Prop}(X:K.In h)(f2:findIn K (.ref C) "__class__"=some (some (.builtin "object.__class__")))(hC:h.get? C=some #[21])(T:OwnTail h qM bm)(hx:h.get? a=some o)(hc:o.cls=.ref C)
  (hq:Q (.done (.ret (.ref C))) ⟨h,g,d,t,os⟩):wpAny #[9] A (Builtin.«object.__getattribute__» ⟨[.ref a,.str "__class__" tk],[]⟩) Q E ⟨h,g,d,t,os⟩:=by
 have hT5:(⟨h,g,d,t,os⟩:Shared).TypeIs (.builtin "object.__class__") "getset_descriptor":=jz
 have f5:=jz
 have f6:=F.slot_gs_get.lookup
 have f7:=F.slot_gs_set.lookup
 repeat(any_goals (first|assumption|(with_reducible refine e6 hx ?_;rw[hc])|with_reducible refine yg X f2 ?_|wp_step))
 refine OI hC T hx hc ?_
 repeat(any_goals (first|assumption|wp_step))
theorem GU{Q:Unit->Shared->Prop}(hC:h.get? C=some #[21])(T:OwnTail h qM bm)(hx:h.get? a=some o)(hc:o.cls=.ref C)(hq:Q () ⟨h,g,d,t,os⟩) :
  wpAny M A (checkBuiltinCall "BaseException.__getattribute__" ⟨[.ref a,v],[]⟩) Q E ⟨h,g,d,t,os⟩:=by
 have hcB:(Value.ref C::bm).contains (.type "BaseException")=true:=by
  rw[lh,T.hasType (X:="BaseException") (b:=true) #[1]]
  rfl
 have ha:=F.args_bexc_ga (.ref a) v
 have kd:builtinKind "BaseException.__getattribute__"=some .slot:=by decide +kernel
 have sp:splitId "BaseException.__getattribute__"=some ("BaseException","__getattribute__"):=by decide +kernel
 simp only[checkBuiltinCall,kd,sp]
 refine ag ?_
 unfold isInstance
 repeat(first|(with_reducible refine e6 hx ?_;rw[hc])|(with_reducible refine iy hC ?_;rw[hcB])|wp_step)
 exact hq
theorem Le{tk:Tok}{R:Result->Shared->Prop}(X:K.In h)(f2:findIn K (.ref C) "__class__"=some (some (.builtin "object.__class__")))(hC:h.get? C=some #[21])(T:OwnTail h qM bm)(hx:h.get? a=some o)(hc:o.cls=.ref C)
  (hq:R (.ok (.ret (.ref C))) ⟨h,g,d,t,os⟩):codeAny #[9] A (.call (.builtin "BaseException.__getattribute__") ⟨[.ref a,.str "__class__" tk],[]⟩) R ⟨h,g,d,t,os⟩:=
 j7 F.attrBase_ValueError.ga.plain F.entry_bexc_ga (GU hC T hx hc (GT X f2 hC T hx hc hq))
theorem Su{tk:Tok}(X:K.In h)(f1:findIn K (.ref C) "__getattribute__"=some (some (.builtin "BaseException.__getattribute__")))(f3:findIn K (.ref C) "__getattr__"=some none)(f2:findIn K (.ref C) "__class__"=some (some (.builtin "object.__class__")))
  (hC:h.get? C=some #[21]) (T:OwnTail h qM bm) (hx:h.get? a=some o) (hc:o.cls=.ref C) (hq:Q (.ref C) ⟨h,g,d,t,os⟩) :
  wpAny #[9] A (getAttrBy (.ref a) (.str "__class__" tk) false) Q E ⟨h,g,d,t,os⟩:=by
 have f4:=F.attrBase_ValueError.ga.bind (.ref a)
 have hx2:(Value.builtin "BaseException.__getattribute__" == Value.builtin "object.__getattribute__")=false:=by decide +kernel
 have hx1:(onTheHeap (Value.ref C)&&Value.builtin "BaseException.__getattribute__" == Value.builtin "object.__getattribute__")=false:=by rw[hx2];rfl
 repeat(any_goals (first|assumption|(with_reducible refine e6 hx ?_;rw[hc])|with_reducible refine yg X f1 ?_|with_reducible refine yg X f3 ?_|wp_step))
 refine Le X f2 hC T hx hc ?_
 repeat(any_goals (first|assumption|wp_step))
theorem Lf{Q:Option Value->Shared->Prop}(X:K.In h)(f1:findIn K (.ref C) "__getattribute__"=some (some (.builtin "BaseException.__getattribute__")))(f3:findIn K (.ref C) "__getattr__"=some none)(f2:findIn K (.ref C) "__class__"=some (some (.builtin "object.__class__")))
  (hC:h.get? C=some #[21]) (T:OwnTail h qM bm) (hx:h.get? a=some o) (hc:o.cls=.ref C) (hq:Q (some (.ref C)) ⟨h,g,d,t+1,os⟩) :
  wpAny #[9] A (getAttr? (.ref a) "__class__") Q E ⟨h,g,d,t,os⟩:=by
 unfold getAttr? getAttrBy?
 repeat(any_goals (first|assumption|with_reducible apply Su X f1 f3 f2 hC T hx hc|wp_step))
end
end L2
namespace L2
open PySem PySem.Spec PyProof.Rows
structure GV(K:Frag)(C:Addr):Prop where
 ga:findIn K (.ref C) "__getattribute__"=some (some (.builtin "BaseException.__getattribute__"))
 gt:findIn K (.ref C) "__getattr__"=some none
 cl:findIn K (.ref C) "__class__"=some (some (.builtin "object.__class__"))
theorem zQ{x:Addr}(q:excIn K C qM rS=true)(n:GV K C):PySem.W.KitX K (.ref x) (.ref C) (fun h=>∃o,h.get? x=some o/\o.cls=.ref C) where
 ty:=fun M h X zq A Q E s k z=>by
  obtain⟨o,h1,h2⟩:=zq
  unfold typeOf
  refine ag (wpAny_loadPart (k _ _ h1) ?_)
  rw[h2]
  exact aA z
 it:=fun M h X _ A Q E s k z=>by
  obtain⟨bm,N,nm,qn,bs,hdct,sn,sub,ab,col,dd,k0,k1,k2,k3,k5,mN,g1,_⟩:=pP X q
  unfold isType loadHead
  exact ag (wpAny_loadPart (k _ _ g1) (aA z))
 ne:=fun h tp dd bT m sl X htp=>by
  obtain⟨bm,N,nm,qn,bs,hdct,sn,sub,ab,col,NB,k0,k1,k2,k3,k5,mN,g1,_⟩:=pP X q
  refine Bool.eq_false_iff.mpr fun z=>?_
  have e:C=tp:=Value.ref.inj (dL.mp z)
  subst e
  rw[g1]at htp
  have z2:(Value.type "type")=.type "tuple":=iJ Obj.cls (bn htp)
  exact absurd z2 #[1]
 ca:=fun{prog w A E Q s} X p z=>by
  obtain⟨o,h1,h2⟩:=p
  obtain⟨bm,N,nm,qn,bs,hdct,sn,sub,ab,col,dd,k0,k1,k2,k3,k5,mN,g1,g2,g3,g4,g5⟩:=pP X q
  obtain⟨h,g,d,t,os⟩:=s
  exact Lf X n.ga n.gt n.cl g1 g4 h1 h2 z
structure GW(K:Frag)(mg:Str->Option Value)(T:Value)(f:Str->Option Bool):Prop where
 h:∀c b,f c=some b->∃C,mg c=some (.ref C)/\excIn K C qM rS=true/\GV K C/\kitOne K (.ref C) T=some b
theorem wS{T:V}{Tv:Value}(hT:∀(nk:Nat) (u:Value),cW nk T u->u=Tv){f:Str->Option Bool}(hI:GW X.K X.mg Tv f) :
  ja X (.builtin "isinstance") (fun xs H Q=>∃x μ st n c b,xs=[x,T]/\iW X.K X.mg μ st H/\bK X.K μ H (.loc n) x/\st[n]?=some (.exc c)/\f c=some b/\Q (.bl b) H):=by
 intro ai s σ H xs us Q I r h
 obtain⟨x,μ,st,n,c,b,rfl,S,rx,hn,hf,q⟩:=h
 obtain⟨u,u2,rfl,r1,r2⟩:=cR.two r
 obtain rfl:=hT _ u2 r2
 obtain⟨C,hm,hq,hnm,hk⟩:=hI.h c b hf
 obtain⟨a,ha,C',hm',hH⟩:=S.get hn
 obtain⟨a',ha',rfl⟩:=rx.locE
 rw[ha]at ha';cases ha'
 rw[hm]at hm';cases hm'
 cases(show u=Value.ref a from r1)
 obtain⟨⟨o,vs,h1,h2,h3⟩,_⟩:=I.hok a _ hH
 exact up (kia_one (zQ hq hnm) I.kIn ⟨o,h1,h2⟩ hk (fun z=>nomatch z) fun tk hk=>⟨.bl _,H,I.tok tk,rfl,q⟩)
def yh(f:Str->Option Bool)(fa:FE):FE:=fun ρ st=>(fa ρ st).bind fun x st=>match x with
 |.loc n=>(match st[n]? with
  |some (.exc c)=>(match f c with
   |some b=>.ok (.bl b) st
   |none=>.bad)
  |_=>.bad)
 |_=>.bad
section
variable{a:Expr}
theorem GX{T:V}{f:Str->Option Bool}{t:TE}(h:PE X e t)(hi:∀σ H Q,(tE X fa) σ H (fun x H1=>∃x' μ st n c b,([x,T]:List V)=[x',T]/\iW X.K X.mg μ st H1/\bK X.K μ H1 (.loc n) x'/\st[n]?=some (.exc c)/\f c=some b/\Q (.bl b) H1)->t σ H Q):SE X e (yh f fa):=⟨h.imp fun σ H Q z=>by
 refine hi σ H Q ?_
 obtain⟨μ,ρ,st,l,z⟩:=z
 refine⟨μ,ρ,st,l,RK.bind z l fun μ1 st1 x v H1 p1 x1 l1 q1 h1=>?_⟩
 split at h1
 ·rename_i n
  split at h1
  ·rename_i c e1
   split at h1
   ·rename_i b e2
    exact⟨v,μ1,st1,n,c,b,rfl,l1.sto,q1,e1,e2,h1 μ1 _ H1 (au _) fw.refl l1.sto .bl⟩
   ·exact h1.elim
  ·exact h1.elim
 ·exact h1.elim⟩
theorem Sv{xT:Str}{Ta:Addr}{f:Str->Option Bool}(hm:X.mg "isinstance"=none)(hT:X.mg xT=some (.ref Ta))(hI:GW X.K X.mg (.ref Ta) f)(ha:SE X a fa)(hg:Gl X "isinstance":=by rfl)(Uk:Gl X xT:=by rfl)(hd:(xT==("__debug__":Str))=false:=by decide)
  (he:starEach [a,.Name xT p2] X.env=(false,eval a X.env)::starEach [.Name xT p2] X.env:=by rfl) (FF:starEach [.Name xT p2] X.env=(false,eval (.Name xT p2) X.env)::starEach [] X.env:=by rfl) (j':(backTo pos (starEach [.Name xT p2] X.env)).any (·.1)=false:=by rfl) :
  SE X (.Call (.Name "isinstance" p) [a,.Name xT p2] [] pos) (yh f fa):=
 GX (T:=.ref Ta) (oz (wS (T:=.ref Ta) (Tv:=.ref Ta) (fun _ _ r=>r) hI) hg hm iS (iM ha.h (iM (xO Uk hT (v:=.ref Ta) rfl hd) oy FF) he) #[1] #[1] he j') fun _ _ _ z=>z
theorem Sw{xT:Str}{f:Str->Option Bool}(hm:X.mg "isinstance"=none)(hT:X.mg xT=none)(hv:bootBuiltins xT=some (.type T))(hI:GW X.K X.mg (.type T) f)(ha:SE X a fa)(hg:Gl X "isinstance":=by rfl)(Uk:Gl X xT:=by rfl)(hn:xT ≠ "__name__":=by decide)(hd:(xT==("__debug__":Str))=false:=by decide)
  (he:starEach [a,.Name xT p2] X.env=(false,eval a X.env)::starEach [.Name xT p2] X.env:=by rfl) (FF:starEach [.Name xT p2] X.env=(false,eval (.Name xT p2) X.env)::starEach [] X.env:=by rfl) (j':(backTo pos (starEach [.Name xT p2] X.env)).any (·.1)=false:=by rfl) :
  SE X (.Call (.Name "isinstance" p) [a,.Name xT p2] [] pos) (yh f fa):=
 GX (T:=.ty T) (oz (wS (T:=.ty T) (Tv:=.type T) (fun _ _ r=>r) hI) hg hm iS (iM ha.h (iM (Dc Uk hT hv (v:=.ty T) rfl hn hd) oy FF) he) #[1] #[1] he j') fun _ _ _ z=>z
end
end L2
namespace L2
open PySem PySem.Spec PyProof.Rows
inductive Sx(X:Cx):List Expr->List Addr->Prop
 |nil:Sx X [] []
 |cons {x:Str} {p:Pos} {C:Addr} {es:List Expr} {cs:List Addr}:X.mg x=some (.ref C)->Gl X x->(x==("__debug__":Str))=false->Sx X es cs->Sx X (.Name x p::es) (C::cs)
def Wn(vs:List V):TA:=fun _ H Q=>Q vs H
theorem OJ{cs:List Addr}(h:Sx X es cs):PA X es (Wn (cs.map V.ref)):=by
 induction h with
 |nil=>exact oy
 |cons hm hg hd _ ih=>exact(iM (xO hg hm (v:=.ref _) rfl hd) ih rfl).imp fun _ _ _ z=>z
structure GY(K:Frag)(mg:Str->Option Value)(Cs:List Addr)(f:Str->Option Bool):Prop where
 h:∀c b,f c=some b->∃C,mg c=some (.ref C)/\excIn K C qM rS=true/\GV K C/\kitAny K (.ref C) (Cs.map Value.ref)=some b
theorem wT:∀{Cs:List Addr} {us:List Value},cR nk (Cs.map V.ref) us->us=Cs.map Value.ref
 |[],us,r=>by cases r;rfl
 |C::Cs,us,r=>by
  cases r with
  |cons a t=>rw[wT t,show _=Value.ref C from a];rfl
theorem E5{Cs:List Addr}{f:Str->Option Bool}(hI:GY X.K X.mg Cs f) :
  ja X (.builtin "isinstance") (fun xs H Q=>∃x tp μ st n c b,xs=[x,.ref tp]/\iW X.K X.mg μ st H/\bK X.K μ H (.loc n) x/\st[n]?=some (.exc c)/\f c=some b/\ic X.K H tp (Cs.map V.ref)/\Q (.bl b) H):=by
 intro ai s σ H xs us Q I r h
 obtain⟨x,tp,μ,st,n,c,b,rfl,S,rx,hn,hf,hS,q⟩:=h
 obtain⟨u,u2,rfl,r1,r2⟩:=cR.two r
 cases(show u2=Value.ref tp from r2)
 obtain⟨C,hm,hq,hnm,hk⟩:=hI.h c b hf
 obtain⟨a,ha,C',hm',hH⟩:=S.get hn
 obtain⟨a',ha',rfl⟩:=rx.locE
 rw[ha]at ha';cases ha'
 rw[hm]at hm';cases hm'
 cases(show u=Value.ref a from r1)
 obtain⟨⟨o,vs,h1,h2,h3⟩,_⟩:=I.hok a _ hH
 obtain⟨bT,rt,⟨ot,e2,hc,n2,hd⟩,z2⟩:=I.tuple hS
 have hits:=wT rt
 subst hits
 obtain⟨cls,dd,data,sl⟩:=ot
 dsimp only at hc hd
 subst hc hd
 exact up (PySem.W.kia_tup (zQ hq hnm) I.kIn ⟨o,h1,h2⟩ e2 hk (fun z=>nomatch z) fun tk QM=>⟨.bl _,H,I.tok tk,rfl,q⟩)
section
variable{a:Expr}{k:Nat}
theorem OK{Cs:List Addr}{f:Str->Option Bool}(hm:X.mg "isinstance"=none)(hT:Sx X es Cs)(hI:GY X.K X.mg Cs f)(hz:Cs.length<=sizeLine)(ha:SE X a fa)(hg:Gl X "isinstance":=by rfl)
  (he:starEach [a,.Tuple es k p2] X.env=(false,eval a X.env)::starEach [.Tuple es k p2] X.env:=by rfl) (FF:starEach [.Tuple es k p2] X.env=(false,eval (.Tuple es k p2) X.env)::starEach [] X.env:=by rfl) (j':(backTo pos (starEach [.Tuple es k p2] X.env)).any (·.1)=false:=by rfl) :
  SE X (.Call (.Name "isinstance" p) [a,.Tuple es k p2] [] pos) (yh f fa):=⟨(oz (E5 hI) hg hm iS (iM ha.h (iM (Dp (OJ hT)) oy FF) he) #[1] #[1] he j').imp fun σ H Q h=>by
 walk_at "2"
 walk_at "1"
 split at h1
 ·rename_i n
  split at h1
  ·rename_i c e1
   split at h1
   ·rename_i b e2
    refine⟨by rw[az];exact hz,fun tp H2 hp e=>?_⟩
    subst e
    have xx:fw X.K H1 (eG H1 tp (.tup (Cs.map V.ref))):=ic.same (cY hp _)
    exact⟨v,tp,μ1,st1,n,c,b,rfl,l1.sto.same (cY hp _),q1.mono (au _) xx,e1,e2,ic.new,h1 μ1 _ _ (au _) xx (l1.sto.same (cY hp _)) .bl⟩
   ·exact h1.elim
  ·exact h1.elim
 ·exact h1.elim⟩
end
end L2
namespace L2
open PySem PySem.Spec PyProof.Rows
section
end
section
theorem vf(l:List α):∀(k:Nat) (gg:List α),List.foldl (fun x1 x2=>x1++x2) gg.toArray (List.replicate k l.toArray)=(gg++(List.replicate k l).flatten).toArray
 |0,gg=>by simp
 |k+1,gg=>by
  have e:gg.toArray++l.toArray=(gg++l).toArray:=by simp
  rw[List.replicate_succ,List.foldl_cons,e,vf l k (gg++l),List.replicate_succ,lY,aM]
theorem OL(l:List Nat)(n:Int):Txt.mul (tx l) n=tx (List.replicate n.toNat l).flatten:=by
 unfold Txt.mul
 by_cases h:n<1
 ·rw[aC h,show n.toNat=0 by omega];rfl
 ·rw[aJ h]
  split
  ·rename_i hc
   rw[d_,dL,dL,iV]at hc
   rcases hc with rfl|hc
   ·simp
   ·have:l=[]:=List.length_eq_zero_iff.mp hc
    subst this
    simp
  ·have:=vf l n.toNat []
   rw[iT]at this
   show Str.mk _=Str.mk _
   congr 1
theorem Lg:l7 X (binaryOp .Mult) (fun x y H Q=>∃(l:List Nat) (k:Int),x=.str (tx l)/\y=.int k/\-(2^62)<=k/\k<2^62/\l.length*k.toNat<=1000000/\l.length*k.toNat≠1/\Q (.str (tx (List.replicate k.toNat l).flatten)) H):=by
 intro ai s σ H x y v u Q I rx ry h
 obtain⟨l,k,rfl,rfl,h1,h2,h3,h31,q⟩:=h
 obtain⟨t,rfl⟩:=rx
 obtain⟨t',rfl⟩:=ry
 refine up (SB.mul ⟨?_,?_,?_⟩ fun t2 tk hk=>⟨.str _,H,I.tok _,⟨⟨t2,fun e=>absurd e ?_⟩,?_⟩,q⟩)
 ·simp;omega
 ·intro hk hx
  rw[iV]
  intro hg
  have hk1:1<=k:=by omega
  have:k*((2^63-1)/k)<=2^63-1:=Int.mul_ediv_self_le #[0]
  have h4:(2^63-1)<k*(l.length:Int):=by
   have:=Int.lt_mul_of_ediv_lt (a:=2^63-1) (b:=(l.length:Int)) (c:=k) #[0] hg
   rw[Int.mul_comm];exact this
  have h5:k*(l.length:Int)=((l.length*k.toNat:Nat):Int):=by
   rw[nX,Int.toNat_of_nonneg #[0],Int.mul_comm]
  rw[h5]at h4
  omega
 ·intro hk hx
  rw[iV]
  unfold Builtin.Str.tooLong
  rw[aI]
  have:(1000000:Nat)<=sizeLine:=by decide
  omega
 ·rw[iV];simpa[nF]using h31
 ·rw[OL]
def je:W->W->List al->R W
 |.int i,.int j,st=>if K3 i j then .ok (.int (i*j)) st else .bad
 |.str l,.int k,st=>if -(2^62)<=k/\k<2^62/\l.length*k.toNat<=kN/\l.length*k.toNat≠1 then .ok (.str (List.replicate k.toNat l).flatten) st else .bad
 |_,_,_=>.bad
theorem jf:rJ X (binaryOp .Mult) je:=⟨fun ai s σ H x y v u Q I rv ru zq=>by
 obtain⟨μ,st,wx,wy,S,rx,ry,q⟩:=zq
 cases wx with
 |int i=>
  cases wy with
  |int j=>
   have q':Fy X μ H Q (Sf (.int i) (.int j) st):=q
   exact Si.h ai s σ H x y v u Q I rv ru ⟨μ,st,.int i,.int j,S,rx,ry,q'⟩
  |_=>exact q.elim
 |str l=>
  cases wy with
  |int k=>
   simp only[je]at q
   split at q
   ·rename_i cc
    exact Lg ai s σ H x y v u Q I rv ru ⟨l,k,rx.strE,ry.intE,cc.1,cc.2.1,cc.2.2.1,cc.2.2.2,rM S q⟩
   ·exact q.elim
  |_=>exact q.elim
 |_=>cases wy<;>exact q.elim,fun x y st=>by
 unfold je
 repeat' split
 all_goals trivial⟩
end
section
variable{fs:FA}
end
section
variable{w:World}
theorem vg:∀(l:List Nat) (vs:List Value),vs.length=l.length->(∀(j:Nat) (v:Value),vs[j]?=some v->∃c u,l[j]?=some c/\v=.str (tx [c]) u)->StrsAre vs (l.map fun c=>tx [c])
 |[],[],_,_=>.nil
 |c::l,v::vs,hl,h=>by
  obtain⟨d,u,e,rfl⟩:=h 0 v rfl
  cases e
  exact .cons _ _ (vg l vs (Nat.succ.inj hl) fun j v hj=>h (j+1) v hj)
 |[],_::_,hl,_=>nomatch hl
 |_::_,[],hl,_=>nomatch hl
abbrev OM(gg:Array Value)(c:Nat):Obj:={ cls:=.type "list",data:=.seq gg c }
theorem GZ{R:Result->Shared->Prop}{I:Addr}{wr:List Addr}{n0:Nat}{P:Nat->Value->Prop}{St:Nat->Heap->Prop}(W:Walks prog w A.in1 I fp wr n P St)(few:n<=sizeLine)(D:Addr)(hD:D∉fp)(res:Value)
  (AY:∀i (s:Shared) (Q:Option Value->Shared->Prop) (E:Value->Shared->Prop),n0<=s.toks->i<n->St i s.heap ->
   (∀v h' tk,s.toks<=tk->iA tk [v]->P i v->St (i+1) h'->(∀b o,b∉wr->s.heap.get? b=some o->h'.get? b=some o)->Q (some v) { s with heap:=h',toks:=tk })->wpAny #[9] A.in1 (pyNext (.ref I)) Q E s) :
  ∀(m i:Nat) (z:Shared) (Ek:Array Value) (c:Nat),i+m=n->n0<=z.toks->St i z.heap->z.heap.get? D=some (OM Ek c)->ItemsOf P Ek i->iA z.toks Ek.toList ->
   (∀g tk got' c',z.toks<=tk->(∀b o,b≠D->b∉wr->z.heap.get? b=some o->g.get? b=some o)->g.get? D=some (OM got' c')->ItemsOf P got' n->iA tk got'.toList->R (.ok (.ret res)) { z with heap:=g,toks:=tk }) ->
   codeAny #[9] A (.builtin "list.extend.loop" ⟨[.ref D,.ref I,res],[]⟩) R z:=by
 have nw:D∉wr:=fun h=>hD (W.sub _ h)
 intro m
 induction m with
 |zero=>
  intro i z Ek c e hn0 st hd ac ta q
  obtain rfl:i=n:=e
  refine c6 PySem.F.entry_extend_loop ?_
  rw[cQ PySem.F.plain_extend_loop _]
  show wpAny _ A.in1 (pyNext (.ref I) >>= _) _ _ z
  exact ag (up (W.done z _ _ st fun g tk kp js=>aA (q g tk Ek c js (fun b o _ hb h=>kp b o hb h) (kp D _ nw hd) ac (ta.up js))))
 |succ m ih=>
  intro i z Ek c e hn0 st hd ac ta q
  refine c6 PySem.F.entry_extend_loop ?_
  rw[cQ PySem.F.plain_extend_loop _]
  show wpAny _ A.in1 (pyNext (.ref I) >>= _) _ _ z
  refine ag (AY i z _ _ hn0 #[0] st fun v g tk js tv hP bF kp=>?_)
  have hd':=kp D _ nw hd
  show wpAny _ A.in1 (updateSeq D (·.push v) >>= _) _ _ _
  refine ag (nV hd' rfl (aA ⟨eQ PySem.F.plain_extend_loop _,ih (i+1) _ (Ek.push v) _ #[0] (aH hn0 js) (W.frame _ _ _ bF fun b hb o h=>?_) (dF _ hd' rfl) (ac.push hP) (fun x t hx=>?_) fun g2 tk2 got2 c2 hle2 kp2 hd2 ac2 ta2=>?_⟩)
   (by rw[ac.1];omega) (by show(Ek.push v).size<=sizeLine+1;rw[Array.size_push,ac.1];omega))
  ·exact(cP _ _ (fun h:D=b=>hD (by rw[h];exact hb))).trans h
  ·rw[lX,bg]at hx
   rcases hx with hx|hx
   ·exact ta.up js x t hx
   ·exact tv x t hx
  ·exact q g2 tk2 got2 c2 (aH js hle2) (fun b o hb hw h=>kp2 b o hb hw ((cP _ _ (Ne.symm hb)).trans (kp b o hw h))) hd2 ac2 ta2
theorem yi{t:Tok}{Q:List Value->Shared->Prop}(Bg:0<s.toks)(hh:A.handled=none)(few:l.length<=sizeLine)
  (q:∀g tk (Ek:Array Value),s.toks<=tk->(∀b o,s.heap.get? b=some o->g.get? b=some o)->ItemsOf (SignAt (tx l)) Ek (tx l).cps.size->iA tk Ek.toList->Q Ek.toList { s with heap:=g,toks:=tk }):wpAny #[9] A (collect (.str (tx l) t)) Q E s:=by
 have hn:(tx l).cps.size=l.length:=by simp[tx]
 unfold collect
 refine ag (pG (c6 entry_proto_collect' ?_))
 rw[cQ PySem.F.plain_proto_collect _]
 show wpAny _ A.in1 (newList [] >>= fun d=>again (.builtin "list.__iadd__" ⟨[d,.str (tx l) t],[]⟩)) _ _ s
 refine ag (cD (aA ⟨eQ PySem.F.plain_list_iadd _,c6 entry_list_iadd' ?_⟩))
 rw[cQ PySem.F.plain_list_iadd _]
 show wpAny _ A.in1 (Builtin.List.listExtendWith (.ref s.heap.objs.size) (.str (tx l) t) (.ref s.heap.objs.size)) _ _ _
 unfold Builtin.List.listExtendWith
 refine ag (gR (T:="str") (v:=.str (tx l) t) rfl ?_)
 have e1:Builtin.List.listSameRef (.ref s.heap.objs.size) (.str (tx l) t)=false:=rfl
 have e2:(Value.type "str" == Value.type "list")=false:=by decide
 have e3:(Value.type "str" == Value.type "tuple")=false:=by decide
 simp only[e1,e2,e3,ms,gP,iK]
 generalize hL:s.heap.objs.size=L
 have gL:(s.heap.push { cls:=.type "list",data:=.seq ([]:List Value).toArray }).get? L=some (OM #[] 0):=by rw[<- hL];exact aO _ rfl
 have z1:(s.heap.push { cls:=.type "list",data:=.seq ([]:List Value).toArray }).objs.size=L+1:=by rw[cm,hL]
 have kp1:∀b o,s.heap.get? b=some o->(s.heap.push { cls:=.type "list",data:=.seq ([]:List Value).toArray }).get? b=some o:=fun b o e=>av _ e
 generalize s.heap.push { cls:=.type "list",data:=.seq ([]:List Value).toArray }=g1 at gL z1 kp1 ⊢
 have ie:∀(ob:Obj) (ty:String),(∀A:Around,A.handled=none->Walks prog w A (L+1) [L+1] [L+1] (tx l).cps.size (SignAt (tx l)) (fun i h=>h.IsStrIter (L+1) ty (tx l) t i))->(g1.push ob).IsStrIter (L+1) ty (tx l) t 0 ->
   (∀{A:Around} {s:Shared} {i c:Nat} {Q:Option Value->Shared->Prop} {E:Value->Shared->Prop},s.heap.IsStrIter (L+1) ty (tx l) t i->(tx l).cps[i]?=some c ->
    (∀h',h'.IsStrIter (L+1) ty (tx l) t (i+1)->Heap.SameBut (L+1) s.heap h'->Q (some (.str ⟨#[c]⟩ s.toks)) { s with heap:=h',toks:=s.toks+1 })->wpAny #[9] A (pyNext (.ref (L+1))) Q E s) ->
   codeAny #[9] A (.builtin "list.extend.loop" ⟨[.ref L,.ref (L+1),.ref L],[]⟩) (wants (fun r s'=>wpAny #[9] A (match r with|.ref a=>(do match (<- load a).data with|.seq xs _=>pure xs.toList|_=>unsupported "internal:collect")|_=>unsupported "internal:collect") Q E s') E) { s with heap:=g1.push ob }:=fun ob ty W h0 next=>by
  refine GZ (n0:=s.toks) (W A.in1 (by simpa using hh)) (by rw[hn];exact few) L #[18] (.ref L) (fun i s' Q E hn0 hi st q=>?_) (tx l).cps.size 0 _ #[] 0 #[0] (ay _) h0 (av _ gL) (ItemsOf.nil _) (fun x u hx=>by simp at hx) fun g tk Ek c js kp hd ac ta=>?_
  ·obtain⟨c,hx⟩:∃c,(tx l).cps[i]?=some c:=⟨_,eF hi⟩
   refine next st hx fun h' bF hs=>q _ h' (s'.toks+1) (bB _) (fun x u hx' _=>?_) ⟨c,_,hx,rfl⟩ bF fun b o hb e=>hs.extBut b o (fun z=>hb (by simp[z])) e
   rw[aV]at hx'
   cases hx'
   exact⟨aS Bg hn0,cM _⟩
  ·refine ag (wpAny_load hd (aA (q g tk Ek js (fun b o e=>kp b o ?_ ?_ (av _ (kp1 b o e))) ac ta)))
   ·rw[<- hL];exact aY (aP e)
   ·intro hm
    rw[aV]at hm
    have:=aP e
    rw[hL,hm]at this
    have this:L+1<L:=this
    omega
 have hint:∀(s':Shared) (Q':Bool->Shared->Prop) (E':Value->Shared->Prop),Q' false s'->wpAny #[9] A.in1 (Builtin.List.listLengthHint (.str (tx l) t)) Q' E' s':=fun s' Q' E' y=>by
  unfold Builtin.List.listLengthHint
  refine ag (nT (T:="str") (v:=.str (tx l) t) rfl PySem.F.str_len ?_)
  wp_delta
  refine ag (gG (T:="str") (v:=.str (tx l) t) (b:=true) rfl (by rw[dH];kernel_rfl) ?_)
  show wpAny _ A.in1 (typeOf (Value.str (tx l) t) >>= _) _ _ _
  exact ag (gR (T:="str") (v:=.str (tx l) t) rfl (aA y))
 have key:∀(ob:Obj),codeAny #[9] A (.builtin "list.extend.loop" ⟨[.ref L,.ref (L+1),.ref L],[]⟩) (wants (fun r s'=>wpAny #[9] A (match r with|.ref a=>(do match (<- load a).data with|.seq xs _=>pure xs.toList|_=>unsupported "internal:collect")|_=>unsupported "internal:collect") Q E s') E) { s with heap:=g1.push ob }->_:=fun ob h=>h
 cases ha:(tx l).cps.all (· < 128)
 ·refine ag (lW ha (ag (dm (hint _ _ _ ?_))))
  show wpAny _ _ _ _ _ _
  rw[show Shared.heap { s with heap:=g1 }=g1 from rfl,z1]
  rw[aJ #[1]]
  exact aA ⟨eQ PySem.F.plain_extend_loop _,ie _ "str_iterator" (fun A hA=>Walks.strWide hA _ (tx l) t) ⟨_,by rw[<- z1];exact aO _ rfl,rfl,rfl⟩ fun a b c=>jl a b c⟩
 ·refine ag (k_ ha (ag (dm (hint _ _ _ ?_))))
  rw[show Shared.heap { s with heap:=g1 }=g1 from rfl,z1]
  rw[aJ #[1]]
  exact aA ⟨eQ PySem.F.plain_extend_loop _,ie _ "str_ascii_iterator" (fun A hA=>Walks.strAscii hA _ (tx l) t) ⟨_,by rw[<- z1];exact aO _ rfl,rfl,rfl⟩ fun a b c=>i_ a b c⟩
theorem zR{t:Tok}(Bg:0<s.toks)(few:l.length<64)(hh:A.handled=none)
  (q:∀(s1:Shared) (g1:Heap) (out:Array Value) (ss:List Str) (e:Nat),(∀b o,s.heap.get? b=some o->s1.heap.get? b=some o)->s1.gens=s.gens->s1.drawn=s.drawn->s1.os=s.os->(∀b o,s1.heap.get? b=some o->g1.get? b=some o)->g1.get? s1.heap.objs.size=some (seqObj "list" out e) ->
   s.toks<=s1.toks->iA s1.toks out.toList->StrsAre out.toList ss->ss.Perm (l.map fun c=>tx [c])->sortedS ss=true->Q (.ref s1.heap.objs.size) { s1 with heap:=g1 }):wpAny #[9] A (call (.builtin "sorted") [.str (tx l) t]) Q E s:=by
 have hn:(tx l).cps.size=l.length:=by simp[tx]
 apply lE kind_sorted plain_sorted entry_sorted (args_sorted1 _)
 show wpAny _ _ (checkCount "sorted" 1 1 _ >>= _) _ _ _
 refine ag (aA (ag (yi Bg (by simpa using hh) (by rw[lU];omega) (fun g tk gg js kp ha ta=>?_))))
 generalize hs1:({ s with heap:=g,toks:=tk }:Shared)=s1
 have eg:s1.gens=s.gens:=by rw[<- hs1]
 have ed:s1.drawn=s.drawn:=by rw[<- hs1]
 have eo:s1.os=s.os:=by rw[<- hs1]
 have kp:∀b o,s.heap.get? b=some o->s1.heap.get? b=some o:=by rw[<- hs1];exact kp
 have js:s.toks<=s1.toks:=by rw[<- hs1];exact js
 have ta:iA s1.toks gg.toList:=by rw[<- hs1];exact ta
 have mT:StrsAre gg.toList (l.map fun c=>tx [c]):=by
  refine vg l _ (by rw[d8,ha.1,hn]) fun j v hj=>?_
  obtain⟨c,u,hc,e⟩:=ha.2 j v (by simpa using hj)
  exact⟨c,u,by simpa[tx]using hc,e⟩
 have hvl:gg.toList.length<64:=by rw[d8,ha.1,hn];exact few
 refine ag (wpAny_newList ?_ (by rw[lU];omega))
 have oL:(s1.heap.push (seqObj "list" gg.toList.toArray 0)).get? s1.heap.objs.size=some (seqObj "list" gg.toList.toArray 0):=aO _ rfl
 refine ag (dm (cN slot_list_sort ⟨_,oL,rfl⟩ entry_list_sort (list_sort_treeK qz oL mT.keysOf (fun a b r e=>sA (by rw[<- e];exact mT)) hvl fun st a1 a2=>⟨_,rfl,?_⟩) (args_list_sort _)))
 obtain⟨ss,h1,h2,h3⟩:=pD mT a1 a2
 obtain⟨e,he⟩:=sortedHeap_at (out:=(arrOf st).map (·.2)) oL
 refine aA ⟨_,rfl,q s1 _ _ ss e kp eg ed eo (fun b o hb=>?_) he js (ta.sub (uY a1)) h1 h2 h3⟩
 rw[sortedHeap_old (aY (aP hb)) (by rw[cm];exact cX (aP hb))]
 exact av _ hb
end
section
def oM(ws:List W)(st:List al):R W:=match ws with
 |[.str l]=>if l.length<64 then .ok (.loc st.length) (st++[.lst ((lL (l.map fun c=>[c])).map W.str)])else .bad
 |[.loc n]=>pN [.loc n] st
 |_=>.bad
theorem DC(hc:X.calm=true:=by rfl):rN X (.builtin "sorted") oM:=⟨fun ai s σ H vs us Q I rv zq=>by
 obtain⟨μ,st,ws,S,r,q⟩:=zq
 unfold oM at q
 split at q
 ·rename_i l
  split at q
  ·rename_i c
   obtain⟨y,rfl,ry⟩:=r.one
   have:=ry.strE;subst this
   obtain⟨u,rfl,ru⟩:=ou rv
   obtain⟨t,rfl⟩:=ru
   refine zR I.pos c (I.ok.hd hc) fun s1 g1 out ss e kp eg ed eo k1 gL js ta mT hp hsr=>?_
   have es:s1={ s with heap:=s1.heap,toks:=s1.toks }:=by cases s1;cases s;cases eg;cases ed;cases eo;rfl
   generalize s1.heap=g0,s1.toks=tk at es kp k1 gL js ta ⊢
   subst es
   have I2:bM X ai σ H { s with heap:=g0,toks:=tk }:=I.kept2 (d':=s.drawn) fun b o e=>kp b o e
   have yZ:H g0.objs.size=none:=I2.hok.fresh (ay _)
   have hmap:(ss.map fun z=>z.cps.toList).map tx=ss:=by
    rw[bp]
    have:(tx∘fun z:Str=>z.cps.toList)=id:=funext fun z=>Dq z
    rw[this,j6]
   have hperm:(ss.map fun z=>z.cps.toList).Perm (l.map fun c=>[c]):=by
    have e:=hp.map fun z:Str=>z.cps.toList
    rw[bp]at e
    exact e
   have ez:(ss.map fun z=>z.cps.toList)=lL (l.map fun c=>[c]):=yd (vc (by rw[hmap];exact hsr)) (zM _) (hperm.trans (iX _).symm)
   have hvals:cR tk ((lL (l.map fun c=>[c])).map fun l=>V.str (tx l)) out.toList:=by
    have e:=mV mT ta
    rw[<- hmap,ez,bp]at e
    exact e
   refine⟨.ref g0.objs.size,_,I2.laid (o:=.lst ((lL (l.map fun c=>[c])).map fun l=>V.str (tx l))) (t':=tk) k1 (ay _) ⟨?_,out.toList,e,hvals,gL⟩,rfl,?_⟩
   ·rw[az,(iX _).length_eq,az]
    exact aH (fW c) #[1]
   ·exact q (μ++[g0.objs.size]) _ _ (bR _ _) (ic.same (cY yZ _)) (S.newLst yZ (zN _)) (mZ S)
  ·exact q.elim
 ·exact zO.h ai s σ H _ us Q I rv ⟨μ,st,_,S,r,q⟩
 ·exact q.elim,fun ws st=>by
 unfold oM
 split
 ·split<;>trivial
 ·exact(zO (X:=X)).n _ _
 ·trivial⟩
end
section
variable{a b c:Expr}{fs:FA}
end
section
variable{f:FG}
end
section
variable{w:World}
variable{z P O i j:Addr}{xs ys:Array Value}{x y:Value}
end
open AutoSeq1 (wpAny_loadPart')
section
variable{w:World}
end
section
variable{a b:Expr}{fs:FA}
end
open Builtin.Str (tooLong)
section
variable{w:World}
end
section
end
section
end
end L2
namespace L2
open PySem PySem.Spec PyProof.Rows
section
end
end L2
namespace L2
open PySem PySem.Spec PyProof.Rows
end L2
namespace L2
open PySem PySem.Spec PyProof.Rows
abbrev Sy:=List W×List (Nat×List W)
abbrev Wo:=cv->List al->R Sy
section
variable{fi:Wo}{f:FG}
end
section
variable{a b:Expr}{fs:FA}
end
end L2
namespace L2
open PySem PySem.Spec PyProof.Rows
def G0(l:List Nat)(c:Nat):Int:=match Builtin.Str.occurrences (tx l) (tx [c]) 0 (tx l).length 1 with
 |i::_=>(i:Int)
 |[]=>-1
section
def vh(x:W)(ws:List W)(st:List al):R W:=match x,ws with
 |.str l,[.str [c]]=>.ok (.int (G0 l c)) st
 |_,_=>.bad
theorem DD:OE X "str.find" vh:=⟨fun ai s σ H x vs v us Q I rv rus zq=>by
 obtain⟨μ,st,wx,ws,S,rx,rs,q⟩:=zq
 unfold vh at q
 split at q
 ·rename_i l c
  obtain⟨y1,rfl,ry⟩:=rs.one
  have:=rx.strE;subst this
  have:=ry.strE;subst this
  obtain⟨t,rfl⟩:=rv
  obtain⟨u,rfl,t2,rfl⟩:=rus.one
  refine call_gives PySem.F.slot_str_find (jG _ _ _) PySem.F.entry_str_find (PySem.F.args_str_find_2 _ _) (gives_str_find (tx l) (tx [c]) t t2) ?_
  exact⟨.int _,H,I.tok _,⟨_,rfl⟩,q μ _ H (au _) fw.refl S .int⟩
 ·exact q.elim,fun x ws st=>by
 unfold vh
 repeat' split
 all_goals trivial⟩
end
end L2
namespace L2
open PySem PySem.Spec PyProof.Rows
section
variable{wi:TI}{g:TG}{te:Cx->TE}
def noB(sn:List (Str×NameKind)):Bool:=sn.all fun x=>!(x.2==.cell)&&!(x.2==.free)&&(!(x.2==.local)||sn.lookup x.1==some .local)
end
section
variable{f:FG}
end
end L2
namespace L2
open PySem PySem.Spec PyProof.Rows
theorem DK.key_inj{a b:DK}:a.key=b.key↔a=b:=by
 cases a<;>cases b<;>simp[DK.key,xX]
def qj:W->Option DK
 |.int z=>some (.i z)
 |.str l=>some (.s l)
 |_=>none
theorem yj{w:W}{k:DK}{v:V}(h:qj w=some k)(r:bK K μ H w v):v=kV k.key:=by
 cases w with
 |int z=>cases h;exact r.intE
 |str l=>cases h;exact r.strE
 |_=>cases h
def kR(kvs:List (DK×W))(k:DK):Option W:=(kvs.find? fun p=>decide (p.1=k)).map fun p=>p.2
def kz(kvs:List (DK×W))(k:DK)(v:W):List (DK×W):=if (kvs.any fun p=>decide (p.1=k))=true then kvs.map fun p=>if p.1=k then(p.1,v)else p else kvs++[(k,v)]
abbrev dV(kvs:List (DK×W))(vs:List V):List (jT×V):=(kvs.map fun p=>p.1.key).zip vs
section
theorem Cf:∀{kvs:List (DK×W)} {vs:List V} (k:DK),RelWs K μ H (kvs.map fun p=>p.2) vs->(∃w v,kR kvs k=some w/\oA (dV kvs vs) k.key=some v/\bK K μ H w v)\/(kR kvs k=none/\oA (dV kvs vs) k.key=none)
 |[],vs,k,r=>.inr ⟨rfl,rfl⟩
 |p::kvs,vs,k,r=>by
  obtain⟨x,xs,rfl,a,b⟩:=RelWs.consE r
  have ih:=Cf (kvs:=kvs) k b
  by_cases h:p.1=k
  ·refine .inl ⟨p.2,x,?_,?_,a⟩
   ·unfold kR;rw[dr];simp[h]
   ·show oA ((p.1.key,x)::dV kvs xs) k.key=some x
    exact rA (by rw[h])
  ·have e1:kR (p::kvs) k=kR kvs k:=by unfold kR;rw[dr];simp[h]
   have e2:oA (dV (p::kvs) (x::xs)) k.key=oA (dV kvs xs) k.key:=rB (p:=(p.1.key,x)) fun z=>h (DK.key_inj.mp z)
   rw[e1,e2];exact ih
theorem G3:∀{kvs:List (DK×W)} {vs:List V} (k:DK),RelWs K μ H (kvs.map fun p=>p.2) vs->((dV kvs vs).any fun kv=>decide (kv.1=k.key))=(kvs.any fun p=>decide (p.1=k))
 |[],vs,k,r=>rfl
 |p::kvs,vs,k,r=>by
  obtain⟨x,xs,rfl,a,b⟩:=RelWs.consE r
  show(decide (p.1.key=k.key)||(dV kvs xs).any _)=(decide (p.1=k)||kvs.any _)
  rw[G3 k b]
  congr 1
  rw[jI];exact DK.key_inj
theorem G4{k:DK}{w:W}{v:V}:∀{kvs:List (DK×W)} {vs:List V},RelWs K μ H (kvs.map fun p=>p.2) vs->bK K μ H w v->∃us,(dV kvs vs).map (fun kv=>if kv.1=k.key then(kv.1,v)else kv)=dV (kvs.map fun p=>if p.1=k then(p.1,w)else p) us/\RelWs K μ H ((kvs.map fun p=>if p.1=k then(p.1,w)else p).map fun p=>p.2) us
 |[],vs,r,tt=>⟨[],rfl,.nilI⟩
 |p::kvs,vs,r,tt=>by
  obtain⟨x,xs,rfl,a,b⟩:=RelWs.consE r
  obtain⟨us,e,q⟩:=G4 (k:=k) b tt
  by_cases h:p.1=k
  ·refine⟨v::us,?_,?_⟩
   ·show(if p.1.key=k.key then(p.1.key,v)else(p.1.key,x))::(dV kvs xs).map _=_
    rw[aC (by rw[h]),e,aW,aC h];rfl
   ·rw[aW,aC h];exact .consI tt q
  ·refine⟨x::us,?_,?_⟩
   ·show(if p.1.key=k.key then(p.1.key,v)else(p.1.key,x))::(dV kvs xs).map _=_
    rw[aJ (fun z=>h (DK.key_inj.mp z)),e,aW,aJ h];rfl
   ·rw[aW,aJ h];exact .consI a q
theorem ON{k:DK}{w:W}{v:V}(r:RelWs K μ H (kvs.map fun p=>p.2) vs)(tt:bK K μ H w v):∃us,sK (dV kvs vs) k.key v=dV (kz kvs k w) us/\RelWs K μ H ((kz kvs k w).map fun p=>p.2) us:=by
 unfold sK kz
 rw[G3 k r]
 by_cases h:(kvs.any fun p=>decide (p.1=k))=true
 ·rw[aC h,aC h]
  exact G4 r tt
 ·rw[aJ h,aJ h]
  refine⟨vs++[v],?_,?_⟩
  ·unfold dV
   rw[b7,List.zip_append (by rw[az,<- r.len,az])];rfl
  ·rw[b7];exact r.app (.consI tt .nilI)
theorem OO(r:RelWs K μ H (kvs.map fun p=>p.2) vs):(dV kvs vs).length=kvs.length:=by
 unfold dV;rw[List.length_zip,az,<- r.len,az,Nat.min_self]
theorem ic.butD{l:Addr}{xs:List (jT×V)}(e:U1 l H H')(hl:H l=some (.dK xs)):fw K H H':=by
 have vS:∀{p:Addr} {o:HO},H p=some o->(∀zs,o≠.dK zs)->p≠l:=fun{p o} q hn z=>by subst z;rw[hl]at q;cases q;exact hn _ rfl
 refine⟨fun p ys h=>?_,fun b o u h=>e _ _ (vS h (fun _ z=>by cases z)) h⟩
 rcases h with(h|⟨o,h⟩)|h
 ·exact .inl (.inl (e _ _ (vS h (fun _ z=>by cases z)) h))
 ·exact .inl (.inr ⟨o,e _ _ (vS h (fun _ z=>by cases z)) h⟩)
 ·exact .inr h
end
theorem iW.setD(S:iW K mg μ st H){QH:List (DK×W)}{xs:List (jT×V)}{us:List V}(hn:st[n]?=some (.dct kvs))(hm:μ[n]?=some a)(ha:H a=some (.dK xs))(hr:RelWs K μ H (QH.map fun p=>p.2) us) :
  iW K mg μ (st.set n (.dct QH)) (eG H a (.dK (dV QH us))):=
 S.setG hn rfl hm ha (fun _ _ z=>by cases z) (fun _ z=>by cases z) (ic.butD mW ha) rfl ⟨us,gU,hr.mono (au _) (ic.butD mW ha)⟩
def ko(st:List al):W->Option (Nat×List (DK×W))
 |.loc n=>(match st[n]? with
  |some (.dct kvs)=>some (n,kvs)
  |some (.rod kvs)=>some (n,kvs)
  |_=>none)
 |_=>none
def zS(st:List al):W->Option (Nat×List (DK×W))
 |.loc n=>(match st[n]? with
  |some (.dct kvs)=>some (n,kvs)
  |_=>none)
 |_=>none
theorem rT(S:iW K mg μ st H){x:W}{v:V}(h:ko st x=some (n,kvs))(r:bK K μ H x v) :
  ∃a vs,(st[n]?=some (.dct kvs)\/st[n]?=some (.rod kvs))/\μ[n]?=some a/\v=.ref a/\Rd H a (.dK (dV kvs vs))/\RelWs K μ H (kvs.map fun p=>p.2) vs:=by
 cases x with
 |loc m=>
  simp only[ko]at h
  cases e:st[m]? with
  |none=>rw[e]at h;cases h
  |some c=>
   rw[e]at h
   cases c with
   |dct z=>
    cases h
    obtain⟨a,g,vs,k,rr⟩:=S.get e
    obtain⟨b,f,rfl⟩:=r.locE
    rw[g]at f;cases f
    exact⟨a,vs,.inl e,g,rfl,.inl k,rr⟩
   |rod z=>
    cases h
    obtain⟨a,g,vs,o,k,rr⟩:=S.get e
    obtain⟨b,f,rfl⟩:=r.locE
    rw[g]at f;cases f
    exact⟨a,vs,.inr e,g,rfl,.inr ⟨o,k⟩,rr⟩
   |_=>cases h
 |_=>cases h
theorem Lh(S:iW K mg μ st H){x:W}{v:V}(h:zS st x=some (n,kvs))(r:bK K μ H x v) :
  ∃a vs,st[n]?=some (.dct kvs)/\μ[n]?=some a/\v=.ref a/\H a=some (.dK (dV kvs vs))/\RelWs K μ H (kvs.map fun p=>p.2) vs:=by
 cases x with
 |loc m=>
  simp only[zS]at h
  cases e:st[m]? with
  |none=>rw[e]at h;cases h
  |some c=>
   rw[e]at h
   cases c with
   |dct z=>
    cases h
    obtain⟨a,g,vs,k,rr⟩:=S.get e
    obtain⟨b,f,rfl⟩:=r.locE
    rw[g]at f;cases f
    exact⟨a,vs,e,g,rfl,k,rr⟩
   |_=>cases h
 |_=>cases h
theorem zl.r{kvs:List (jT×V)}{k:jT}(e:Rd H a (.dK kvs)):zl H a (kV k) (oA kvs k):=.inl ⟨kvs,k,e,rfl,rfl⟩
section
variable{a b c d i:Expr}{fc fo fi:FE}{fs:FA}
def E6(neg:Bool)(x y:W)(st:List al):R W:=match ko st y with
 |some (_,kvs)=>(match qj x with
  |some k=>.ok (.bl (if neg then !(kR kvs k).isSome else(kR kvs k).isSome)) st
  |none=>.bad)
 |none=>mR neg x y st
theorem E7{k:DK}(r:RelWs K μ H (kvs.map fun p=>p.2) vs):(oA (dV kvs vs) k.key).isSome=(kR kvs k).isSome:=by
 rcases Cf k r with⟨w,v,e1,e2,_⟩|⟨e1,e2⟩<;>rw[e1,e2]<;>rfl
theorem Sz(hr:jr kk X.A)(ho:rJ X (compareOp .In) (mR false)):rJ X (compareOp .In) (E6 false):=⟨fun ai s σ H x y v u Q I rv ru zq=>by
 obtain⟨μ,st,wx,wy,S,rx,ry,q⟩:=zq
 unfold E6 at q
 cases e:ko st wy with
 |none=>rw[e]at q;exact ho.h ai s σ H x y v u Q I rv ru ⟨μ,st,wx,wy,S,rx,ry,q⟩
 |some nk=>
  obtain⟨n,kvs⟩:=nk
  rw[e]at q
  cases ek:qj wx with
  |none=>simp only[ek]at q;exact q.elim
  |some k=>
   simp only[ek]at q
   obtain⟨a,vs,_,_,rfl,ha,r⟩:=rT S e ry
   have:=yj ek rx
   subst this
   obtain rfl:u=Value.ref a:=ru
   refine UX (F7 hr) I (zl.r ha) rv fun s' I'=>?_
   rw[E7 r]
   exact⟨.bl _,H,I',rfl,jB S q⟩,fun x y st=>by
 unfold E6
 split
 ·split<;>trivial
 ·exact ho.n x y st⟩
def mD(x i v:W)(st:List al):Option (List al):=match zS st x,qj i with
 |some (n,kvs),some k=>if kvs.length<kN then some (st.set n (.dct (kz kvs k v)))else none
 |_,_=>none
theorem Cg(hr:jr kk X.A):Ez X (GK X mD):=fun ai s σ H o i v ov iv u Q I r1 r2 r3 zq=>by
 obtain⟨μ,st,wo,wi,wv,bF,S,ro,ri,rv,e,q⟩:=zq
 unfold mD at e
 cases e1:zS st wo with
 |none=>rw[e1]at e;cases e
 |some nk=>
  obtain⟨n,kvs⟩:=nk
  cases e2:qj wi with
  |none=>rw[e1,e2]at e;cases e
  |some k=>
   rw[e1,e2]at e
   simp only at e
   split at e
   ·rename_i hl
    cases e
    obtain⟨a,vs,hn,hm,rfl,ha,r⟩:=Lh S e1 ro
    have:=yj e2 ri
    subst this
    obtain rfl:ov=Value.ref a:=r1
    obtain⟨us,g1,g2⟩:=ON (k:=k) r rv
    refine EL (F7 hr) I (KI.k ha (by rw[OO r];exact aS hl #[1])) r2 r3 fun s' I'=>⟨_,I',?_⟩
    rw[g1]
    exact q _ (ic.butD mW ha) (S.setD hn hm ha g2)
   ·cases e
def G5:FE:=fun _ st=>.ok #[2] (st++[.dct []])
theorem G6:SE X (.Dict [] [] pos) G5:=⟨F_.imp fun σ H Q h=>by
 walk_at "2"
 intro p hp
 have hs:ud H (eG H p (.dK [])):=cY hp _
 exact h (μ++[p]) (.ref p) _ (bR _ _) (ic.same hs) (l.sto.push (c:=.dct []) hp ⟨[],gU,.nilI⟩) (mZ l.sto)⟩
end
end L2
namespace L2
open PySem PySem.Spec PyProof.Rows
section
variable{y:Str}{a b:Expr}{fs:FA}
end
inductive DefIn(K:Frag)(x:Str)(st:Stmt):Prop
 |mk {ad:Addr} {od an:Option Addr} {sl:Array (Option Value)} {oc kV dc pm cd ct:Value} (a:nsIn K mainGlobals x=some (some (.ref ad)))
   (l:K.lookup ad=some ⟨oc,od,.func (fnOf x x (jK st) (iN st) (a8 st) .none kV dc pm an cd ct),sl⟩) (c:codeIn K cd x=true) (k:keepIn K (.ref ad)=true):DefIn K x st
theorem DefIn.fn{st:Stmt}(d:DefIn K x st)(X:K.In h)(G:h.Ns mainGlobals mg):∃f fd,j9 K x x st f fd/\mg x=some (.ref f):=by
 obtain⟨a,l,c,k⟩:=d
 exact⟨_,_,F6 (st:=st) l c k,mg_of X G a⟩
theorem SC{l:List Value}(h:l.length=n+1):∃a t,l=a::t/\t.length=n:=by
 cases l with
 |nil=>cases h
 |cons a t=>exact⟨a,t,rfl,Nat.succ.inj h⟩
theorem VW{l:List Value}(h:l.length=1):∃a,l=[a]:=fB.mp h
theorem VX{l:List Value}(h:l.length=2):∃a b,l=[a,b]:=by obtain⟨a,t,rfl,k⟩:=SC h;obtain⟨b,rfl⟩:=VW k;exact⟨a,b,rfl⟩
theorem VY{l:List Value}(h:l.length=3):∃a b c,l=[a,b,c]:=by obtain⟨a,t,rfl,k⟩:=SC h;obtain⟨b,c,rfl⟩:=VX k;exact⟨a,b,c,rfl⟩
theorem VZ{l:List Value}(h:l.length=4):∃a b c d,l=[a,b,c,d]:=by obtain⟨a,t,rfl,k⟩:=SC h;obtain⟨b,c,d,rfl⟩:=VY k;exact⟨a,b,c,d,rfl⟩
theorem V0{l:List Value}(h:l.length=5):∃a b c d e,l=[a,b,c,d,e]:=by obtain⟨a,t,rfl,k⟩:=SC h;obtain⟨b,c,d,e,rfl⟩:=VZ k;exact⟨a,b,c,d,e,rfl⟩
theorem Wp{l:List Value}(h:l.length=6):∃a b c d e f,l=[a,b,c,d,e,f]:=by obtain⟨a,t,rfl,k⟩:=SC h;obtain⟨b,c,d,e,f,rfl⟩:=V0 k;exact⟨a,b,c,d,e,f,rfl⟩
section
variable{w:World}{k:Nat}{st:Stmt}{f:Addr}
theorem du(F:j9 K x x st f fd)(hm:mg x=some (.ref f))(ok:eY P w K mg base (kP P w) k f fd ps (md K mg n G))(hn:ps.length=n:=by rfl)
  (hb:∀(kV uL pm:Value) (an:Option Addr) (gJ ct:Value) (us:List Value),us.length=ps.length->bindArgs (fnOf x x (jK st) (iN st) (a8 st) .none kV uL pm an gJ ct) ⟨us,[]⟩=pure (ps.zip us):=by(intro _ _ _ _ _ _ _ q;first|(obtain⟨_,rfl⟩:=VW q;rfl)|(obtain⟨_,_,rfl⟩:=VX q;rfl)|(obtain⟨_,_,_,rfl⟩:=VY q;rfl)|(obtain⟨_,_,_,_,rfl⟩:=VZ q;rfl)|(obtain⟨_,_,_,_,_,rfl⟩:=V0 q;rfl)|(obtain⟨_,_,_,_,_,_,rfl⟩:=Wp q;rfl))):cG P w K mg base k x n G:=jM F hm hn hb ok
end
section
variable{sp:Scope}
theorem mh{N:List Str}(a:sp.kind=.function:=by rfl)(b:sp.isCoroutine=false:=by rfl)(c:sp.isGenerator=false:=by rfl)(d:N.Nodup:=by decide +kernel)(f:N.take ps.length=ps:=by rfl)(g:∀x∈ps,sp.names.lookup x=some .local\/sp.names.lookup x=some .cell:=by decide +kernel)(h:∀y∈sp.names,y.2≠.free:=by decide +kernel):bJ N ps sp:=⟨a,b,c,d,f,g,h⟩
theorem sS(i:Nat){iY:Pos}(sc:bJ X.N ps sp)(he:SE X e fe)(hi:X.N[i]?=some x:=by rfl)(hx:J8 X.env.scope x:=by first|exact .inl rfl|exact .inr rfl)(hs:swapsWith e (some (.Name x iY)) pos.line X.env=pure false:=by rfl)(hf:X.fn x=true\/X.env.scope.names.lookup x=some .local:=by first|exact .inl rfl|exact .inr rfl|assumption) :
  SS X (.Assign [.Name x iY] e pos) (b6 i fe):=OC sc.nd hi hx he hs hf
theorem sG(i:Nat)(sc:bJ X.N ps sp)(hi:X.N[i]?=some x:=by rfl)(hx:J8 X.env.scope x:=by first|exact .inl rfl|exact .inr rfl)(hf:X.fn x=true\/X.env.scope.names.lookup x=some .local:=by first|exact .inl rfl|exact .inr rfl|assumption):SG X (.Name x pos) (g8 i):=Dy sc.nd hi hx hf
theorem sC{cl:List (Str×Addr)}{C s0 H0 fp}(i:Nat)(hN:nm.Nodup:=by decide +kernel)(hi:nm[i]?=some x:=by rfl)(hx:J8 #[8].env.scope x:=by first|exact .inl rfl|exact .inr rfl)(hf:#[8].fn x=true\/#[8].env.scope.names.lookup x=some .local:=by first|exact .inl rfl|exact .inr rfl|assumption) :
  SG #[8] (.Name x pos) (g8 i):=Dy (X:=dW X nm scope cl C s0 H0 fp) hN hi hx hf
end
section
variable{f:FG}
end
section
end
section
end
section
variable{f:Expr}{fo fk fd:FE}
def na(fo fk fd:FE):FE:=fun ρ st=>(fo ρ st).bind fun x st=>match ko st x with
 |some _=>(fk ρ st).bind fun y st=>(fd ρ st).bind fun z st=>(match ko st x,qj y with
  |some (_,kvs),some k=>.ok ((kR kvs k).getD z) st
  |_,_=>.bad)
 |none=>.bad
theorem yk(hr:jr kk X.A)(ho:SE X o fo)(he:SE X e fe)(hf:SE X f fd)(m:M2 X o "get" gH e f dD:=by exact⟨by rfl,by rfl,by rfl,by rfl⟩):SE X (.Call (.Attribute o "get" gH) [e,f] [] dD) (na fo fe fd):=⟨(F' (F7 hr) ho.h he.h hf.h m).imp fun σ H Q h=>by
 walk_at "2"
 walk_at "1"
 cases e0:ko st1 x with
 |none=>rw[e0]at h1;exact h1.elim
 |some nk0=>
  obtain⟨n0,kvs0⟩:=nk0
  rw[e0]at h1
  simp only at h1
  obtain⟨a0,vs0,_,hm0,rfl,ha0,_⟩:=rT l1.sto e0 q1
  refine⟨a0,rfl,.inl ⟨_,ha0⟩,μ1,ρ,st1,l1,RK.bind h1 l1 fun μ2 cT y u H2 p2 x2 l2 q2 h2=>⟨μ2,ρ,cT,l2,RK.bind h2 l2 fun μ3 j_ d t H3 p3 x3 l3 q3 h3=>?_⟩⟩
  cases e1:ko j_ x with
  |none=>rw[e1]at h3;exact h3.elim
  |some nk=>
   obtain⟨n,kvs⟩:=nk
   cases e2:qj y with
   |none=>rw[e1,e2]at h3;exact h3.elim
   |some k=>
    rw[e1,e2]at h3
    simp only at h3
    obtain⟨a,vs,_,hm,ea,ha,r⟩:=rT l3.sto e1 ((q1.mono p2 x2).mono p3 x3)
    cases ea
    have:=yj e2 q2
    subst this
    rcases Cf k r with⟨w,z,g1,g2,g3⟩|⟨g1,g2⟩
    ·rw[g1]at h3
     exact⟨some z,by rw[<- g2];exact zl.r ha,h3 μ3 z H3 (au _) fw.refl l3.sto g3⟩
    ·rw[g1]at h3
     exact⟨none,by rw[<- g2];exact zl.r ha,h3 μ3 t H3 (au _) fw.refl l3.sto q3⟩⟩
end
section
variable{a:Expr}
abbrev p_:=B5 (fun _ _=>True) fun i j=>Builtin.bitOr i j
theorem tU:rJ X (binaryOp .BitOr) p_:=wb (B6 Rx) fun _ _ _=>trivial
end
section
theorem G7:ja X (.type "range") (fun xs H Q=>∃j:Int,xs=[.int j]/\∀l,H l=none->Q (.ref l) (eG H l (.rng 0 j))):=by
 intro ai s σ H xs us Q I r h
 obtain⟨j,rfl,q⟩:=h
 obtain⟨u,rfl,rx⟩:=ou r
 obtain⟨t,rfl⟩:=rx
 exact call_range_1 ⟨.ref s.heap.objs.size,_,I.laid (fun b o e=>av _ e) (ay _) (show eR X.prog X.w _ _ _ _ (.rng 0 j)from⟨_,_,_,aO _ rfl⟩),rfl,q _ (I.hok.fresh (ay _))⟩
theorem Ch(hh:X.A.handled=none):ja X (.type "list") (fun xs H Q=>∃(p:Addr) (n:Nat),xs=[.ref p]/\H p=some (.rng 0 n)/\n<=1000000/\∀l,H l=none->Q (.ref l) (eG H l (.lst ((List.range n).map fun i:Nat=>V.int (i:Int))))):=by
 intro ai s σ H xs us Q I r h
 obtain⟨p,n,rfl,hp,hn,q⟩:=h
 obtain⟨u,rfl,rx⟩:=ou r
 cases rx
 obtain⟨t,u,v,ho⟩:=(show eR X.prog X.w s.toks H s.heap p (.rng 0 n)from I.hok p _ hp)
 have hsz:Builtin.Range.rangeSize 0 (n:Int) 1=(n:Int):=by
  rw[rangeSize_one]
  split<;>omega
 refine up (call_list_range hh ho (small_one #[0] #[0] #[0] #[0]) hsz (aH hn #[1]) fun h' tk gg c hk hS hacc ht=>?_)
 obtain⟨ha1,ha2⟩:=hacc
 refine⟨.ref s.heap.objs.size,_,I.laid (t':=tk) hk (ay _) (show eR X.prog X.w tk _ h' _ (.lst ((List.range n).map fun i:Nat=>V.int (i:Int)))from⟨by rw[az,cE];exact aH hn #[1],gg.toList,c,?_,by rw[hS]⟩),rfl,q _ (I.hok.fresh (ay _))⟩
 obtain⟨l⟩:=gg
 have hl:l.length=n:=ha1
 have key:∀(k:Nat) (l:List Value),(∀j v,l[j]?=some v->∃t,v=Value.int (((k+j:Nat):Int)) t)->cR tk ((List.range' k l.length).map fun i:Nat=>V.int (i:Int)) l:=by
  intro k l
  induction l generalizing k with
  |nil=>intro;exact .nil
  |cons a r ih=>
   intro h
   refine .cons (h 0 a rfl) (ih (k+1) fun j v e=>?_)
   have:=h (j+1) v e
   rw[show k+1+j=k+(j+1) by omega]
   exact this
 have:=key 0 l fun j v e=>by
  obtain⟨t,e⟩:=ha2 j v (by simpa using e)
  exact⟨t,by rw[e];congr 1;omega⟩
 rw[hl,<- List.range_eq_range']at this
 exact this
def vi(ws:List W)(st:List al):R W:=match ws with
 |[.int q]=>if 0<=q/\q<=1000000 then .ok (.loc st.length) (st++[.lst (fx 0 q.toNat)])else .bad
 |_=>.bad
theorem E8(n:Nat):RelWs K μ H (fx 0 n) ((List.range n).map fun i:Nat=>V.int (i:Int)):=by
 unfold fx
 generalize List.range n=l
 induction l with
 |nil=>exact .nilI
 |cons a r ih=>
  refine .consI ?_ ih
  show bK K μ H (.int (0+(a:Int))) (.int (a:Int))
  rw[d7]
  exact .int
theorem Li{a:Expr}{fs:FA}{p p2 pos AZ:Pos}(hr:jr kk X.A)(hl:X.mg "list"=none)(hm:X.mg "range"=none)(ha:SA X [a] fs)(hg:Gl X "list":=by rfl)(Ua:Gl X "range":=by rfl)
  (he:starEach [a] X.env=[(false,eval a X.env)]:=by rfl) (FF:starEach [Expr.Call (.Name "range" p2) [a] [] AZ] X.env=[(false,eval (.Call (.Name "range" p2) [a] [] AZ) X.env)]:=by rfl) :
  SE X (.Call (.Name "list" p) [.Call (.Name "range" p2) [a] [] AZ] [] pos) (cr vi fs):=⟨(sJ (Ch hr.hd) hg hl boot_list (iM (sJ G7 Ua hm boot_range ha.h #[1] #[1] he rfl) oy FF) #[1] #[1] FF rfl).imp fun σ H Q h=>by
 walk_at "2"
 walk_at "1"
 unfold vi at h1
 split at h1
 ·rename_i q
  obtain⟨y,rfl,ry⟩:=q1.one
  split at h1
  ·rename_i c
   refine⟨q,by rw[ry.intE],fun l0 hl0=>⟨l0,q.toNat,rfl,?_,by omega,fun l2 Kf=>?_⟩⟩
   ·unfold eG;rw[aC rfl,Int.toNat_of_nonneg c.1]
   ·have S':=l1.sto.same (cY hl0 (.rng 0 q))
    exact h1 (μ1++[l2]) _ _ (bR _ _) (ic.same fun b u z=>cY Kf _ b u (cY hl0 _ b u z)) (S'.newLst Kf (E8 _)) (mZ S')
  ·exact h1.elim
 ·exact h1.elim⟩
end
theorem Ci:mroOf (.type "dict")=pure [.type "dict",.type "object"]:=by rw[mroOf_type];kernel_rfl
theorem OP:typeLookup (.type "dict") "__new__"=pure (some (.builtin "dict.__new__")):=by rw[nR,jy];kernel_rfl
theorem G8:isSubtype (.type "dict") (.type "dict")=pure true:=by rw[dH];kernel_rfl
theorem E9:TypeCalled "dict" "dict.__new__" "dict.__init__":=
 ⟨by decide +kernel,by decide +kernel,⟨_,_,Ci⟩,madeBy_type Ci OP (by decide +kernel),by decide +kernel,G8,F.slot_dict_init⟩
theorem Lj(a:Value):checkTypeCall "dict" ⟨[a],[]⟩=pure ():=by kernel_rfl
theorem Cj(a:Value):checkBuiltinCall "dict.__new__" ⟨[.type "dict",a],[]⟩=pure ():=by kernel_rfl
theorem G9:entryFor table "dict.__new__"=some Builtin.«dict.__new__»:=entryFor_of_tree (by kernel_rfl)
theorem zT:plainId "dict.__new__"=true:=by decide +kernel
section
variable{w:World}
theorem Lk(a:Value)(h:Q₁ (.ref s.heap.objs.size) { s with heap:=s.heap.push { cls:=.type "dict",data:=.dict #[] } }) :
  codeAny #[9] A (.call (.builtin "dict.__new__") ⟨[.type "dict",a],[]⟩) (wants Q₁ E) s:=by
 refine nS ?_
 show wpAny _ A.in1 (do checkBuiltinCall "dict.__new__" ⟨[.type "dict",a],[]⟩;again (.builtin "dict.__new__" ⟨[.type "dict",a],[]⟩)) _ _ s
 refine ag (pE (Cj a) (aA ⟨eQ zT _,c6 G9 ?_⟩))
 rw[cQ zT _]
 unfold Builtin.«dict.__new__»
 have hsub:=G8
 have hm:=Ci
 obtain⟨hp,g,d,tk,os⟩:=s
 dsimp only
 wp_walk
 exact h
variable{K:Type}[DecidableEq K]{knd:KeyKind prog w K}
theorem Ck{o:Addr}{y8:List (K×Value)}(WC:(o==sysModules)=false)(ho:s.heap.DictOf knd o y8)(hz:y8.length<=sizeLine)
  (hQ:∀g,g.DictOf knd s.heap.objs.size y8->(∀b u,s.heap.get? b=some u->g.get? b=some u)->Q (.ref s.heap.objs.size) { s with heap:=g }) :
  wpAny #[9] A (call (.type "dict") [.ref o]) Q E s:=by
 refine callType_codes E9 (Lj _) F.entry_dict_init (Lk _ (Q₁:=fun obj s1=>obj=.ref s.heap.objs.size/\s1={ s with heap:=s.heap.push { cls:=.type "dict",data:=.dict #[] } }) ⟨rfl,rfl⟩) fun obj s1 hq=>?_
 obtain⟨rfl,rfl⟩:=hq
 have hd:(s.heap.push { cls:=.type "dict",data:=.dict #[] }).DictOf knd s.heap.objs.size []:=Heap.DictOf.new _
 have hT:Shared.TypeIs { s with heap:=s.heap.push { cls:=.type "dict",data:=.dict #[] } } (.ref s.heap.objs.size) "dict":=⟨_,aO _ rfl,rfl⟩
 obtain⟨oo,eso,epo,hoo,hco,hdo',hko,hpo,hno⟩:=id ho
 have ho1:(s.heap.push { cls:=.type "dict",data:=.dict #[] }).DictOf knd o y8:=⟨oo,eso,epo,av _ hoo,hco,hdo',hko,hpo,hno⟩
 have hT2:Shared.TypeIs { s with heap:=s.heap.push { cls:=.type "dict",data:=.dict #[] } } (.ref o) "dict":=ho1.typeIs
 have vS:s.heap.objs.size≠o:=Ne.symm (aY (aP hoo))
 refine⟨hT,F.args_dict_init_2 _ _,?_⟩
 unfold Builtin.«dict.__init__» Builtin.Dict.selfAndRest
 refine ag (ag (wpAny_notOrdered_dict hT ?_))
 show wpAny _ _ (pure (s.heap.objs.size,[Value.ref o])) _ _ _
 refine aA ?_
 show wpAny _ _ (Builtin.Dict.updateFrom "dict.__init__" s.heap.objs.size (.ref o) [] .none) _ _ _
 unfold Builtin.Dict.updateFrom
 refine ag (gR hT2 ?_)
 rw[aJ #[1]]
 refine ag ?_
 unfold Builtin.Dict.merge
 refine ag ?_
 unfold Builtin.Dict.readDirectly
 refine ag (gG hT2 isSubtype_dict_dict ?_)
 simp only[qB,gP,iK]
 refine ag (nT hT2 F.slot_dict_iter.lookup (aA ?_))
 simp only[beq_self_eq_true,jP]
 refine ag (aA ?_)
 refine wpAny_mergeDict (hsz:=by simpa using hz) vS WC hd ho1 fun h' hd' t6 hs'=>?_
 rw[merged_nil_of_nodup y8 hno]at hd'
 show wpAny _ _ (Builtin.Dict.addKeywords s.heap.objs.size [] >>= _) _ _ _
 refine ag (aA (aA ?_))
 refine⟨rfl,hQ h' hd' fun b u e=>?_⟩
 rw[hs'.2 b (aY (aP e))]
 exact av _ e
end
section
theorem E_:bootBuiltins "dict"=some (.type "dict"):=by first|rfl|kernel_rfl|decide +kernel
def qN(ws:List W)(st:List al):R W:=match ws with
 |[x]=>(match ko st x with
  |some (_,kvs)=>if kvs.length<=1000 then .ok (.loc st.length) (st++[.dct kvs])else .bad
  |none=>.bad)
 |_=>.bad
theorem Ll:rN X (.type "dict") qN:=⟨fun ai s σ H vs us Q I rv zq=>by
 obtain⟨μ,st,ws,S,r,q⟩:=zq
 unfold qN at q
 split at q
 ·rename_i x
  obtain⟨v,rfl,rx⟩:=r.one
  cases e0:ko st x with
  |none=>rw[e0]at q;exact q.elim
  |some nk=>
   obtain⟨n,kvs⟩:=nk
   rw[e0]at q
   simp only at q
   split at q
   ·rename_i js
    obtain⟨a,zs,_,hm,rfl,ha,rr⟩:=rT S e0 rx
    obtain⟨hz,hs,ps,hK,hD⟩:=zk I.hok ha
    obtain⟨u,rfl,ru⟩:=ou rv
    obtain rfl:u=Value.ref a:=ru
    have hf:H s.heap.objs.size=none:=I.hok.fresh (ay _)
    refine Ck (knd:=gk X.prog X.w) hs hD (by rw[<- hK.length];exact hz) fun g gd kp=>?_
    refine⟨.ref s.heap.objs.size,eG H s.heap.objs.size (.dK (dV kvs zs)),I.laid kp (ay _) (F8 hz (bz.mpr (Ne.symm (aY I.big))) hK gd),rfl,?_⟩
    have hs:ud H (eG H s.heap.objs.size (.dK (dV kvs zs))):=cY hf _
    exact q (μ++[s.heap.objs.size]) (.ref s.heap.objs.size) _ (bR _ _) (ic.same hs) (S.push (c:=.dct kvs) hf ⟨zs,gU,rr.mono (bR _ _) (ic.same hs)⟩) (mZ S)
   ·exact q.elim
 ·exact q.elim,fun ws st=>by
 unfold qN
 split
 ·split
  ·split<;>trivial
  ·trivial
 ·trivial⟩
end
def Vd(i j:Int):Prop:=i.natAbs<2^9000/\j.natAbs<2^9000
theorem DE{i:Int}(h:i.natAbs<2^n):Builtin.Int.intBits i<=n:=by
 unfold Builtin.Int.intBits
 split
 ·exact bU _
 ·rename_i z
  have hz:i.natAbs≠0:=by intro e;apply z;simpa using Int.natAbs_eq_zero.mp e
  exact(Nat.log2_lt hz).mpr h
theorem Vd.ok{i j:Int}(h:Vd i j):IntMulOk i j:=IntMulOk.of_bits (aH (DE h.1) #[1]) (aH (DE h.2) #[1])
theorem Lm:l7 X (binaryOp .Mult) (rI Vd fun i j=>.int (i*j)):=N0 fun _ _ _ _ _ _ _ hc q=>mul_int q hc.ok
abbrev My(i j:Int):Prop:=i.natAbs<2^9000/\j.natAbs<2^9000
abbrev zU:=B5 My fun i j=>i*j
theorem Cm:rJ X (binaryOp .Mult) zU:=wb Lm fun _ _ h=>h
theorem iP(st x:List al)(k:Nat):(st++x)[st.length+k]?=x[k]?:=by rw[dg #[0]];congr 1;omega
theorem dA(st x:List al):(st++x)[st.length]?=x[0]?:=iP st x 0
theorem gu(st x:List al)(k:Nat)(c:al):(st++x).set (st.length+k) c=st++x.set k c:=by rw[List.set_append_right _ _ #[0]];congr 2;omega
theorem dN(st x:List al)(c:al):(st++x).set st.length c=st++x.set 0 c:=gu st x 0 c
theorem cH{x:List al}{c:al}(h:st[n]?=some c):(st++x)[n]?=some c:=by
 rw[bj (aj.mp h).1];exact h
theorem Cn(st:List al)(ws:List W):nL st st ws=st:=by unfold nL;split<;>simp
theorem sT{st x:List al}{ws:List W}(h:undWs st.length ws=true):nL st (st++x) ws=st:=by
 unfold nL
 rw[aC ⟨h,by simp,fun i hi=>.inl (bj hi)⟩]
 simp
theorem wU(h:undWs st.length ws=false):nL st bF ws=bF:=by
 unfold nL
 rw[aJ fun k=>by have:=k.1;rw[h]at this;cases this]
theorem uw{N:Nat}{body:FS}{ws:List W}{w:W}(h:body #[14] st=.rt w bF):dZ N body ws st=.ok w (nL st bF [w]):=by
 unfold dZ;rw[h]
theorem pQ{w:W}(h:body #[14] st=.rt w st):dZ N body ws st=.ok w st:=by
 rw[uw h,Cn]
theorem zV{x:List al}{w:W}(h:body #[14] st=.rt w (st++x))(hu:undWs st.length [w]=true):dZ N body ws st=.ok w st:=by
 rw[uw h,sT hu]
theorem G_{x:List al}{k:Nat}(h:body #[14] st=.rt (.loc (st.length+k)) (st++x)):dZ N body ws st=.ok (.loc (st.length+k)) (st++x):=by
 rw[uw h,wU (by simp[undWs,W.und])]
theorem vj{g g':FS}{ρ':cv}(h:g ρ st=.nx ρ' bF):aX g g' ρ st=g' ρ' bF:=by unfold aX;rw[h]
theorem ux{f:FG}{body:FS}{k:E3}(h:fi ρ st=.ok k bF):i' fi f body ρ st=n6 f body k.2 k.1 ρ bF:=by unfold i';rw[h];rfl
theorem rV{f:FG}{body:FS}{ck:Option (Nat×List W)}(I:Nat->cv->List al->Prop):∀{ws:List W} {ρ:cv} {st:List al} (i0:Nat),I i0 ρ st->(∀i ρ st,I i ρ st->jd st ck) ->
  (∀i w ρ st,ws[i]?=some w->I (i0+i) ρ st->∃ρ' ρ2 cT,f w ρ=some ρ'/\body ρ' st=.nx ρ2 cT/\I (i0+i+1) ρ2 cT) ->
  ∃ρ2 cT,n6 f body ck ws ρ st=.nx ρ2 cT/\I (i0+ws.length) ρ2 cT
 |[],ρ,st,i0,h0,hc,hs=>⟨ρ,st,by unfold n6;rw[aC (hc _ _ _ h0)],h0⟩
 |w::ws,ρ,st,i0,h0,hc,hs=>by
  obtain⟨ρ',ρ2,cT,e1,e2,h1⟩:=hs 0 w ρ st rfl h0
  obtain⟨ρ3,j_,e3,h3⟩:=rV I (ws:=ws) (ρ:=ρ2) (st:=cT) (i0+1) h1 hc fun i w ρ st hw hI=>by
   obtain⟨a,b,c,d,e,g⟩:=hs (i+1) w ρ st (by simpa using hw) (by rw[show i0+(i+1)=i0+1+i by omega];exact hI)
   exact⟨a,b,c,d,e,by rw[show i0+1+i+1=i0+(i+1)+1 by omega];exact g⟩
  refine⟨ρ3,j_,?_,by rw[eM,show i0+(ws.length+1)=i0+1+ws.length by omega];exact h3⟩
  unfold n6
  rw[aC (hc _ _ _ h0),e1]
  simp only[e2]
  exact e3
theorem Fa{t:FT}{g:FS}(I:Nat->cv->List al->Prop):∀(n:Nat) {ρ:cv} {st:List al},I n ρ st ->
  (∀n ρ st,I n ρ st->t ρ st=.ok false st\/(t ρ st=.ok true st/\∃ρ2 cT m,g ρ st=.nx ρ2 cT/\m<n/\I m ρ2 cT)) ->
  ∃m ρ2 cT,oH t g ρ st=.nx ρ2 cT/\I m ρ2 cT/\t ρ2 cT=.ok false cT:=by
 intro n ρ st h hs
 have key:∀(k n:Nat) (ρ:cv) (st:List al),n<k->I n ρ st->∃m ρ2 cT,gq t g k ρ st=.nx ρ2 cT/\I m ρ2 cT/\t ρ2 cT=.ok false cT:=by
  intro k
  induction k with
  |zero=>intro n _ _ h;exact absurd h (kh _)
  |succ k ih=>
   intro n ρ st hk hI
   rcases hs n ρ st hI with e|⟨e,ρ2,cT,m,e2,hm,h2⟩
   ·exact⟨n,ρ,st,by unfold gq;rw[e];rfl,hI,e⟩
   ·obtain⟨m',ρ3,j_,e3,h3⟩:=ih m ρ2 cT #[0] h2
    exact⟨m',ρ3,j_,by unfold gq;rw[e];simp only[R.stmt_ok,jP,e2];exact e3,h3⟩
 obtain⟨m,ρ2,cT,e,h2⟩:=key (n+1) n ρ st (cM n) h
 exact⟨m,ρ2,cT,E4 e #[18],h2⟩
section
variable{ρ':cv}{cT j_ st4:List al}{fo fi:FE}{fs:FA}{u:FT}{x y z w v:W}{xs zs:List W}{a b k:Bool}{g g':FS}
theorem dB(h:ρ[i]?=some (some w)):af i ρ st=.ok w st:=by unfold af;rw[h]
theorem bd:eC w ρ st=.ok w st:=rfl
theorem a_(h1:fa ρ st=.ok x st1)(h2:fb ρ st1=.ok y cT)(h3:f x y cT=.ok z j_):e2 f fa fb ρ st=.ok z j_:=by unfold e2;rw[h1];simp only[R.bind_ok];rw[h2];exact h3
theorem ba:aK ρ st=.ok [] st:=rfl
theorem ak(h1:fa ρ st=.ok x st1)(h2:fs ρ st1=.ok xs cT):ah fa fs ρ st=.ok (x::xs) cT:=by unfold ah;rw[h1];simp only[R.bind_ok];rw[h2];rfl
theorem G':GC ls ρ st=.ok (ls.map W.str) st:=rfl
theorem dO(h1:fs ρ st=.ok ws st1)(h2:ws.length<=kN):fP fs ρ st=.ok (.tup ws) st1:=by unfold fP;rw[h1];simp only[R.bind_ok,qf];rw[aC h2]
theorem oN(h1:fs ρ st=.ok ws st1)(h2:ws.length<=kN):kO fs ρ st=.ok (.loc st1.length) (st1++[.lst ws]):=by unfold kO;rw[h1];simp only[R.bind_ok,nJ];rw[aC h2]
theorem cg(h1:fs ρ st=.ok ws st1)(h2:F ws st1=.ok w cT):cr F fs ρ st=.ok w cT:=by unfold cr;rw[h1];exact h2
theorem bc(h1:fs ρ st=.ok ws st1)(h2:F ws st1=.ok w cT)(hn:ws.length=n):bS n F fs ρ st=.ok w cT:=by unfold bS;rw[h1];simp only[R.bind_ok];rw[aC hn];exact h2
theorem aR(h:fa ρ st=.ok (.bl k) st1):da fa ρ st=.ok k st1:=by unfold da;rw[h];rfl
theorem fy(h1:t ρ st=.ok true st1)(h2:u ρ st1=.ok k cT):bnd t u ρ st=.ok k cT:=by unfold bnd;rw[h1];exact h2
theorem jO(h1:t ρ st=.ok false st1):bnd t u ρ st=.ok false st1:=by unfold bnd;rw[h1];rfl
theorem gN(h1:t ρ st=.ok false st1)(h2:u ρ st1=.ok k cT):Bz t u ρ st=.ok k cT:=by unfold Bz;rw[h1];exact h2
theorem rW(h1:t ρ st=.ok true st1):Bz t u ρ st=.ok true st1:=by unfold Bz;rw[h1];rfl
theorem tV(h1:t ρ st=.ok a st1)(h2:(!a)=k):Gy t ρ st=.ok k st1:=by unfold Gy;rw[h1,<- h2];rfl
theorem lM(h1:fa ρ st=.ok (.bl true) st1)(h2:fb ρ st1=.ok w cT):qG fa fb ρ st=.ok w cT:=by unfold qG;rw[h1];exact h2
theorem rX(h1:fa ρ st=.ok (.bl false) st1):qG fa fb ρ st=.ok (.bl false) st1:=by unfold qG;rw[h1];rfl
theorem qO(h1:fa ρ st=.ok (.bl false) st1)(h2:fb ρ st1=.ok w cT):J_ fa fb ρ st=.ok w cT:=by unfold J_;rw[h1];exact h2
theorem yl(h1:fa ρ st=.ok (.bl true) st1):J_ fa fb ρ st=.ok (.bl true) st1:=by unfold J_;rw[h1];rfl
theorem zW(h1:fa ρ st=.ok (.bl a) st1)(h2:(!a)=k):zD fa ρ st=.ok (.bl k) st1:=by unfold zD;rw[h1,<- h2];rfl
theorem vk(h1:t ρ st=.ok true st1)(h2:fa ρ st1=.ok w cT):J' t fa fb ρ st=.ok w cT:=by unfold J';rw[h1];exact h2
theorem vm(h1:t ρ st=.ok false st1)(h2:fb ρ st1=.ok w cT):J' t fa fb ρ st=.ok w cT:=by unfold J';rw[h1];exact h2
theorem ir{F:W->List W->List al->R W}(h1:fo ρ st=.ok x st1)(hl:mC st1 x=true)(h2:fs ρ st1=.ok ws cT)(h3:F x ws cT=.ok w j_):lJ F fo fs ρ st=.ok w j_:=by unfold lJ;rw[h1];simp only[R.bind_ok];rw[aC hl,h2];exact h3
theorem zX{F:W->List W->List al->R W}(h1:fo ρ st=.ok x st1)(hl:wO x=true)(h2:fs ρ st1=.ok ws cT)(h3:F x ws cT=.ok w j_):BA F fo fs ρ st=.ok w j_:=by unfold BA;rw[h1];simp only[R.bind_ok];rw[aC hl,h2];exact h3
theorem dR(h:st[n]?=some (.lst ws)):mC st (.loc n)=true:=by simp only[mC,h]
theorem oO{q:Int}(h:fa ρ st=.ok (.int q) st1):oK fa ρ st=.ok (.int (-q)) st1:=by unfold oK;rw[h];rfl
theorem wV{c:String}(h:fa ρ st=.ok x st1)(hx:x.ty=some c)(hk:La c T=k):rR T fa ρ st=.ok (.bl k) st1:=by unfold rR;rw[h];simp only[R.bind_ok,hx,hk]
theorem SD(h:fa ρ st=.ok x st1)(hk:x.isNon=k):B4 fa ρ st=.ok (.bl k) st1:=by unfold B4;rw[h,<- hk];rfl
theorem jg(h:fa ρ st=.ok x st1)(hk:(!x.isNon)=k):iB fa ρ st=.ok (.bl k) st1:=by unfold iB;rw[h,<- hk];rfl
theorem Ve:oG ρ st=.ok none st:=rfl
theorem Vf{q:Int}(h:fa ρ st=.ok (.int q) st1):nK fa ρ st=.ok (some q) st1:=by unfold nK;rw[h];rfl
theorem Ha{fl fh:FO}{l h:Option Int}(h1:fa ρ st=.ok x st1)(h2:fl ρ st1=.ok l cT)(h3:fh ρ cT=.ok h j_)(h4:E0 x l h j_=.ok w st4):Fz fa fl fh ρ st=.ok w st4:=by unfold Fz;rw[h1];simp only[R.bind_ok];rw[h2];simp only[R.bind_ok];rw[h3];exact h4
theorem a9(h:fe ρ st=.ok w st1):b6 i fe ρ st=.nx (ρ.set i (some w)) st1:=by unfold b6;rw[h];rfl
theorem gy(h:fe ρ st=.ok w st1):eO fe ρ st=.nx ρ st1:=by unfold eO;rw[h];rfl
theorem zY(h:fe ρ st=.ok w st1):cK fe ρ st=.rt w st1:=by unfold cK;rw[h];rfl
theorem oP{f:W->W->W->List al->Option (List al)}(h1:fe ρ st=.ok v st1)(h2:fo ρ st1=.ok x cT)(h3:fi ρ cT=.ok y j_)(h4:f x y v j_=some st4):p8 fo fi fe f ρ st=.nx ρ st4:=by
 unfold p8;rw[h1];simp only[R.stmt_ok];rw[h2];simp only[R.stmt_ok];rw[h3];simp only[R.stmt_ok];rw[h4]
theorem gc{r:RS}(h1:t ρ st=.ok true st1)(h2:g ρ st1=r):fD t g g' ρ st=r:=by unfold fD;rw[h1];exact h2
theorem fz{r:RS}(h1:t ρ st=.ok false st1)(h2:g' ρ st1=r):fD t g g' ρ st=r:=by unfold fD;rw[h1];exact h2
theorem ng:b_ ρ st=.nx ρ st:=rfl
theorem DF{r:RS}(h:g ρ st=.nx ρ' st1)(h2:g' ρ' st1=r):aX g g' ρ st=r:=by rw[vj h];exact h2
theorem Co(h:g ρ st=.rt w st1):aX g g' ρ st=.rt w st1:=by unfold aX;rw[h]
theorem gz{p q:Int}:e7 (.int p) (.int q) st=.ok (.int (p+q)) st:=rfl
theorem vn{p q:List Nat}(h:p.length+q.length<=kN):e7 (.str p) (.str q) st=.ok (.str (p++q)) st:=by simp only[e7];rw[aC h]
theorem OQ(h1:st[n]?=some (.lst ws))(h2:st[m]?=some (.lst xs))(h:(ws++xs).length<=kN):e7 (.loc n) (.loc m) st=.ok #[2] (st++[.lst (ws++xs)]):=by
 unfold e7;simp only[h1,h2,nJ];rw[aC h]
theorem fj{C:Int->Int->Prop}[∀i j,Decidable (C i j)]{f:Int->Int->Int}{p q:Int}(h:C p q):B5 C f (.int p) (.int q) st=.ok (.int (f p q)) st:=by simp only[B5];rw[aC h]
theorem nh{p q:Int}(h:K3 p q):je (.int p) (.int q) st=.ok (.int (p*q)) st:=by simp only[je];rw[aC h]
theorem gA{f:Int->Int->Bool}{p q:Int}(h:f p q=k):EY f (.int p) (.int q) st=.ok (.bl k) st:=by rw[<- h];rfl
theorem DG{p q:Int}(h:decide (p<=q)=k):Cb (.int p) (.int q) st=.ok (.bl k) st:=by rw[<- h];rfl
theorem jh{p q:Int}(h:(p==q)=k):fQ (.int p) (.int q) st=.ok (.bl k) st:=by rw[<- h];rfl
theorem Mz{p q:Int}(h:(!(p==q))=k):B8 (.int p) (.int q) st=.ok (.bl k) st:=by rw[<- h];rfl
theorem qk{p q:List Nat}(h:(p==q)=k):fQ (.str p) (.str q) st=.ok (.bl k) st:=by rw[<- h];rfl
theorem tW{q:Int}(h:rl ws q=some w):bH (.tup ws) (.int q) st=.ok w st:=by unfold bH;simp only[h,dY]
theorem kv(h:ρ[i]?=some (some w):=by rfl):af i ρ st=.ok w st:=dB h
theorem ox{q:Int}(h:rl ws q=some w:=by rfl):bH (.tup ws) (.int q) st=.ok w st:=tW h
theorem kn(h:ρ[i]?=some (some w):=by rfl):ah (af i) aK ρ st=.ok [w] st:=ak (dB h) ba
theorem kx{q:Int}(h:ρ[i]?=some (some (.tup ws)):=by rfl)(h2:rl ws q=some w:=by rfl):e2 bH (af i) (eC (.int q)) ρ st=.ok w st:=a_ (dB h) bd (tW h2)
theorem rY{q:Int}(hl:l.length<=kN)(h:rl l q=some c):bH (.str l) (.int q) st=.ok (.str [c]) st:=by unfold bH;simp only[h,dY];rw[aC hl]
theorem gW{q:Int}(hl:lstOf st n=some ws)(h:rl ws q=some w):bH (.loc n) (.int q) st=.ok w st:=by unfold bH;simp only[hl,h,dY]
theorem Cp:eW [.tup ws] st=.ok (.int ws.length) st:=rfl
theorem sU(h:l.length<=kN):eW [.str l] st=.ok (.int l.length) st:=by unfold eW;simp only;rw[aC h]
theorem jD(hl:lstOf st n=some ws):eW [.loc n] st=.ok (.int ws.length) st:=by unfold eW;simp only[hl,dY]
theorem br(h:st[n]?=some (.lst ws)):lstOf st n=some ws:=by unfold lstOf;rw[h]
theorem uy(h:st[n]?=some (.ro ws)):lstOf st n=some ws:=by unfold lstOf;rw[h]
theorem jY(h:st[n]?=some (.lst ws))(hl:ws.length<kN):bO (.loc n) [y] st=.ok .non (st.set n (.lst (ws++[y]))):=by unfold bO;simp only[h];rw[aC hl]
theorem zZ(h:st[n]?=some (.lst (ws++[y]))):p9 (.loc n) [] st=.ok y (st.set n (.lst ws)):=by unfold p9;simp only[h];simp
theorem Hb{q:Int}(h:st[n]?=some (.lst ws))(hi:By ws.length q=some j):lI (.loc n) (.int q) v st=some (st.set n (.lst (ws.set j v))):=by unfold lI;simp only[h,hi];rfl
theorem vo{sep:List Nat}(h:lstOf st n=some (ls.map W.str))(hl:(ls.map List.length).sum+ls.length*sep.length<=kN):kj (.str sep) [.loc n] st=.ok (.str (kM sep ls)) st:=by
 unfold kj;simp only[h,dY,wP];rw[aC hl]
theorem SF{l h:Option Int}{z:List Nat}(hl:z.length<=kN):E0 (.str z) l h st=.ok (.str (p7 z l h)) st:=by unfold E0;simp only;rw[aC hl]
theorem SH{l h:Option Int}:E0 (.tup ws) l h st=.ok (.tup (p7 ws l h)) st:=rfl
theorem kA(h:fe ρ st=.ok (.tup ws) st1):dz fe ρ st=.ok (ws,none) st1:=by unfold dz;rw[h];rfl
theorem pR(h:fe ρ st=.ok (.loc n) st1)(hl:lstOf st1 n=some ws):dz fe ρ st=.ok (ws,some (n,ws)) st1:=by unfold dz;rw[h];simp only[R.bind_ok,hl]
theorem gX{q:Int}(h:fs ρ st=.ok [.int q] st1)(hq:-(2^62)<=q/\q<2^62):dM fs ρ st=.ok (fx 0 q.toNat,none) st1:=by unfold dM;rw[h];simp only[R.bind_ok];rw[aC hq]
theorem OR{l:List W}{q:Nat}(h:l.reverse[q]?=some x):rl l (-((q:Int)+1))=some x:=by
 have hq:q<l.length:=by have:=(aj.mp h).1;simpa using this
 unfold rl By
 rw[aJ #[0],aC #[0]]
 rw[List.getElem?_reverse hq]at h
 simp only[Option.bind_some]
 rw[show((-((q:Int)+1))+(l.length:Int)).toNat=l.length-1-q by omega]
 exact h
theorem fK{l:List α}{q:Nat}{x:α}(h:l[q]?=some x):rl l (q:Int)=some x:=by
 have hq:q<l.length:=(aj.mp h).1
 unfold rl By
 rw[aC #[0],aC #[0]]
 simpa using h
def ju(P:RS->Prop)(r:RS):Prop:=P r
def FB(I:cv->List al->Prop):RS->Prop:=fun r=>∃ρ st,r=.nx ρ st/\I ρ st
def BB(I:W->List al->Prop):RS->Prop:=fun r=>∃w st,r=.rt w st/\I w st
variable{P:RS->Prop}{gb:FS}
theorem db{r r':RS}(h:r=r')(h2:P r'):ju P r:=by rw[h];exact h2
theorem aF(h:g ρ st=.nx ρ' st1)(h2:ju P (g' ρ' st1)):ju P (aX g g' ρ st):=by rw[vj h];exact h2
theorem nO(h1:t ρ st=.ok true st1)(h2:ju P (g ρ st1)):ju P (fD t g g' ρ st):=by rw[gc h1 rfl];exact h2
theorem lN(h1:t ρ st=.ok false st1)(h2:ju P (g' ρ st1)):ju P (fD t g g' ρ st):=by rw[fz h1 rfl];exact h2
theorem bD(h1:t ρ st=.ok true st1)(h2:ju P (aX g gb ρ st1)):ju P (aX (fD t g g') gb ρ st):=by
 unfold aX at h2 ⊢;rw[gc h1 rfl];exact h2
theorem aQ(h1:t ρ st=.ok false st1)(h2:ju P (aX g' gb ρ st1)):ju P (aX (fD t g g') gb ρ st):=by
 unfold aX at h2 ⊢;rw[fz h1 rfl];exact h2
theorem kI{h:FS}(h2:ju P (aX g (aX g' h) ρ st)):ju P (aX (aX g g') h ρ st):=by
 unfold aX at h2 ⊢
 cases e:g ρ st<;>simp only[e]at h2 ⊢ <;> exact h2
theorem aU(h2:ju P (gb ρ st)):ju P (aX b_ gb ρ st):=h2
theorem bI(h:fe ρ st=.ok w st1)(h2:P (.rt w st1)):ju P (cK fe ρ st):=by rw[zY h];exact h2
theorem be(h:fe ρ st=.ok w st1)(h2:P (.rt w st1)):ju P (aX (cK fe) gb ρ st):=by rw[Co (zY h)];exact h2
theorem fA{fi:FI}{f:FG}{k:E3}(I:Nat->cv->List al->Prop)(h:fi ρ st=.ok k st1)(h0:I 0 ρ st1)(hc:∀i ρ st,I i ρ st->jd st k.2)
  (hs:∀i w ρ st,k.1[i]?=some w->I i ρ st->∃ρ',f w ρ=some ρ'/\ju (FB (I (i+1))) (body ρ' st)) (he:∀ρ st,I k.1.length ρ st->ju P (gb ρ st)):ju P (aX (i' fi f body) gb ρ st):=by
 obtain⟨ρ2,cT,e,h2⟩:=rV (f:=f) (body:=body) (ck:=k.2) I (ws:=k.1) (ρ:=ρ) (st:=st1) 0 h0 hc fun i w ρ st hw hI=>by
  rw[dy]at hI ⊢
  obtain⟨ρ',e1,ρ2,cT,e2,h2⟩:=hs i w ρ st hw hI
  exact⟨ρ',ρ2,cT,e1,e2,h2⟩
 rw[dy]at h2
 exact aF (by rw[ux h];exact e) (he _ _ h2)
theorem wW(I:Nat->cv->List al->Prop)(n:Nat)(h0:I n ρ st)
  (hs:∀n ρ st,I n ρ st->t ρ st=.ok false st\/(t ρ st=.ok true st/\ju (FB fun ρ2 cT=>∃m,m<n/\I m ρ2 cT) (body ρ st))) (he:∀m ρ st,I m ρ st->t ρ st=.ok false st->ju P (gb ρ st)):ju P (aX (oH t body) gb ρ st):=by
 obtain⟨m,ρ2,cT,e,h2,h3⟩:=Fa (t:=t) (g:=body) I n h0 fun n ρ st hI=>by
  rcases hs n ρ st hI with e|⟨e,ρ2,cT,e2,m,hm,h2⟩
  ·exact .inl e
  ·exact .inr ⟨e,ρ2,cT,m,e2,hm,h2⟩
 exact aF e (he _ _ _ h2 h3)
theorem uz{Q:W->Prop}(h:ju (BB fun w bF=>(∃x,bF=st++x)/\undWs st.length [w]=true/\Q w) (body #[14] st)):∃w,Q w/\dZ N body ws st=.ok w st:=by
 obtain⟨w,bF,e,⟨x,rfl⟩,hu,q⟩:=h
 exact⟨w,q,zV e hu⟩
theorem e_{N:Nat}{body:FS}(h:ju (BB fun w' bF=>w'=w/\∃x,bF=st++x) (body #[14] st))(hu:undWs st.length [w]=true):dZ N body ws st=.ok w st:=by
 obtain⟨w,bF,e,rfl,x,rfl⟩:=h
 exact zV e hu
theorem rZ{Q:Nat->List al->Prop}(h:ju (BB fun w bF=>∃j x,w=.loc (st.length+j)/\bF=st++x/\Q j x) (body #[14] st)):∃j x,Q j x/\dZ N body ws st=.ok (.loc (st.length+j)) (st++x):=by
 obtain⟨w,bF,e,j,x,rfl,rfl,q⟩:=h
 exact⟨j,x,q,G_ e⟩
theorem ik{lo:Int}(h:(fx lo q)[i]?=some w):i<q/\w=.int (lo+i):=by
 unfold fx at h
 obtain⟨h1,h2⟩:=aj.mp h
 simp only[az,cE]at h1
 exact⟨h1,by rw[<- h2];simp⟩
theorem ym{l:List α}(h:q<=l.length):p7 l none (some (q:Int))=l.take q:=by
 unfold p7;rw[HT.sIx_none,HT.sIx_nat,Nat.min_eq_left h];simp
theorem yn{l:List α}(h:q<=l.length):p7 l (some (q:Int)) none=l.drop q:=by
 unfold p7;rw[HT.sIx_none,HT.sIx_nat,Nat.min_eq_left h];rw[dv #[18]]
theorem kB{q:Int}{n:Nat}(h:0<n):∃m:Nat,m<n/\q%(n:Int)=m:=by
 have h0:0<=q%(n:Int):=iU _ #[0]
 have h1:q%(n:Int)<n:=li _ #[0]
 exact⟨(q%(n:Int)).toNat,by omega,by omega⟩
end
section
variable{u:FT}{a b k:Bool}{P:RS->Prop}{g g' gb:FS}{w:W}
theorem OS(h1:t ρ st=.ok a st)(h2:u ρ st=.ok b st):bnd t u ρ st=.ok (a&&b) st:=by cases a;exact jO h1;exact fy h1 h2
theorem OT(h1:t ρ st=.ok a st)(h2:u ρ st=.ok b st):Bz t u ρ st=.ok (a||b) st:=by cases a;exact gN h1 h2;exact rW h1
theorem OU(h1:t ρ st=.ok a st):Gy t ρ st=.ok (!a) st:=tV h1 rfl
theorem bX{N:Nat}{body:FS}(h:ju (BB fun w' bF=>w'=w/\bF=st) (body #[14] st)):dZ N body ws st=.ok w st:=by
 obtain⟨w,bF,e,rfl,rfl⟩:=h
 exact pQ e
end
end L2
open L2
local macro_rules | `(tactic| walk_at "ev1") => `(tactic| first
 | (with_reducible apply dB) <;> rfl
 | (with_reducible apply tW) <;> rfl
 | with_reducible first
  | exact bd | exact ba | exact G' | exact Ve | exact gz | exact Cp | exact ng | exact SH
  | apply a_ | apply ak | apply dO | apply oN | apply cg | apply bc | apply aR | apply tV | apply zW
  | apply ir | apply zX | apply oO | apply wV | apply SD | apply jg | apply Vf | apply Ha | apply a9 | apply gy | apply zY | apply oP
  | apply fj | apply nh | apply gA | apply DG | apply jh | apply Mz | apply qk | apply vn
 | decide
 | (show List.length _ <= kN; exact ax rfl)
 | (show @Eq Nat _ _; exact rfl)
 | (show @Eq Bool _ _; exact rfl)
 | (show @Eq (Option String) _ _; exact rfl)
 | (show @Eq _ _ _; with_reducible assumption))
local macro_rules | `(tactic| walk_at "evs") => `(tactic| repeat' walk_at "ev1")
local macro_rules | `(tactic| walk_at "tst") => `(tactic| first
 | (walk_at "evs"; done)
 | (apply jO; (focus walk_at "tst"); done)
 | (apply fy; (focus walk_at "tst"); (focus walk_at "tst"); done)
 | (apply rW; (focus walk_at "tst"); done)
 | (apply gN; (focus walk_at "tst"); (focus walk_at "tst"); done))
local macro_rules | `(tactic| walk_at "go1") => `(tactic| first
 | apply aU
 | (apply be; (focus (walk_at "evs"; done)))
 | (apply bI; (focus (walk_at "evs"; done)))
 | (apply bD; (focus walk_at "tst"))
 | (apply aQ; (focus walk_at "tst"))
 | (apply nO; (focus walk_at "tst"))
 | (apply lN; (focus walk_at "tst"))
 | (apply aF; (focus (walk_at "evs"; done))))
local macro_rules | `(tactic| walk_at "go") => `(tactic| repeat walk_at "go1")
local macro_rules | `(tactic| walk_at "tb") => `(tactic| repeat' (first | with_reducible apply OS | with_reducible apply OT | with_reducible apply OU | walk_at "ev1"))
local macro_rules | `(tactic| walk_at "len") => `(tactic| (simp only [aE, eM, gY]; show _ <= 1000000; omega))
namespace L2
open PySem PySem.Spec PyProof.Rows
section
variable{ρ' ρ2:cv}{cT:List al}{fs:FA}{g gh gb:FS}{w:W}{c:Str}{cs:List Str}{P:RS->Prop}{b:Bool}
def Wq(c:Str)(I:List al->Prop):RS->Prop:=fun r=>∃ρ st,r=.ex c ρ st/\I st
theorem Ln{N:Nat}{body:FS}(h:ju (Wq c fun bF=>∃x,bF=st++x) (body #[14] st)):dZ N body ws st=.ex c st:=by
 obtain⟨ρ,bF,e,x,rfl⟩:=h
 unfold dZ
 rw[e]
 simp only[sT (st:=st) (x:=x) (ws:=[]) rfl]
theorem Hc{N:Nat}{body:FS}(h:ju (FB fun _ bF=>∃x,bF=st++x) (body #[14] st)):dZ N body ws st=.ok .non st:=by
 obtain⟨ρ,bF,e,x,rfl⟩:=h
 unfold dZ
 rw[e]
 simp only[sT (st:=st) (x:=x) (ws:=[]) rfl]
theorem wg(h:P (.ex c ρ st)):ju P (aX (yf c) gb ρ st):=h
theorem Hd(h1:fs ρ st=.ok ws st1)(h2:F ws st1=.ex c cT)(hn:ws.length=n):bS n F fs ρ st=.ex c cT:=by unfold bS;rw[h1];simp only[R.bind_ok];rw[aC hn];exact h2
theorem He(h:fe ρ st=.ex c st1):b6 i fe ρ st=.ex c ρ st1:=by unfold b6;rw[h];rfl
theorem Hf(h:g ρ st=.nx ρ' st1):Ce g cs i gh ρ st=.nx ρ' st1:=by unfold Ce;rw[h]
theorem Hg(h:g ρ st=.ex c ρ' st1)(hc:c∈cs)(h2:gh (ρ'.set i (some (.loc st1.length))) (st1++[.exc c])=.nx ρ2 cT):Ce g cs i gh ρ st=.nx (ρ2.set i none) cT:=by
 unfold Ce;rw[h];simp only;rw[aC hc,h2];rfl
theorem Hh{f:Str->Option Bool}(h:fa ρ st=.ok (.loc n) st1)(hc:st1[n]?=some (.exc c))(hf:f c=some b):yh f fa ρ st=.ok (.bl b) st1:=by
 unfold yh;rw[h];simp only[R.bind_ok,hc,hf]
theorem MA{p q:Bool}(h:(p==q)=b):fQ (.bl p) (.bl q) st=.ok (.bl b) st:=by rw[<- h];rfl
theorem yo(I:cv->List al->Prop)(h:ju (FB I) (g ρ st))(h2:∀ρ st,I ρ st->ju P (gb ρ st)):ju P (aX g gb ρ st):=by
 obtain⟨ρ',bF,e,hi⟩:=h
 exact aF e (h2 _ _ hi)
end
section
variable{f:FG}
theorem z6{ρ0:cv}(hc:jd st ck)(T:W->Bool)(Y:W->W):∀(ws gg:List W),(∀w∈ws,∃ρ',f w ρ0=some ρ'/\t ρ' st=.ok (T w) st/\(T w=true->el ρ' st=.ok (Y w) st)) ->
  nN f t el ck ρ0 ws gg st=.ok (gg++(ws.filter T).map Y) st
 |[],gg,_=>by unfold nN;rw[aC hc];simp
 |w::ws,gg,h=>by
  obtain⟨ρ',e1,e2,e3⟩:=h w #[18]
  have ih:=fun gg=>z6 hc T Y ws gg fun w' hw'=>h w' (by simp[hw'])
  unfold nN
  rw[aC hc,e1]
  simp only[e2]
  cases hT:T w with
  |true=>
   simp only[e3 hT]
   rw[ih]
   simp[jJ,hT]
  |false=>
   simp only
   rw[ih]
   simp[jJ,hT]
theorem yp(T:W->Bool)(Y:W->W)(h:fi ρ st=.ok (ws,ck) st1)(hl:ws.length<=kN)(hc:jd st1 ck)
  (hs:∀w∈ws,∃ρ',f w (va cap ρ)=some ρ'/\t ρ' st1=.ok (T w) st1/\(T w=true->el ρ' st1=.ok (Y w) st1)):gj cap fi f t el ρ st=.ok (.loc st1.length) (st1++[.lst ((ws.filter T).map Y)]):=by
 unfold gj
 rw[h]
 simp only[R.bind_ok]
 rw[aC hl,z6 hc T Y ws [] hs]
 simp only[R.bind_ok,iT,nJ]
 rw[aC]
 rw[az]
 exact aH (cI _ _) hl
theorem Lo(Y:W->W)(h:fi ρ st=.ok (ws,ck) st1)(hl:ws.length<=kN)(hc:jd st1 ck)
  (hs:∀w∈ws,∃ρ',f w (va cap ρ)=some ρ'/\el ρ' st1=.ok (Y w) st1):gj cap fi f m9 el ρ st=.ok (.loc st1.length) (st1++[.lst (ws.map Y)]):=by
 have:=yp (fi:=fi) (f:=f) (t:=m9) (el:=el) (cap:=cap) (fun _=>true) Y h hl hc fun w hw=>by
  obtain⟨ρ',e1,e2⟩:=hs w hw
  exact⟨ρ',e1,rfl,fun _=>e2⟩
 rw[iz.mpr (fun _ _=>rfl)]at this
 exact this
theorem Fb{lo:Int}{w:W}(h:w∈fx lo q):∃i:Nat,i<q/\w=.int (lo+i):=by
 unfold fx at h
 obtain⟨i,hi,rfl⟩:=b8.mp h
 exact⟨i,df.mp hi,rfl⟩
theorem qP(h:lstOf st n=some ws):jC [.loc n] st=.ok (.tup ws) st:=by unfold jC;simp only[h,dY]
theorem Cq{ws xs:List W}(h:(ws++xs).length<=kN):e7 (.tup ws) (.tup xs) st=.ok (.tup (ws++xs)) st:=by simp only[e7,qf];rw[aC h]
theorem MB{p q:Int}:E1 [.int p,.int q] st=.ok (.int (if q>p then q else p)) st:=rfl
end
open Builtin Builtin.Str
theorem wX:∀ws:List (List Nat),(∀w∈ws,c∉w)->(kM [c] ws).filter (fun d=>d != c)=ws.flatten
 |[],_=>rfl
 |[x],h=>by
  have hx:c∉x:=h x #[18]
  show x.filter _=_
  rw[iz.mpr fun d hd=>by simp;rintro rfl;exact hx hd]
  simp
 |x::y::r,h=>by
  have hx:c∉x:=h x #[18]
  show(x++[c]++kM [c] (y::r)).filter _=_
  rw[List.filter_append,List.filter_append,wX (y::r) fun w hw=>h w (bi _ hw),iz.mpr fun d hd=>by simp;rintro rfl;exact hx hd]
  simp
theorem Lp(l:List Nat)(c:Nat):Txt.replace (tx l) (tx [c]) (tx [])=tx (l.filter fun d=>d != c):=by
 obtain⟨f,hg,hfree⟩:=StrLaws.occ_tight (tx l) (tx [c]) (by simp[tx,Str.length])
 obtain⟨f',hc⟩:=StrLaws.occ_chain (tx l) (tx [c]) ((tx l).length+1)
 have pf:=StrLaws.parts_free (tx l) c _ 0 f hg hfree
 have pj:=StrLaws.join_partsFrom (tx l) (tx [c]) _ 0 f' hc
 rw[StrLaws.sub_whole]at pj
 unfold Txt.replace
 rw[StrLaws.partsBetween_eq]
 have pe:(occurrences (tx l) (tx [c]) 0 (tx l).length ((tx l).length+1)).isEmpty=true->StrLaws.partsFrom (tx l) (tx [c]).length 0 (occurrences (tx l) (tx [c]) 0 (tx l).length ((tx l).length+1))=[tx l]:=fun h=>by
  rw[List.isEmpty_iff.mp h]
  show[strSub (tx l) 0 (tx l).length]=_
  rw[StrLaws.sub_whole]
 generalize occurrences (tx l) (tx [c]) 0 (tx l).length ((tx l).length+1)=os at pf pj pe ⊢
 have pf:∀p∈StrLaws.partsFrom (tx l) (tx [c]).length 0 os,c∉p.cps.toList:=pf
 generalize StrLaws.partsFrom (tx l) (tx [c]).length 0 os=ps at pf pj pe ⊢
 have em:ps=(ps.map fun z=>z.cps.toList).map tx:=by
  rw[bp]
  conv=>lhs;rw[<- j6 ps]
  exact d9 fun z _=>(RT z).symm
 have fr:∀w∈ps.map (fun z=>z.cps.toList),c∉w:=fun w hw=>by
  obtain⟨p,hp,rfl⟩:=b8.mp hw
  exact pf p hp
 generalize ps.map (fun z=>z.cps.toList)=ws at em fr
 subst em
 have ej:∀sep:List Nat,Str.join (tx sep) (ws.map tx)=tx (kM sep ws):=fun sep=>by
  rw[<- Dn sep ws]
  show _=glued _ _
  rw[g_]
 rw[ej]at pj
 have el:kM [c] ws=l:=xX.mp pj
 have hfl:=wX ws fr
 rw[el]at hfl
 split
 ·rename_i h
  rw[show((tx [c]).length==0&&(tx []).length==0)=false from rfl,ms]at h
  have e1:=pe h
  have:ws.flatten=l:=by
   have e2:ws=[l]:=by
    cases ws with
    |nil=>cases e1
    |cons a r=>
     cases r with
     |nil=>simp only[aW,kD,List.cons.injEq,and_true]at e1;rw[xX.mp e1]
     |cons _ _=>simp at e1
   rw[e2];simp
  rw[hfl,this]
 ·rw[g_,ej,mz,hfl]
section
variable{to:TE}
def SJ(to te:TE):TE:=fun σ H Q=>to σ H fun x H1=>(∃l,x=.str (tx l))/\te σ H1 fun y H2=>∃l c,x=.str (tx l)/\y=.str (tx [c])/\l.length<=1000000/\Q (.str (tx (l.filter fun d=>d != c))) H2
theorem Lq(ho:PE X o to)(he:PE X e te)
  (ji:attributeBase o "replace" X.env (eval o X.env)=eval o X.env)
  (qW:((backTo dD (starEach [e,.Constant (.str (tx [])) j p2] X.env)).all (fun x=>!x.1)&&(backToKw dD (keywordEach [] X.env)).all (fun x=>x.1.isSome)
   && decide ([e,.Constant (.str (tx [])) j p2].length+([]:List Keyword).length+(if ([]:List Keyword).isEmpty then 0 else 1)<30))=true)
  (j4:(gH.endLine==dD.line)=true) (hs:starEach [e,.Constant (.str (tx [])) j p2] X.env=(false,eval e X.env)::starEach [.Constant (.str (tx [])) j p2] X.env) :
  PE X (.Call (.Attribute o "replace" gH) [e,.Constant (.str (tx [])) j p2] [] dD) (SJ to te):=by
 intro ai s σ H Q I h
 refine nA ji qW j4 rfl (jq (ho ai s σ H _ I h) fun v s1 kt1 zq=>?_)
 obtain⟨x,H1,I1,r1,ty,q1⟩:=zq
 obtain⟨h1,h2⟩:=BP I1 r1 (Do ty)
 refine⟨"str",_,F.plainAttrs_str,F.slot_str_replace,F.type_str_replace,h1,h2,?_⟩
 rw[hs]
 refine gT rfl (ig ?_)
 show wpAny _ _ (spliced ((false,eval e X.env)::backTo dD (starEach [.Constant (.str (tx [])) j p2] X.env))) _ _ s1
 refine dJ (jq (he ai s1 σ H1 _ I1 q1) fun u s2 kt2 zq=>?_)
 obtain⟨y,H2,I2,r2,l,c,ex,ey,hl,q2⟩:=zq
 subst ex ey
 obtain⟨t,rfl⟩:=r1.up kt2
 obtain⟨t2,rfl⟩:=r2
 show wpAny _ _ (spliced ((false,eval (.Constant (.str (tx [])) j p2) X.env)::backTo dD (starEach [] X.env))) _ _ s2
 refine dJ (Calls.Constant_str ?_)
 show wpAny _ _ (spliced []) _ _ _
 refine fX ?_
 obtain⟨p1,p2⟩:=t2.2 rfl
 have n1:t2.1≠0:=eP p1
 have n2:s2.toks≠0:=eP I2.pos
 have n3:t2.1≠s2.toks:=aY p2
 have e0:(tx []).length=0:=rfl
 have e1:(1000000:Nat)<=sizeLine:=by decide
 refine call_gives F.slot_str_replace (jG _ _ _) F.entry_str_replace (F.args_str_replace_3 _ _ _)
  (gives_str_replace (tx l) (tx [c]) (tx []) t.1 t2.1 s2.toks fun _=>⟨by simp[n1,n2],by simp[n3],rfl,?_⟩) ?_
 ·rw[e0,Nat.mul_zero,sy,iV]
  unfold tooLong
  exact aI #[0]
 ·have hq:=Lp l c
  unfold Txt.replace at hq
  cases hc:((occurrences (tx l) (tx [c]) 0 (tx l).length ((tx l).length+1)).isEmpty||((tx [c]).length==0&&(tx []).length==0))
  ·rw[hc]at hq
   simp only[gP,iK]at hq ⊢
   rw[hq]
   have I3:=I2.tok (s2.toks+1)
   refine⟨?_,⟨.str _,H2,I3.tok _,I3.tkS,q2⟩⟩
   rw[iV]
   exact aH (cI _ _) (aH hl e1)
  ·rw[hc]at hq
   simp only[jP]at hq ⊢
   rw[<- hq]at q2
   exact⟨.str (tx l),H2,I2.tok _,⟨t.up (bB _),rfl⟩,q2⟩
end
section
variable{fo:FE}
def Hi:W->W->List al->R W
 |.str l,.str [c],st=>if l.length<=kN then .ok (.str (l.filter fun d=>d != c)) st else .bad
 |_,_,_=>.bad
def DH(fo fe:FE):FE:=fun ρ st=>(fo ρ st).bind fun x st=>if wO x then(fe ρ st).bind fun y st=>Hi x y st else .bad
theorem OV{z:Str}(ho:SE X o fo)(he:SE X e fe)(hz:z=tx []:=by first|rfl|decide +kernel)
  (ji:attributeBase o "replace" X.env (eval o X.env)=eval o X.env:=by rfl)
  (qW:((backTo dD (starEach [e,.Constant (.str z) j p2] X.env)).all (fun x=>!x.1)&&(backToKw dD (keywordEach [] X.env)).all (fun x=>x.1.isSome)
   && decide ([e,.Constant (.str z) j p2].length+([]:List Keyword).length+(if ([]:List Keyword).isEmpty then 0 else 1)<30))=true:=by rfl)
  (j4:(gH.endLine==dD.line)=true:=by rfl) (hs:starEach [e,.Constant (.str z) j p2] X.env=(false,eval e X.env)::starEach [.Constant (.str z) j p2] X.env:=by rfl) :
  SE X (.Call (.Attribute o "replace" gH) [e,.Constant (.str z) j p2] [] dD) (DH fo fe):=⟨by
 subst hz
 refine(Lq ho.h he.h ji qW j4 hs).imp fun σ H Q h=>?_
 walk_at "2"
 walk_at "1"
 cases x with
 |str z=>
  rw[aC (show wO (W.str z)=true from rfl)]at h1
  refine⟨⟨z,q1.strE⟩,μ1,ρ,st1,l1,RK.bind h1 l1 fun μ2 cT y u H2 p2 x2 l2 q2 h2=>?_⟩
  unfold Hi at h2
  split at h2
  ·rename_i l' c e1
   cases e1
   split at h2
   ·rename_i hl
    exact⟨_,c,q1.strE,q2.strE,hl,h2 μ2 _ H2 (au _) fw.refl l2.sto .str⟩
   ·exact h2.elim
  ·exact h2.elim
 |_=>exact h1.elim⟩
theorem OW{cT:List al}(h1:fo ρ st=.ok (.str l) st1)(h2:fe ρ st1=.ok (.str [c]) cT)(hl:l.length<=kN):DH fo fe ρ st=.ok (.str (l.filter fun d=>d != c)) cT:=by
 unfold DH
 rw[h1]
 simp only[R.bind_ok]
 rw[aC (show wO (W.str l)=true from rfl),h2]
 simp only[R.bind_ok]
 unfold Hi
 simp only
 rw[aC hl]
end
end L2
namespace P
open PySem L2
open PyProof.Rows (boot_sorted boot_set boot_ord boot_all boot_enumerate boot_int boot_str boot_bool boot_list boot_tuple boot_isinstance boot_max boot_min)
def mi(i:Nat):Stmt:=PySem.Challenge.pw_trunksay_k17_whole_what_going_does_not_l.main.body.getD i (.Pass ⟨0,0,0,0⟩)
abbrev OX:Stmt:=mi 12
abbrev Cr:List Str:=["letter"]
abbrev SL:List Str:=["letter"]
theorem SM:bJ Cr SL (a8 OX):=mh
abbrev OY:Stmt:=mi 13
abbrev Ct:List Str:=["letters"]
abbrev SN:List Str:=["letters"]
theorem SQ:bJ Ct SN (a8 OY):=mh
abbrev OZ:Stmt:=mi 14
abbrev Hj:List Str:=["exponent","power","each"]
abbrev SR:List Str:=["exponent"]
theorem DI:bJ Hj SR (a8 OZ):=mh
abbrev O0:Stmt:=mi 18
abbrev Cu:List Str:=["statement"]
abbrev SU:List Str:=["statement"]
theorem SV:bJ Cu SU (a8 O0):=mh
abbrev O1:Stmt:=mi 20
abbrev Cv:List Str:=["place"]
abbrev SX:List Str:=["place"]
theorem SY:bJ Cv SX (a8 O1):=mh
abbrev O2:Stmt:=mi 21
abbrev z7:List Str:=["place"]
abbrev SZ:List Str:=["place"]
theorem S5:bJ z7 SZ (a8 O2):=mh
abbrev O3:Stmt:=mi 22
abbrev Cw:List Str:=["tree","links","tops","number","place","right","left"]
abbrev S6:List Str:=["tree"]
theorem vp:bJ Cw S6 (a8 O3):=mh
abbrev O4:Stmt:=mi 23
abbrev Hk:List Str:=["tree","lefts","rights","number","pair"]
abbrev S7:List Str:=["tree"]
theorem z8:bJ Hk S7 (a8 O4):=mh
abbrev O5:Stmt:=mi 24
abbrev Fc:List Str:=["ups","place"]
abbrev S8:List Str:=["ups","place"]
theorem S9:bJ Fc S8 (a8 O5):=mh
abbrev O6:Stmt:=mi 25
abbrev wj:List Str:=["tree","place"]
abbrev S_:List Str:=["tree","place"]
theorem Tb:bJ wj S_ (a8 O6):=mh
abbrev Hl:Stmt:=mi 27
abbrev Cy:List Str:=["tree","letter"]
abbrev MC:List Str:=["tree","letter"]
theorem O7:bJ Cy MC (a8 Hl):=mh
abbrev Hm:Stmt:=mi 28
abbrev yq:List Str:=["tree","letter","places","chosen","number","dressed","place","marks"]
abbrev MD:List Str:=["tree","letter","places"]
theorem oQ:bJ yq MD (a8 Hm):=mh
abbrev Ho:Stmt:=mi 31
abbrev vq:List Str:=["letter","size"]
abbrev ME:List Str:=["letter","size"]
theorem O8:bJ vq ME (a8 Ho):=mh
abbrev Hq:Stmt:=mi 32
abbrev Fd:List Str:=["statement","size","word"]
abbrev Hr:List Str:=["statement","size"]
theorem Hs:bJ Fd Hr (a8 Hq):=mh
abbrev Ht:Stmt:=mi 33
abbrev yr:List Str:=["letter","size","choices","place"]
abbrev MF:List Str:=["letter","size"]
theorem yt:bJ yr MF (a8 Ht):=mh
abbrev Hu:Stmt:=mi 34
abbrev Lr:List Str:=["tree","number","letter"]
abbrev MG:List Str:=["tree","number","letter"]
theorem O9:bJ Lr MG (a8 Hu):=mh
abbrev Hv:Stmt:=mi 35
abbrev z9:List Str:=["tree","ups","low","high","below","number","up"]
abbrev MH:List Str:=["tree","ups","low","high"]
theorem yu:bJ z9 MH (a8 Hv):=mh
abbrev Hw:Stmt:=mi 36
abbrev yv:List Str:=["statement","tree","ups","word","borne","side"]
abbrev MI:List Str:=["statement","tree","ups"]
theorem yw:bJ yv MI (a8 Hw):=mh
abbrev Hy:Stmt:=mi 37
abbrev yx:List Str:=["statement","tree","ups","settling","places"]
abbrev Hz:List Str:=["statement","tree","ups"]
theorem Cz:bJ yx Hz (a8 Hy):=mh
abbrev HA:Stmt:=mi 38
abbrev z_:List Str:=["statement","tree","ups","word"]
abbrev HB:List Str:=["statement","tree","ups"]
theorem HC:bJ z_ HB (a8 HA):=mh
abbrev HD:Stmt:=mi 39
abbrev Ls:List Str:=["statement","tree"]
abbrev MJ:List Str:=["statement","tree"]
theorem O_:bJ Ls MJ (a8 HD):=mh
abbrev HE:Stmt:=mi 41
abbrev Aa:List Str:=["_law_script","_law_k"]
abbrev MK:List Str:=["_law_script","_law_k"]
theorem O':bJ Aa MK (a8 HE):=mh
abbrev HF:Stmt:=mi 42
abbrev yy:List Str:=["_law_cell_here","_law_k","_law_salt","_law_first"]
abbrev ML:List Str:=["_law_cell_here","_law_k","_law_salt"]
theorem HG:bJ yy ML (a8 HF):=mh
abbrev HH:Stmt:=mi 43
abbrev yz:List Str:=["_law_cell_here","_law_many","_law_salt","_law_found","_law_rest","_law_k"]
abbrev MM:List Str:=["_law_cell_here","_law_many","_law_salt"]
theorem sV:bJ yz MM (a8 HH):=mh
abbrev HI:Stmt:=mi 44
abbrev Ab:List Str:=["_law_cell_here","_law_many","_law_salt","_law_rest","_law_found","_law_d","_law_at"]
abbrev MN:List Str:=["_law_cell_here","_law_many","_law_salt"]
theorem qQ:bJ Ab MN (a8 HI):=mh
abbrev HJ:Stmt:=mi 45
abbrev yA:List Str:=["_law_pool_here","_law_number"]
abbrev MO:List Str:=["_law_pool_here","_law_number"]
theorem Pa:bJ yA MO (a8 HJ):=mh
abbrev HK:Stmt:=mi 46
abbrev Ac:List Str:=["_law_draws_here","_law_pool_here","_law_most","_law_found","_law_high","_law_d","_law_branches"]
abbrev MP:List Str:=["_law_draws_here","_law_pool_here","_law_most"]
theorem oR:bJ Ac MP (a8 HK):=mh
abbrev HL:Stmt:=mi 47
abbrev Ad:List Str:=["_law_draws_here","_law_pool_here","_law_words","_law_heap","_law_k","_law_word","_law_a","_law_b","_law_last"]
abbrev MQ:List Str:=["_law_draws_here","_law_pool_here"]
theorem ni:bJ Ad MQ (a8 HL):=mh
abbrev HM:Stmt:=mi 48
abbrev yB:List Str:=["_law_tree","_law_heap","_law_found","_law_k","_law_left","_law_right"]
abbrev MR:List Str:=["_law_tree"]
theorem oS:bJ yB MR (a8 HM):=mh
abbrev HN:Stmt:=mi 49
abbrev Ae:List Str:=["_law_said_here","_law_many"]
abbrev HP:List Str:=["_law_said_here","_law_many"]
theorem Pb:bJ Ae HP (a8 HN):=mh
abbrev HQ:Stmt:=mi 50
abbrev Af:List Str:=["_law_said_here","_law_links_here","_law_under_here","_law_worn_here","_law_word","_law_ways_here","_law_way","_law_kept"]
abbrev HR:List Str:=["_law_said_here","_law_links_here","_law_under_here","_law_worn_here"]
theorem sW:bJ Af HR (a8 HQ):=mh
abbrev HS:Stmt:=mi 51
abbrev yC:List Str:=["_law_said_here","_law_links_here","_law_under_here","_law_worn_here","_law_first","_law_other","_law_reach","_law_k"]
abbrev MS:List Str:=["_law_said_here","_law_links_here","_law_under_here","_law_worn_here"]
theorem nj:bJ yC MS (a8 HS):=mh
abbrev HU:Stmt:=mi 52
abbrev yD:List Str:=["_law_links_here","_law_found","_law_left","_law_right","_law_below"]
abbrev MU:List Str:=["_law_links_here"]
theorem qR:bJ yD MU (a8 HU):=mh
abbrev HV:Stmt:=mi 53
abbrev Ag:List Str:=["_law_tree","_law_found","_law_k","_law_letter"]
abbrev MV:List Str:=["_law_tree"]
theorem yE:bJ Ag MV (a8 HV):=mh
abbrev HW:Stmt:=mi 54
abbrev yF:List Str:=["_law_said_here"]
abbrev HX:List Str:=["_law_said_here"]
theorem Pc:bJ yF HX (a8 HW):=mh
abbrev HY:Stmt:=mi 55
abbrev ug:List Str:=["_law_tree","_law_heap","_law_branches","_law_marks_here","_law_left","_law_right"]
abbrev MW:List Str:=["_law_tree"]
theorem oT:bJ ug MW (a8 HY):=mh
abbrev HZ:Stmt:=mi 56
abbrev sX:List Str:=["_law_letter","_law_by","_law_great","_law_small"]
abbrev MX:List Str:=["_law_letter","_law_by"]
theorem CA:bJ sX MX (a8 HZ):=mh
abbrev H9:Stmt:=mi 57
abbrev vt:List Str:=["_law_said_here","_law_by","_law_turned","_law_found","_law_inner"]
abbrev H_:List Str:=["_law_said_here","_law_by","_law_turned"]
theorem CB:bJ vt H_ (a8 H9):=mh
abbrev Ia:Stmt:=mi 58
abbrev qS:List Str:=["_law_tree","_law_names_here","_law_more","_law_draws_here","_law_found","_law_k","_law_kept"]
abbrev MY:List Str:=["_law_tree","_law_names_here","_law_more","_law_draws_here"]
theorem sY:bJ qS MY (a8 Ia):=mh
abbrev Ib:Stmt:=mi 59
abbrev CC:List Str:=["_law_said_here","_law_tree","_law_links_here"]
abbrev MZ:List Str:=["_law_said_here","_law_tree"]
theorem Ic:bJ CC MZ (a8 Ib):=mh
abbrev Ie:Stmt:=mi 60
abbrev CD:List Str:=["_law_said_here","_law_tree","_law_told","e"]
abbrev M0:List Str:=["_law_said_here","_law_tree"]
theorem vw:bJ CD M0 (a8 Ie):=mh
abbrev Ig:Stmt:=mi 61
abbrev Ah:List Str:=["_law_found","_law_due_here","_law_k"]
abbrev Ih:List Str:=["_law_found","_law_due_here"]
theorem Ii:bJ Ah Ih (a8 Ig):=mh
abbrev r6:Stmt:=mi 62
abbrev Tc:List Str:=["_law_script","_law_sizes","_law_pool_here","_law_said_here","_law_many","_law_tree","_law_due_here","_law_names_here","_law_more","_law_other","_law_turned","_law_by","_law_renamed","_law_branches","_law_marks_here","_law_letter","_law_every","_law_opposite"]
abbrev Ij:List Str:=["_law_script"]
theorem gB:bJ Tc Ij (a8 r6):=mh
structure Bl(mg:Str->Option Value):Prop where
 ValueError:mg "ValueError"=Option.none
 all:mg "all"=Option.none
 bool:mg "bool"=Option.none
 dict:mg "dict"=Option.none
 enumerate:mg "enumerate"=Option.none
 int:mg "int"=Option.none
 isinstance:mg "isinstance"=Option.none
 len:mg "len"=Option.none
 list:mg "list"=Option.none
 max:mg "max"=Option.none
 range:mg "range"=Option.none
 set:mg "set"=Option.none
 sorted:mg "sorted"=Option.none
 str:mg "str"=Option.none
 tuple:mg "tuple"=Option.none
def oU:W:=.tup [.str [105,110],.str [108,101,102,116],.str [114,105,103,104,116],.str [98,101,108,111,119]]
def wY:W:=.tup [.str [97,110,100],.str [111,114]]
def tX:W:=.int 4096
structure Gc(K:Frag)(mg:Str->Option Value):Prop where
 TWO_LETTERED:∃u v,mg "TWO_LETTERED"=some u/\cW 0 v u/\∀μ H,bK K μ H oU v
 JOINING:∃u v,mg "JOINING"=some u/\cW 0 v u/\∀μ H,bK K μ H wY v
 MOST_WAYS:∃u v,mg "MOST_WAYS"=some u/\cW 0 v u/\∀μ H,bK K μ H tX v
abbrev ql:List Str:=["TrunkError","NoPlace","TooGreat"]
def i7:Str->Option Bool:=fun c=>if c="TrunkError" then some false else if c="NoPlace" then some false else if c="TooGreat" then some true else none
def wZ:Str->Option Bool:=fun c=>if c="TrunkError" then some false else if c="NoPlace" then some true else if c="TooGreat" then some false else none
def g7:Str->Option Bool:=fun c=>if c="TrunkError" then some true else if c="NoPlace" then some true else if c="TooGreat" then some true else none
theorem Lu:bootBuiltins "ValueError"=some (.type "ValueError"):=by first|rfl|kernel_rfl|decide +kernel
structure Mj(K:Frag)(mg:Str->Option Value):Prop where
 TrunkError:Lb K mg "TrunkError"
 NoPlace:Lb K mg "NoPlace"
 TooGreat:Lb K mg "TooGreat"
 isi_TooGreat:∃Ta,mg "TooGreat"=some (.ref Ta)/\GW K mg (.ref Ta) i7
 isi_t0:∃A0,∃A1,∃A2,∃A3,∃A4,∃A5,∃A6,∃A7,mg "NoTree"=some (.ref A0)/\mg "NoStatement"=some (.ref A1)/\mg "NoPlace"=some (.ref A2)/\mg "NoNumber"=some (.ref A3)/\mg "NoName"=some (.ref A4)/\mg "NoLine"=some (.ref A5)/\mg "NothingDone"=some (.ref A6)/\mg "NothingHeld"=some (.ref A7)/\GY K mg [A0,A1,A2,A3,A4,A5,A6,A7] wZ
 isi_ValueError:GW K mg (.type "ValueError") g7
 catch_TrunkError:GS K mg "TrunkError" ql
section
variable{w:World}{f:Addr}
def Vg:FS:=(cK (qL Cb Cb (eC (.str [97])) (af 0) (eC (.str [122]))))
def CF:List W->List al->R W:=dZ 1 Vg
theorem Td(F:j9 K "is_small" "is_small" OX f fd)  :eY P w K mg base (kP P w) 1 f fd SL (md K mg 1 CF):=
 cS (k:=0) F SM rfl fun gJ A outer s H E hr=>(aL (bh (K_ GO GO cw (ae 0) cw)))
def Vh:FS:=(cK (BA kj (eC (.str [])) (ah (iD (af 0)) aK)))
def Ik:List W->List al->R W:=dZ 1 Vh
theorem Te(F:j9 K "in_order" "in_order" OY f fd)(B:Bl mg) :eY P w K mg base (kP P w) 1 f fd SN (md K mg 1 Ik):=
 cS (k:=0) F SQ rfl fun gJ A outer s H E hr=>(aL (bh (we PySem.F.slot_str_join PySem.F.type_str_join lK cw (aa (pO B.sorted B.set (ae 0)) aw))))
def Tf:FS:=(aX (b6 1 (eI 1)) (aX (i' (dM (ah (af 0) aK)) (g8 2) (b6 1 (e2 je (af 1) (eI 2)))) (cK (af 1))))
def Il:List W->List al->R W:=dZ 3 Tf
theorem Tg(F:j9 K "two_to" "two_to" OZ f fd)(B:Bl mg) :eY P w K mg base (kP P w) 1 f fd SR (md K mg 1 Il):=
 cS (k:=0) F DI rfl fun gJ A outer s H E hr=>(aB (sS 1 DI aD) (aB (fI (fR B.range (aa (ae 0) aw)) (sG 2 DI) (aL (sS 1 DI (bV jf (ae 1) aD)))) (aL (bh (ae 1)))))
def Vi:FS:=(cK (J_ (e2 fQ #[10] (eC (.str [111,110,101]))) (e2 (mR false) #[10] (eC oU))))
def CG:List W->List al->R W:=dZ 1 Vi
theorem Th(F:j9 K "is_plain" "is_plain" O0 f fd)(G:Gc K mg) :eY P w K mg base (kP P w) 1 f fd SU (md K mg 1 CG):=
 cS (k:=0) F SV rfl fun gJ A outer s H E hr=>(aL (bh (K1 (ki (eV hr) #[7] cw) (nI (ki (sO hr) #[7] (Oy G.TWO_LETTERED))))))
def Vj:FS:=(cK (e2 (mR false) #[10] (fP (ah (eI 1) (ah (eI 3) aK)))))
def yG:List W->List al->R W:=dZ 1 Vj
theorem Ti(F:j9 K "has_left" "has_left" O1 f fd)  :eY P w K mg base (kP P w) 1 f fd SX (md K mg 1 yG):=
 cS (k:=0) F SY rfl fun gJ A outer s H E hr=>(aL (bh (ki (sO hr) #[7] (eU (aa aD (aa aD aw))))))
def Vk:FS:=(cK (e2 (mR false) #[10] (fP (ah (eI 2) (ah (eI 3) aK)))))
def yH:List W->List al->R W:=dZ 1 Vk
theorem Tj(F:j9 K "has_right" "has_right" O2 f fd)  :eY P w K mg base (kP P w) 1 f fd SZ (md K mg 1 yH):=
 cS (k:=0) F S5 rfl fun gJ A outer s H E hr=>(aL (bh (ki (sO hr) #[7] (eU (aa aD (aa aD aw))))))
def Tl:FS:=(aX (b6 1 (kO aK)) (aX (b6 2 (kO aK)) (aX (i' (mf (ah (af 0) aK)) (Ka 2 (g9 (g8 3) (g9 (g8 4) rO))) (aX (b6 5 (J' (da (bS 1 yH (ah (af 4) aK))) (lJ p9 (af 2) aK) (eC .non))) (aX (b6 6 (J' (da (bS 1 yG (ah (af 4) aK))) (lJ p9 (af 2) aK) (eC .non))) (aX (eO (lJ bO (af 2) (ah (af 3) aK))) (eO (lJ bO (af 1) (ah (fP (ah (af 6) (ah (af 5) aK))) aK))))))) (cK (cr jC #[16])))))
def Im:List W->List al->R W:=dZ 7 Tl
theorem Tn(F:j9 K "links_of" "links_of" O3 f fd)(B:Bl mg)(QK:cG P w K mg base 1 "has_left" 1 yG)(Q0:cG P w K mg base 1 "has_right" 1 yH):eY P w K mg base (kP P w) 2 f fd S6 (md K mg 1 Im):=
 cS (k:=1) F vp rfl fun gJ A outer s H E hr=>(aB (sS 1 vp (jU aw)) (aB (sS 2 vp (jU aw)) (aB (fI (uv B.enumerate (aa (ae 0) aw)) (qI rfl (fU (sG 3 vp) (fU (sG 4 vp) m8))) (aB (sS 5 vp (Gz (gp (bA Q0 hr #[0] (aa (ae 4) aw))) (tQ PySem.F.slot_list_pop PySem.F.type_list_pop oJ (ae 2)) u5)) (aB (sS 6 vp (Gz (gp (bA QK hr #[0] (aa (ae 4) aw))) (tQ PySem.F.slot_list_pop PySem.F.type_list_pop oJ (ae 2)) u5)) (aB (eE (me PySem.F.slot_list_append PySem.F.type_list_append c7 (ae 2) (aa (ae 3) aw))) (aL (eE (me PySem.F.slot_list_append PySem.F.type_list_append c7 (ae 1) (aa (eU (aa (ae 6) (aa (ae 5) aw))) aw)))))))) (aL (bh (jV m7 B.tuple gi #[23]))))))
def Pd:FS:=(aX (E2 (gj [none] (dz (af 0)) (g8 0) m9 (eC .non)) (g8 1)) (aX (E2 (gj [none] (dz (af 0)) (g8 0) m9 (eC .non)) (g8 2)) (aX (i' (mf (ah (bS 1 Im (ah (af 0) aK)) aK)) (Ka 2 (g9 (g8 3) (g9 (g8 4) rO))) (aX (fD (da (iB (e2 bH (af 4) (eI 0)))) (p8 (af 1) (e2 bH (af 4) (eI 0)) (af 3) lI) b_) (fD (da (iB (e2 bH (af 4) (eI 1)))) (p8 (af 2) (e2 bH (af 4) (eI 1)) (af 3) lI) b_))) (cK (fP (ah (af 1) (ah (af 2) aK)))))))
def Io:List W->List al->R W:=dZ 5 Pd
theorem To(F:j9 K "ups_of" "ups_of" O4 f fd)(B:Bl mg)(Qp:cG P w K mg base 2 "links_of" 1 Im):eY P w K mg base (kP P w) 3 f fd S7 (md K mg 1 Io):=
 cS (k:=2) F z8 rfl fun gJ A outer s H E hr=>(aB (qK (sG 1 z8) (m:=0) (nm:=["place"]) (cap:=[none]) (by first|rfl|kernel_rfl) rfl (gs (ae 0)) (fun _ _ _ _ _=>(sC 0)) (fun _ _ _ _ _=>jN) (fun _ _ _ _ _=>u5)) (aB (qK (sG 2 z8) (m:=0) (nm:=["place"]) (cap:=[none]) (by first|rfl|kernel_rfl) rfl (gs (ae 0)) (fun _ _ _ _ _=>(sC 0)) (fun _ _ _ _ _=>jN) (fun _ _ _ _ _=>u5)) (aB (fI (uv B.enumerate (aa (bA Qp hr #[0] (aa (ae 0) aw)) aw)) (qI rfl (fU (sG 3 z8) (fU (sG 4 z8) m8))) (aB (bW (mY (bw (ae 4) aD)) (aL (ma qJ (ae 3) (ae 1) (bw (ae 4) aD))) bN) (aL (bW (mY (bw (ae 4) aD)) (aL (ma qJ (ae 3) (ae 2) (bw (ae 4) aD))) bN)))) (aL (bh (eU (aa (ae 1) (aa (ae 2) aw))))))))
def Vl:FS:=(cK (J' (da (iB (e2 bH #[10] (af 1)))) (e2 bH #[10] (af 1)) (e2 bH #[15] (af 1))))
def Ip:List W->List al->R W:=dZ 2 Vl
theorem Tp(F:j9 K "up_from" "up_from" O5 f fd)  :eY P w K mg base (kP P w) 1 f fd S8 (md K mg 2 Ip):=
 cS (k:=0) F S9 rfl fun gJ A outer s H E hr=>(aL (bh (Gz (mY (bw #[7] (ae 1))) (bw #[7] (ae 1)) (bw #[7] (ae 1)))))
def Tq:FS:=(fD (Bz (da (e2 OB (af 1) (eI 0))) (da (e2 Q1 (af 1) (cr eW (ah (af 0) aK))))) (yf "NoPlace") b_)
def Iq:List W->List al->R W:=dZ 2 Tq
theorem Tr(F:j9 K "check_place" "check_place" O6 f fd)(B:Bl mg)(C:Mj K mg) :eY P w K mg base (kP P w) 1 f fd S_ (md K mg 2 Iq):=
 cS (k:=0) F Tb rfl fun gJ A outer s H E hr=>(aL (bW (p6 (u6 (bv w_lt (ae 1) aD) (qE (bv K6 (ae 1) (cy fH B.len cL (aa (ae 0) aw)))))) (aL (zP C.NoPlace)) bN))
def Ts:FS:=(cK (cr jC (ah (gj [none,none,some 1] (mf (ah (af 0) aK)) (Ka 2 (g9 (g8 0) (g9 (g8 1) rO))) (da (e2 (mR false) (af 2) (e2 bH (af 1) (eI 1)))) (af 0)) aK)))
def tY:List W->List al->R W:=dZ 2 Ts
theorem Pe(F:j9 K "borne_by" "borne_by" Hl f fd)(B:Bl mg) :eY P w K mg base (kP P w) 1 f fd MC (md K mg 2 tY):=
 cS (k:=0) F O7 rfl fun gJ A outer s H E hr=>(aL (bh (jV m7 B.tuple gi (aa (kQ (nm:=["number","place","letter"]) (cap:=[none,none,some 1]) (by first|rfl|kernel_rfl) rfl (uv B.enumerate (aa (ae 0) aw)) (fun _ _ _ _ _=>(qI rfl (fU (sC 0) (fU (sC 1) m8)))) (fun _ _ _ _ _=>(uu (bv (sO hr) (ae 2) (bw (ae 1) aD)))) (fun _ _ _ _ _=>(ae 0))) aw))))
def M1:FS:=(aX (b6 3 G5) (aX (i' (dz (af 2)) (g8 4) (aX (eO (bS 2 Iq (ah (af 0) (ah (af 4) aK)))) (p8 (af 3) (af 4) (eC (.bl true)) mD))) (aX (b6 5 (kO aK)) (aX (i' (mf (ah (af 0) aK)) (Ka 2 (g9 (g8 4) (g9 (g8 6) rO))) (aX (b6 7 (DH (e2 bH (af 6) (eI 1)) (af 1))) (aX (fD (da (e2 (E6 false) (af 4) (af 3))) (b6 7 (bS 1 Ik (ah (e2 e7 (af 7) (af 1)) aK))) b_) (eO (lJ bO (af 5) (ah (fP (ah (e2 bH (af 6) (eI 0)) (ah (af 7) aK))) aK)))))) (cK (cr jC (ah (af 5) aK)))))))
def w4:List W->List al->R W:=dZ 8 M1
theorem Pf(F:j9 K "dressed_in" "dressed_in" Hm f fd)(B:Bl mg)(Qw:cG P w K mg base 1 "check_place" 2 Iq)(QY:cG P w K mg base 1 "in_order" 1 Ik):eY P w K mg base (kP P w) 2 f fd MD (md K mg 3 w4):=
 cS (k:=1) F oQ rfl fun gJ A outer s H E hr=>(aB (sS 3 oQ G6) (aB (fI (gs (ae 2)) (sG 4 oQ) (aB (eE (bA Qw hr #[0] (aa (ae 0) (aa (ae 4) aw)))) (aL (ma (Cg hr) qD (ae 3) (ae 4))))) (aB (sS 5 oQ (jU aw)) (aB (fI (uv B.enumerate (aa (ae 0) aw)) (qI rfl (fU (sG 4 oQ) (fU (sG 6 oQ) m8))) (aB (sS 7 oQ (OV (bw (ae 6) aD) (ae 1))) (aB (bW (bv (Sz hr (sO hr)) (ae 4) (ae 3)) (aL (sS 7 oQ (bA QY hr #[0] (aa (bV fG (ae 7) (ae 1)) aw)))) bN) (aL (eE (me PySem.F.slot_list_append PySem.F.type_list_append c7 (ae 5) (aa (eU (aa (bw (ae 6) aD) (aa (ae 7) aw))) aw))))))) (aL (bh (jV m7 B.tuple gi (aa (ae 5) aw))))))))
def Tt:FS:=(cK (J' (da (bS 1 CF (ah (af 0) aK))) (cr E1 (ah (af 1) (ah (eI 1) aK))) (bS 1 Il #[16])))
def Ai:List W->List al->R W:=dZ 2 Tt
theorem Pg(F:j9 K "choices_many" "choices_many" Ho f fd)(B:Bl mg)(Fl:cG P w K mg base 1 "is_small" 1 CF)(QO:cG P w K mg base 1 "two_to" 1 Il):eY P w K mg base (kP P w) 2 f fd ME (md K mg 2 Ai):=
 cS (k:=1) F O8 rfl fun gJ A outer s H E hr=>(aL (bh (Gz (gp (bA Fl hr #[0] (aa (ae 0) aw))) (cy Ms B.max boot_max (aa (ae 1) (aa aD aw))) (bA QO hr #[0] #[23]))))
def w5(Eo:List W->List al->R W):FS:=(aX (b6 2 #[10]) (aX (fD (da (bS 1 CG (ah (af 0) aK))) (cK (eI 1)) b_) (aX (fD (da (e2 fQ (af 2) (eC (.str [110,111,116])))) (cK (bS 2 Eo (ah #[15] #[16]))) b_) (aX (fD (da (e2 (mR false) (af 2) (eC wY))) (cK (e2 e7 (bS 2 Eo (ah #[15] #[16])) (bS 2 Eo (ah #[20] #[16])))) b_) (cK (e2 zU (bS 2 Eo (ah #[20] #[16])) (bS 2 Ai (ah #[15] #[16]))))))))
def qo:Nat->List W->List al->R W
 |0=>fun _ _=>.bad
 |k+1=>dZ 3 (w5 (qo k))
theorem DJ{JZ:Addr}{QB:FuncData}(xH:j9 K "ways_of" "ways_of" Hq JZ QB)(Bh:mg "ways_of"=some (.ref JZ))(G:Gc K mg)(Es:cG P w K mg base 2 "choices_many" 2 Ai)(Bn:cG P w K mg base 1 "is_plain" 1 CG):∀k:Nat,cG P w K mg base (2+k) "ways_of" 2 (qo k)
 |0=>jX (ps:=Hr) xH Bh rfl (fun _ _ _ _ _ _ us hl=>match us,hl with|[_,_],_=>rfl)
 |k+1=>by
  have t5:=DJ xH Bh G Es Bn k
  exact jM (ps:=Hr) xH Bh rfl (fun _ _ _ _ _ _ us hl=>match us,hl with|[_,_],_=>rfl) (cS (k:=2+k) xH Hs rfl fun gJ A outer s H E hr=>(aB (sS 2 Hs #[7]) (aB (bW (gp (bA Bn hr #[0] (aa (ae 0) aw))) (aL (bh aD)) bN) (aB (bW (bv (eV hr) (ae 2) cw) (aL (bh (bA t5 hr #[0] (aa #[7] #[23])))) bN) (aB (bW (bv (sO hr) (ae 2) (Oy G.JOINING)) (aL (bh (bV fG (bA t5 hr #[0] (aa #[7] #[23])) (bA t5 hr #[0] (aa #[7] #[23]))))) bN) (aL (bh (bV Cm (bA t5 hr #[0] (aa #[7] #[23])) (bA Es hr #[0] (aa #[7] #[23]))))))))))
def M3:FS:=(aX (fD (da (bS 1 CF (ah (af 0) aK))) (cK (gj [none] (dM #[16]) (g8 0) m9 (fP (ah (af 0) aK)))) b_) (aX (b6 2 (kO (ah (fP aK) aK))) (aX (i' (dM #[16]) (g8 3) (b6 2 (e2 e7 (af 2) (gj [none,some 3] (dz (af 2)) (g8 0) m9 (e2 e7 (af 0) (fP #[16])))))) (cK (af 2)))))
def Aj:List W->List al->R W:=dZ 4 M3
theorem Ph(F:j9 K "choices_of" "choices_of" Ht f fd)(B:Bl mg)(Fl:cG P w K mg base 1 "is_small" 1 CF):eY P w K mg base (kP P w) 2 f fd MF (md K mg 2 Aj):=
 cS (k:=1) F yt rfl fun gJ A outer s H E hr=>(aB (bW (gp (bA Fl hr #[0] (aa (ae 0) aw))) (aL (bh (kQ (nm:=["place"]) (cap:=[none]) (by first|rfl|kernel_rfl) rfl (fR B.range #[23]) (fun _ _ _ _ _=>(sC 0)) (fun _ _ _ _ _=>jN) (fun _ _ _ _ _=>(eU (aa (ae 0) aw)))))) bN) (aB (sS 2 yt (jU (aa (eU aw) aw))) (aB (fI (fR B.range #[23]) (sG 3 yt) (aL (sS 2 yt (bV fG (ae 2) (kQ (nm:=["chosen","place"]) (cap:=[none,some 3]) (by first|rfl|kernel_rfl) rfl (gs (ae 2)) (fun _ _ _ _ _=>(sC 0)) (fun _ _ _ _ _=>jN) (fun _ _ _ _ _=>(bV fG (ae 0) (eU #[23])))))))) (aL (bh (ae 2))))))
def Tu:FS:=(cK (qG (iB (af 1)) (e2 (mR false) (af 2) (e2 bH (e2 bH (af 0) (af 1)) (eI 1)))))
def nP:List W->List al->R W:=dZ 3 Tu
theorem Pi(F:j9 K "bears" "bears" Hu f fd)  :eY P w K mg base (kP P w) 1 f fd MG (md K mg 3 nP):=
 cS (k:=0) F O9 rfl fun gJ A outer s H E hr=>(aL (bh (rL (GB (ae 1)) (nI (ki (sO hr) (ae 2) (bw (bw (ae 0) (ae 1)) aD))))))
def M4:FS:=(aX (b6 4 (gj [none] (dz (af 0)) (g8 0) m9 (eC (.bl false)))) (aX (i' (ve (ah (e2 wc (cr eW (ah (af 0) aK)) (eI 1)) (ah (oK (eI 1)) (ah (oK (eI 1)) aK)))) (g8 5) (aX (b6 6 (bS 2 Ip (ah (af 1) (ah (af 5) aK)))) (p8 (af 4) (af 5) (qG (iB (af 6)) (J_ (e2 bH (af 4) (af 6)) (bS 3 nP (ah (af 0) (ah (af 6) (ah (af 3) aK)))))) lI))) (cK (cr ye (ah (gj [none,some 4] (dz (bS 2 tY (ah (af 0) (ah (af 2) aK)))) (g8 0) m9 (e2 bH (af 1) (af 0))) aK)))))
def Ak:List W->List al->R W:=dZ 7 M4
theorem Pj(F:j9 K "all_below" "all_below" Hv f fd)(B:Bl mg)(vP:cG P w K mg base 1 "bears" 3 nP)(xI:cG P w K mg base 1 "borne_by" 2 tY)(Qs:cG P w K mg base 1 "up_from" 2 Ip):eY P w K mg base (kP P w) 2 f fd MH (md K mg 4 Ak):=
 cS (k:=1) F yu rfl fun gJ A outer s H E hr=>(aB (sS 4 yu (kQ (nm:=["place"]) (cap:=[none]) (by first|rfl|kernel_rfl) rfl (gs (ae 0)) (fun _ _ _ _ _=>(sC 0)) (fun _ _ _ _ _=>jN) (fun _ _ _ _ _=>qD))) (aB (fI (Ld B.range (aa (bV wM (cy fH B.len cL (aa (ae 0) aw)) aD) (aa (qh aD) (aa (qh aD) aw)))) (sG 5 yu) (aB (sS 6 yu (bA Qs hr #[0] (aa (ae 1) (aa (ae 5) aw)))) (aL (ma qJ (rL (GB (ae 6)) (nI (K1 (bw (ae 4) (ae 6)) (nI (bA vP hr #[0] (aa (ae 0) (aa (ae 6) (aa (ae 3) aw)))))))) (ae 4) (ae 5))))) (aL (bh (cy GQ B.all boot_all (aa (kQ (nm:=["number","below"]) (cap:=[none,some 4]) (by first|rfl|kernel_rfl) rfl (gs (bA xI hr #[0] (aa (ae 0) (aa (ae 2) aw)))) (fun _ _ _ _ _=>(sC 0)) (fun _ _ _ _ _=>jN) (fun _ _ _ _ _=>(bw (ae 1) (ae 0)))) aw))))))
def M5:FS:=(aX (b6 3 #[10]) (aX (b6 4 (bS 2 tY (ah (af 1) (ah #[15] aK)))) (aX (fD (da (e2 fQ (af 3) (eC (.str [111,110,101])))) (cK (e2 fQ (cr eW (ah (af 4) aK)) (eI 1))) b_) (aX (fD (da (e2 fQ (af 3) (eC (.str [105,110])))) (cK (cr ye (ah (gj [none,some 1,some 0] (dz (af 4)) (g8 0) m9 (bS 3 nP (ah (af 1) (ah (af 0) (ah (e2 bH (af 2) (eI 2)) aK))))) aK))) b_) (aX (fD (da (e2 fQ (af 3) (eC (.str [98,101,108,111,119])))) (cK (bS 4 Ak (ah (af 1) (ah (af 2) (ah #[15] (ah #[20] aK)))))) b_) (aX (b6 5 (J' (da (e2 fQ (af 3) (eC (.str [108,101,102,116])))) (e2 bH (af 2) (eI 0)) (e2 bH (af 2) (eI 1)))) (cK (cr ye (ah (gj [none,some 1,some 5,some 0] (dz (af 4)) (g8 0) m9 (bS 3 nP (ah (af 1) (ah (e2 bH (af 2) (af 0)) (ah (e2 bH (af 3) (eI 2)) aK))))) aK)))))))))
def Al:List W->List al->R W:=dZ 6 M5
theorem Pk(F:j9 K "plain_true" "plain_true" Hw f fd)(B:Bl mg)(JX:cG P w K mg base 2 "all_below" 4 Ak)(vP:cG P w K mg base 1 "bears" 3 nP)(xI:cG P w K mg base 1 "borne_by" 2 tY):eY P w K mg base (kP P w) 3 f fd MI (md K mg 3 Al):=
 cS (k:=2) F yw rfl fun gJ A outer s H E hr=>(aB (sS 3 yw #[7]) (aB (sS 4 yw (bA xI hr #[0] (aa (ae 1) (aa #[7] aw)))) (aB (bW (bv (eV hr) (ae 3) cw) (aL (bh (ki (eV hr) (cy fH B.len cL (aa (ae 4) aw)) aD))) bN) (aB (bW (bv (eV hr) (ae 3) cw) (aL (bh (cy GQ B.all boot_all (aa (kQ (nm:=["number","tree","statement"]) (cap:=[none,some 1,some 0]) (by first|rfl|kernel_rfl) rfl (gs (ae 4)) (fun _ _ _ _ _=>(sC 0)) (fun _ _ _ _ _=>jN) (fun _ _ _ _ _=>(bA vP hr #[0] (aa (ae 1) (aa (ae 0) (aa (bw (ae 2) aD) aw)))))) aw)))) bN) (aB (bW (bv (eV hr) (ae 3) cw) (aL (bh (bA JX hr #[0] (aa (ae 1) (aa (ae 2) (aa #[7] (aa #[7] aw))))))) bN) (aB (sS 5 yw (Gz (bv (eV hr) (ae 3) cw) (bw (ae 2) aD) (bw (ae 2) aD))) (aL (bh (cy GQ B.all boot_all (aa (kQ (nm:=["number","tree","side","statement"]) (cap:=[none,some 1,some 5,some 0]) (by first|rfl|kernel_rfl) rfl (gs (ae 4)) (fun _ _ _ _ _=>(sC 0)) (fun _ _ _ _ _=>jN) (fun _ _ _ _ _=>(bA vP hr #[0] (aa (ae 1) (aa (bw (ae 2) (ae 0)) (aa (bw (ae 3) aD) aw)))))) aw))))))))))
def M6(NA:List W->List al->R W)(vQ:List W->List al->R W):FS:=(aX (b6 3 (e2 fQ #[10] (eC (.str [115,111,109,101])))) (aX (i' (dz (bS 2 Aj (ah #[15] (ah (cr eW #[16]) aK)))) (g8 4) (fD (da (e2 fQ (bS 3 vQ (ah #[20] (ah (bS 3 w4 (ah (af 1) (ah #[15] (ah (af 4) aK)))) (ah (af 2) aK)))) (af 3))) (cK (af 3)) b_)) (cK (zD (af 3)))))
def w6(NA:List W->List al->R W)(vQ:List W->List al->R W):FS:=(aX (b6 3 #[10]) (aX (fD (da (bS 1 CG (ah (af 0) aK))) (cK (bS 3 Al (ah (af 0) (ah (af 1) (ah (af 2) aK))))) b_) (aX (fD (da (e2 fQ (af 3) (eC (.str [110,111,116])))) (cK (zD (bS 3 vQ (ah #[15] (ah (af 1) (ah (af 2) aK)))))) b_) (aX (fD (da (e2 fQ (af 3) (eC (.str [97,110,100])))) (cK (qG (bS 3 vQ (ah #[15] (ah (af 1) (ah (af 2) aK)))) (bS 3 vQ (ah #[20] (ah (af 1) (ah (af 2) aK)))))) b_) (aX (fD (da (e2 fQ (af 3) (eC (.str [111,114])))) (cK (J_ (bS 3 vQ (ah #[15] (ah (af 1) (ah (af 2) aK)))) (bS 3 vQ (ah #[20] (ah (af 1) (ah (af 2) aK)))))) b_) (cK (bS 3 NA (ah (af 0) (ah (af 1) (ah (af 2) aK))))))))))
def de:Nat->(List W->List al->R W)×(List W->List al->R W)
 |0=>(fun _ _=>.bad,fun _ _=>.bad)
 |k+1=>(dZ 5 (M6 (de k).1 (de k).2),dZ 4 (w6 (de k).1 (de k).2))
def tZ(k:Nat):List W->List al->R W:=(de k).1
def oV(k:Nat):List W->List al->R W:=(de k).2
theorem iE{J3:Addr}{QP:FuncData}(xD:j9 K "bound_true" "bound_true" Hy J3 QP)(Bi:mg "bound_true"=some (.ref J3)){J5:Addr}{QV:FuncData}(xA:j9 K "goes_true" "goes_true" HA J5 QV)(Be:mg "goes_true"=some (.ref J5))(B:Bl mg)(El:cG P w K mg base 2 "choices_of" 2 Aj)(Em:cG P w K mg base 2 "dressed_in" 3 w4)(Bn:cG P w K mg base 1 "is_plain" 1 CG)(Er:cG P w K mg base 3 "plain_true" 3 Al):∀k:Nat,cG P w K mg base (3+k) "bound_true" 3 (tZ k)/\cG P w K mg base (3+k) "goes_true" 3 (oV k)
 |0=>⟨jX (ps:=Hz) xD Bi rfl (fun _ _ _ _ _ _ us hl=>match us,hl with|[_,_,_],_=>rfl),jX (ps:=HB) xA Be rfl (fun _ _ _ _ _ _ us hl=>match us,hl with|[_,_,_],_=>rfl)⟩
 |k+1=>by
  obtain⟨h_q18,qv⟩:=iE xD Bi xA Be B El Em Bn Er k
  exact⟨jM (ps:=Hz) xD Bi rfl (fun _ _ _ _ _ _ us hl=>match us,hl with|[_,_,_],_=>rfl) (cS (k:=3+k) xD Cz rfl fun gJ A outer s H E hr=>(aB (sS 3 Cz (ki (eV hr) #[7] cw)) (aB (fI (gs (bA El hr #[0] (aa #[7] (aa (cy fH B.len cL #[23]) aw)))) (sG 4 Cz) (aL (bW (bv (eV hr) (bA qv hr #[0] (aa #[7] (aa (bA Em hr #[0] (aa (ae 1) (aa #[7] (aa (ae 4) aw)))) (aa (ae 2) aw)))) (ae 3)) (aL (bh (ae 3))) bN))) (aL (bh (zE (ae 3))))))),jM (ps:=HB) xA Be rfl (fun _ _ _ _ _ _ us hl=>match us,hl with|[_,_,_],_=>rfl) (cS (k:=3+k) xA HC rfl fun gJ A outer s H E hr=>(aB (sS 3 HC #[7]) (aB (bW (gp (bA Bn hr #[0] (aa (ae 0) aw))) (aL (bh (bA Er hr #[0] (aa (ae 0) (aa (ae 1) (aa (ae 2) aw)))))) bN) (aB (bW (bv (eV hr) (ae 3) cw) (aL (bh (zE (bA qv hr #[0] (aa #[7] (aa (ae 1) (aa (ae 2) aw))))))) bN) (aB (bW (bv (eV hr) (ae 3) cw) (aL (bh (rL (bA qv hr #[0] (aa #[7] (aa (ae 1) (aa (ae 2) aw)))) (nI (bA qv hr #[0] (aa #[7] (aa (ae 1) (aa (ae 2) aw)))))))) bN) (aB (bW (bv (eV hr) (ae 3) cw) (aL (bh (K1 (bA qv hr #[0] (aa #[7] (aa (ae 1) (aa (ae 2) aw)))) (nI (bA qv hr #[0] (aa #[7] (aa (ae 1) (aa (ae 2) aw)))))))) bN) (aL (bh (bA h_q18 hr #[0] (aa (ae 0) (aa (ae 1) (aa (ae 2) aw))))))))))))⟩
def Ir:FS:=(aX (fD (da (e2 GF (bS 2 (qo 40) (ah (af 0) (ah (cr eW #[16]) aK))) (eC tX))) (yf "TooGreat") b_) (cK (bS 3 (oV 40) (ah (af 0) (ah (af 1) (ah (bS 1 Io #[16]) aK))))))
def w9:List W->List al->R W:=dZ 2 Ir
theorem Pm(F:j9 K "holds" "holds" HD f fd)(B:Bl mg)(G:Gc K mg)(C:Mj K mg)(qv:cG P w K mg base 43 "goes_true" 3 (oV 40))(Qy:cG P w K mg base 3 "ups_of" 1 Io)(t5:cG P w K mg base 42 "ways_of" 2 (qo 40)):eY P w K mg base (kP P w) 44 f fd MJ (md K mg 2 w9):=
 cS (k:=43) F O_ rfl fun gJ A outer s H E hr=>(aB (bW (bv yb (bA t5 hr #[0] (aa (ae 0) (aa (cy fH B.len cL #[23]) aw))) (Oy G.MOST_WAYS)) (aL (zP C.TooGreat)) bN) (aL (bh (bA qv hr #[0] (aa (ae 0) (aa (ae 1) (aa (bA Qy hr #[0] #[23]) aw)))))))
def Tw:FS:=(aX (fD (da (e2 fQ (cr eW (ah (af 0) aK)) (eI 0))) (cK (eI 0)) b_) (cK (e2 bH (af 0) (e2 iC (af 1) (cr eW (ah (af 0) aK))))))
def r9:List W->List al->R W:=dZ 2 Tw
theorem Pn(F:j9 K "_law_cell" "_law_cell" HE f fd)(B:Bl mg) :eY P w K mg base (kP P w) 1 f fd MK (md K mg 2 r9):=
 cS (k:=0) F O' rfl fun gJ A outer s H E hr=>(aB (bW (bv (eV hr) (cy fH B.len cL (aa (ae 0) aw)) aD) (aL (bh aD)) bN) (aL (bh (bw (ae 0) (bV gI (ae 1) (cy fH B.len cL (aa (ae 0) aw)))))))
def Tx:FS:=(aX (b6 3 (e2 iC (e2 je (e2 e7 (e2 e7 (e2 e7 (af 0) (e2 je (e2 je (eI 7) (af 1)) (af 1))) (e2 je (eI 13) (af 1))) (af 2)) (eI 69621)) (eI 2147483647))) (cK (e2 iC (e2 je (e2 iC (e2 e7 (e2 e7 (e2 je (af 3) (e2 e7 (e2 mB (af 3) (eI 1009)) (eI 3))) (e2 je (eI 31) (af 1))) (af 2)) (eI 2147483629)) (eI 48271)) (eI 1000000007))))
def w_:List W->List al->R W:=dZ 4 Tx
theorem Po(F:j9 K "_law_mixed" "_law_mixed" HF f fd)  :eY P w K mg base (kP P w) 1 f fd ML (md K mg 3 w_):=
 cS (k:=0) F HG rfl fun gJ A outer s H E hr=>(aB (sS 3 HG (bV gI (bV jf (bV fG (bV fG (bV fG (ae 0) (bV jf (bV jf aD (ae 1)) (ae 1))) (bV jf aD (ae 1))) (ae 2)) aD) aD)) (aL (bh (bV gI (bV jf (bV gI (bV fG (bV fG (bV jf (ae 3) (bV fG (bV l_ (ae 3) aD) aD)) (bV jf aD (ae 1))) (ae 2)) aD) aD) aD))))
def M7:FS:=(aX (b6 3 (kO aK)) (aX (b6 4 (eI 0)) (aX (fD (da (e2 Q1 (af 0) (e2 Sg (eI 10) (eI 18)))) (b6 4 (af 0)) b_) (aX (i' (dM #[16]) (g8 5) (fD (da (e2 GF (af 4) (eI 0))) (aX (eO (lJ bO (af 3) (ah (e2 iC (af 4) (eI 64)) aK))) (b6 4 (e2 mB (af 4) (eI 64)))) (eO (lJ bO (af 3) (ah (bS 3 w_ (ah (af 0) (ah (af 5) (ah (af 2) aK)))) aK))))) (cK (af 3))))))
def lP:List W->List al->R W:=dZ 6 M7
theorem Pp(F:j9 K "_law_draws" "_law_draws" HH f fd)(B:Bl mg)(JM:cG P w K mg base 1 "_law_mixed" 3 w_):eY P w K mg base (kP P w) 2 f fd MM (md K mg 3 lP):=
 cS (k:=1) F sV rfl fun gJ A outer s H E hr=>(aB (sS 3 sV (jU aw)) (aB (sS 4 sV aD) (aB (bW (bv K6 (ae 0) (bV Sj aD aD)) (aL (sS 4 sV (ae 0))) bN) (aB (fI (fR B.range #[23]) (sG 5 sV) (aL (bW (bv yb (ae 4) aD) (aB (eE (me PySem.F.slot_list_append PySem.F.type_list_append c7 (ae 3) (aa (bV gI (ae 4) aD) aw))) (aL (sS 4 sV (bV l_ (ae 4) aD)))) (aL (eE (me PySem.F.slot_list_append PySem.F.type_list_append c7 (ae 3) (aa (bA JM hr #[0] (aa (ae 0) (aa (ae 5) (aa (ae 2) aw)))) aw))))))) (aL (bh (ae 3)))))))
def M8:FS:=(aX (b6 3 (eC (.str [65,66,67,68,69,70,71,72,73,74,75,76,77,78,79,80,81,82,83,84,85,86,87,88,89,90,97,98,99,100,101,102,103,104,105,106,107,108,109,110,111,112,113,114,115,116,117,118,119,120,121,122]))) (aX (b6 4 (eC (.str []))) (aX (i' (dz (bS 3 lP (ah (af 0) (ah (af 1) (ah (af 2) aK))))) (g8 5) (aX (b6 6 (e2 iC (af 5) (cr eW (ah (af 3) aK)))) (aX (b6 4 (e2 e7 (af 4) (e2 bH (af 3) (af 6)))) (b6 3 (e2 e7 (Fz (af 3) oG (nK (af 6))) (Fz (af 3) (nK (e2 e7 (af 6) (eI 1))) oG)))))) (cK (af 4)))))
def xa:List W->List al->R W:=dZ 7 M8
theorem Pq(F:j9 K "_law_pool" "_law_pool" HI f fd)(B:Bl mg)(sj:cG P w K mg base 2 "_law_draws" 3 lP):eY P w K mg base (kP P w) 3 f fd MN (md K mg 3 xa):=
 cS (k:=2) F qQ rfl fun gJ A outer s H E hr=>(aB (sS 3 qQ cw) (aB (sS 4 qQ cw) (aB (fI (gs (bA sj hr #[0] (aa (ae 0) (aa (ae 1) (aa (ae 2) aw))))) (sG 5 qQ) (aB (sS 6 qQ (bV gI (ae 5) (cy fH B.len cL (aa (ae 3) aw)))) (aB (sS 4 qQ (bV fG (ae 4) (bw (ae 3) (ae 6)))) (aL (sS 3 qQ (bV fG (B9 (ae 3) m5 (m6 (ae 6))) (B9 (ae 3) (m6 (bV fG (ae 6) aD)) m5))))))) (aL (bh (ae 4))))))
def M9:FS:=(cK (BA kj (eC (.str [])) (ah (cr oM (ah (gj [none,some 0,some 1] (dM (ah (cr eW (ah (af 0) aK)) aK)) (g8 0) (da (e2 fQ (e2 oF (e2 zF (af 2) (af 0)) (eI 1)) (eI 1))) (e2 bH (af 1) (af 0))) aK)) aK)))
def Am:List W->List al->R W:=dZ 2 M9
theorem Ps(F:j9 K "_law_marks" "_law_marks" HJ f fd)(B:Bl mg) :eY P w K mg base (kP P w) 1 f fd MO (md K mg 2 Am):=
 cS (k:=0) F Pa rfl fun gJ A outer s H E hr=>(aL (bh (we PySem.F.slot_str_join PySem.F.type_str_join lK cw (aa (cy DC B.sorted boot_sorted (aa (kQ (nm:=["_law_k","_law_pool_here","_law_number"]) (cap:=[none,some 0,some 1]) (by first|rfl|kernel_rfl) rfl (fR B.range (aa (cy fH B.len cL (aa (ae 0) aw)) aw)) (fun _ _ _ _ _=>(sC 0)) (fun _ _ _ _ _=>(uu (bv (eV hr) (bV ya (bV Mq (ae 2) (ae 0)) aD) aD))) (fun _ _ _ _ _=>(bw (ae 1) (ae 0)))) aw)) aw))))
def M_:FS:=(aX (b6 3 (kO aK)) (aX (b6 4 (eI 0)) (aX (i' (dz (af 0)) (g8 5) (aX (b6 6 (e2 iC (af 5) (eI 4))) (aX (fD (da (e2 GF (e2 mB (e2 e7 (af 6) (eI 1)) (eI 2)) (af 4))) (b6 6 (eI 0)) b_) (fD (da (e2 Cb (e2 wc (e2 e7 (e2 e7 (cr eW (ah (af 3) aK)) (af 4)) (eI 1)) (e2 mB (e2 e7 (af 6) (eI 1)) (eI 2))) (af 2))) (aX (eO (lJ bO (af 3) (ah (fP (ah (af 6) (ah (bS 2 Am (ah (af 1) (ah (e2 iC (e2 mB (af 5) (eI 4)) (eI 16)) aK))) aK))) aK))) (b6 4 (e2 wc (e2 e7 (af 4) (eI 1)) (e2 mB (e2 e7 (af 6) (eI 1)) (eI 2))))) b_)))) (aX (oH (da (e2 GF (af 4) (eI 1))) (aX (eO (lJ bO (af 3) (ah (fP (ah (eI 3) (ah (e2 bH (e2 bH (af 3) (e2 wc (af 4) (eI 1))) (eI 1)) aK))) aK))) (b6 4 (e2 wc (af 4) (eI 1))))) (cK (cr jC (ah (af 3) aK)))))))
def An:List W->List al->R W:=dZ 7 M_
theorem Pt(F:j9 K "_law_wood" "_law_wood" HK f fd)(B:Bl mg)(Jx:cG P w K mg base 1 "_law_marks" 2 Am):eY P w K mg base (kP P w) 2 f fd MP (md K mg 3 An):=
 cS (k:=1) F oR rfl fun gJ A outer s H E hr=>(aB (sS 3 oR (jU aw)) (aB (sS 4 oR aD) (aB (fI (gs (ae 0)) (sG 5 oR) (aB (sS 6 oR (bV gI (ae 5) aD)) (aB (bW (bv yb (bV l_ (bV fG (ae 6) aD) aD) (ae 4)) (aL (sS 6 oR aD)) bN) (aL (bW (bv GO (bV wM (bV fG (bV fG (cy fH B.len cL (aa (ae 3) aw)) (ae 4)) aD) (bV l_ (bV fG (ae 6) aD) aD)) (ae 2)) (aB (eE (me PySem.F.slot_list_append PySem.F.type_list_append c7 (ae 3) (aa (eU (aa (ae 6) (aa (bA Jx hr #[0] (aa (ae 1) (aa (bV gI (bV l_ (ae 5) aD) aD) aw))) aw))) aw))) (aL (sS 4 oR (bV wM (bV fG (ae 4) aD) (bV l_ (bV fG (ae 6) aD) aD))))) bN))))) (aB (zK (bv yb (ae 4) aD) (aB (eE (me PySem.F.slot_list_append PySem.F.type_list_append c7 (ae 3) (aa (eU (aa aD (aa (bw (bw (ae 3) (bV wM (ae 4) aD)) aD) aw))) aw))) (aL (sS 4 oR (bV wM (ae 4) aD))))) (aL (bh (jV m7 B.tuple gi (aa (ae 3) aw))))))))
def M':FS:=(aX (b6 2 (kO (GC [[105,110],[111,110,101],[108,101,102,116],[114,105,103,104,116],[98,101,108,111,119],[110,111,116],[115,111,109,101],[97,108,108],[97,110,100],[111,114]]))) (aX (b6 3 (kO aK)) (aX (i' (dM (ah (e2 mB (cr eW (ah (af 0) aK)) (eI 2)) aK)) (g8 4) (aX (b6 5 (e2 bH (af 2) (e2 iC (e2 bH (af 0) (e2 je (eI 2) (af 4))) (eI 10)))) (aX (b6 6 (e2 bH (af 1) (e2 iC (e2 bH (af 0) (e2 e7 (e2 je (eI 2) (af 4)) (eI 1))) (cr eW #[16])))) (aX (b6 7 (e2 bH (af 1) (e2 iC (e2 mB (e2 bH (af 0) (e2 e7 (e2 je (eI 2) (af 4)) (eI 1))) (eI 4)) (cr eW #[16])))) (fD (bnd (da (e2 (mR false) (af 5) (fP (ah (eC (.str [97,110,100])) (ah (eC (.str [111,114])) aK))))) (da (e2 GF (cr eW (ah (af 3) aK)) (eI 1)))) (aX (b6 8 (lJ p9 (af 3) aK)) (p8 (af 3) (oK (eI 1)) (fP (ah (af 5) (ah (e2 bH (af 3) (oK (eI 1))) (ah (af 8) aK)))) lI)) (fD (bnd (da (e2 (mR false) (af 5) (fP (ah (eC (.str [115,111,109,101])) (ah (eC (.str [97,108,108])) aK))))) (da (e2 GF (cr eW (ah (af 3) aK)) (eI 0)))) (p8 (af 3) (oK (eI 1)) (fP (ah (af 5) (ah (af 6) (ah (e2 bH (af 3) (oK (eI 1))) aK)))) lI) (fD (bnd (da (e2 fQ (af 5) (eC (.str [110,111,116])))) (da (e2 GF (cr eW (ah (af 3) aK)) (eI 0)))) (p8 (af 3) (oK (eI 1)) (fP (ah (af 5) (ah (e2 bH (af 3) (oK (eI 1))) aK))) lI) (fD (da (e2 fQ (af 5) (eC (.str [111,110,101])))) (eO (lJ bO (af 3) (ah (fP (ah (af 5) (ah (af 6) aK))) aK))) (fD (da (e2 OB (e2 iC (e2 bH (af 0) (e2 je (eI 2) (af 4))) (eI 10)) (eI 5))) (eO (lJ bO (af 3) (ah (fP (ah (af 5) (ah (af 6) (ah (af 7) aK)))) aK))) (eO (lJ bO (af 3) (ah (fP (ah (e2 bH (af 2) (e2 bH (kO (ah (eI 0) (ah (eI 2) (ah (eI 3) (ah (eI 4) aK))))) (e2 iC (e2 mB (e2 bH (af 0) (e2 je (eI 2) (af 4))) (eI 10)) (eI 4)))) (ah (af 6) (ah (af 7) aK)))) aK)))))))))))) (aX (oH (da (e2 GF (cr eW (ah (af 3) aK)) (eI 1))) (aX (b6 8 (lJ p9 (af 3) aK)) (p8 (af 3) (oK (eI 1)) (fP (ah (e2 bH (af 2) (e2 e7 (eI 8) (e2 iC (cr eW (ah (af 3) aK)) (eI 2)))) (ah (e2 bH (af 3) (oK (eI 1))) (ah (af 8) aK)))) lI))) (cK (e2 bH (af 3) (eI 0)))))))
def Ao:List W->List al->R W:=dZ 9 M'
theorem Pu(F:j9 K "_law_said" "_law_said" HL f fd)(B:Bl mg) :eY P w K mg base (kP P w) 1 f fd MQ (md K mg 2 Ao):=
 cS (k:=0) F ni rfl fun gJ A outer s H E hr=>(aB (sS 2 ni (jU (K2 (.cons (.cons (.cons (.cons (.cons (.cons (.cons (.cons (.cons (.cons .nil))))))))))))) (aB (sS 3 ni (jU aw)) (aB (fI (fR B.range (aa (bV l_ (cy fH B.len cL (aa (ae 0) aw)) aD) aw)) (sG 4 ni) (aB (sS 5 ni (bw (ae 2) (bV gI (bw (ae 0) (bV jf aD (ae 4))) aD))) (aB (sS 6 ni (bw (ae 1) (bV gI (bw (ae 0) (bV fG (bV jf aD (ae 4)) aD)) (cy fH B.len cL #[23])))) (aB (sS 7 ni (bw (ae 1) (bV gI (bV l_ (bw (ae 0) (bV fG (bV jf aD (ae 4)) aD)) aD) (cy fH B.len cL #[23])))) (aL (bW (p6 (mX (bv (sO hr) (ae 5) (eU (aa cw (aa cw aw)))) (kw (bv yb (cy fH B.len cL (aa (ae 3) aw)) aD)))) (aB (sS 8 ni (tQ PySem.F.slot_list_pop PySem.F.type_list_pop oJ (ae 3))) (aL (ma qJ (eU (aa (ae 5) (aa (bw (ae 3) (qh aD)) (aa (ae 8) aw)))) (ae 3) (qh aD)))) (aL (bW (p6 (mX (bv (sO hr) (ae 5) (eU (aa cw (aa cw aw)))) (kw (bv yb (cy fH B.len cL (aa (ae 3) aw)) aD)))) (aL (ma qJ (eU (aa (ae 5) (aa (ae 6) (aa (bw (ae 3) (qh aD)) aw)))) (ae 3) (qh aD))) (aL (bW (p6 (mX (bv (eV hr) (ae 5) cw) (kw (bv yb (cy fH B.len cL (aa (ae 3) aw)) aD)))) (aL (ma qJ (eU (aa (ae 5) (aa (bw (ae 3) (qh aD)) aw))) (ae 3) (qh aD))) (aL (bW (bv (eV hr) (ae 5) cw) (aL (eE (me PySem.F.slot_list_append PySem.F.type_list_append c7 (ae 3) (aa (eU (aa (ae 5) (aa (ae 6) aw))) aw)))) (aL (bW (bv w_lt (bV gI (bw (ae 0) (bV jf aD (ae 4))) aD) aD) (aL (eE (me PySem.F.slot_list_append PySem.F.type_list_append c7 (ae 3) (aa (eU (aa (ae 5) (aa (ae 6) (aa (ae 7) aw)))) aw)))) (aL (eE (me PySem.F.slot_list_append PySem.F.type_list_append c7 (ae 3) (aa (eU (aa (bw (ae 2) (bw (jU (aa aD (aa aD (aa aD (aa aD aw))))) (bV gI (bV l_ (bw (ae 0) (bV jf aD (ae 4))) aD) aD))) (aa (ae 6) (aa (ae 7) aw)))) aw)))))))))))))))))) (aB (zK (bv yb (cy fH B.len cL (aa (ae 3) aw)) aD) (aB (sS 8 ni (tQ PySem.F.slot_list_pop PySem.F.type_list_pop oJ (ae 3))) (aL (ma qJ (eU (aa (bw (ae 2) (bV fG aD (bV gI (cy fH B.len cL (aa (ae 3) aw)) aD))) (aa (bw (ae 3) (qh aD)) (aa (ae 8) aw)))) (ae 3) (qh aD))))) (aL (bh (bw (ae 3) aD)))))))
def Na:FS:=(aX (b6 1 (kO aK)) (aX (b6 2 (kO aK)) (aX (i' (dM (ah (cr eW (ah (af 0) aK)) aK)) (g8 3) (aX (b6 4 (eC .non)) (aX (b6 5 (eC .non)) (aX (fD (da (e2 Q1 (e2 bH (e2 bH (af 0) (af 3)) (eI 0)) (eI 2))) (b6 5 (lJ p9 (af 1) aK)) b_) (aX (fD (da (e2 fQ (e2 iC (e2 bH (e2 bH (af 0) (af 3)) (eI 0)) (eI 2)) (eI 1))) (b6 4 (lJ p9 (af 1) aK)) b_) (aX (eO (lJ bO (af 2) (ah (fP (ah (af 4) (ah (af 5) aK))) aK))) (eO (lJ bO (af 1) (ah (af 3) aK))))))))) (cK (af 2)))))
def Ap:List W->List al->R W:=dZ 6 Na
theorem Pv(F:j9 K "_law_links" "_law_links" HM f fd)(B:Bl mg) :eY P w K mg base (kP P w) 1 f fd MR (md K mg 1 Ap):=
 cS (k:=0) F oS rfl fun gJ A outer s H E hr=>(aB (sS 1 oS (jU aw)) (aB (sS 2 oS (jU aw)) (aB (fI (fR B.range (aa (cy fH B.len cL (aa (ae 0) aw)) aw)) (sG 3 oS) (aB (sS 4 oS u5) (aB (sS 5 oS u5) (aB (bW (bv K6 (bw (bw (ae 0) (ae 3)) aD) aD) (aL (sS 5 oS (tQ PySem.F.slot_list_pop PySem.F.type_list_pop oJ (ae 1)))) bN) (aB (bW (bv (eV hr) (bV gI (bw (bw (ae 0) (ae 3)) aD) aD) aD) (aL (sS 4 oS (tQ PySem.F.slot_list_pop PySem.F.type_list_pop oJ (ae 1)))) bN) (aB (eE (me PySem.F.slot_list_append PySem.F.type_list_append c7 (ae 2) (aa (eU (aa (ae 4) (aa (ae 5) aw))) aw))) (aL (eE (me PySem.F.slot_list_append PySem.F.type_list_append c7 (ae 1) (aa (ae 3) aw)))))))))) (aL (bh (ae 2))))))
def xb(Bk:List W->List al->R W):FS:=(aX (fD (da (e2 fQ #[10] (eC (.str [110,111,116])))) (cK (bS 2 Bk (ah #[15] #[16]))) b_) (aX (fD (Bz (da (e2 fQ #[10] (eC (.str [97,110,100])))) (da (e2 fQ #[10] (eC (.str [111,114]))))) (cK (e2 e7 (bS 2 Bk (ah #[15] #[16])) (bS 2 Bk (ah #[20] #[16])))) b_) (aX (fD (Bz (da (e2 fQ #[10] (eC (.str [115,111,109,101])))) (da (e2 fQ #[10] (eC (.str [97,108,108]))))) (aX (fD (da (e2 (mR false) #[15] (eC (.str [97,98,99,100,101,102,103,104,105,106,107,108,109,110,111,112,113,114,115,116,117,118,119,120,121,122])))) (cK (e2 zU (cr E1 (ah (eI 1) #[16])) (bS 2 Bk (ah #[20] #[16])))) b_) (cK (e2 zU (e2 oE (eI 1) (af 1)) (bS 2 Bk (ah #[20] #[16]))))) b_) (cK (eI 1)))))
def qp:Nat->List W->List al->R W
 |0=>fun _ _=>.bad
 |k+1=>dZ 2 (xb (qp k))
theorem DL{JJ:Addr}{Qr:FuncData}(xJ:j9 K "_law_ways" "_law_ways" HN JJ Qr)(Bb:mg "_law_ways"=some (.ref JJ))(B:Bl mg) :∀k:Nat,cG P w K mg base (0+k) "_law_ways" 2 (qp k)
 |0=>jX (ps:=HP) xJ Bb rfl (fun _ _ _ _ _ _ us hl=>match us,hl with|[_,_],_=>rfl)
 |k+1=>by
  have sk:=DL xJ Bb B  k
  exact jM (ps:=HP) xJ Bb rfl (fun _ _ _ _ _ _ us hl=>match us,hl with|[_,_],_=>rfl) (cS (k:=0+k) xJ Pb rfl fun gJ A outer s H E hr=>(aB (bW (bv (eV hr) #[7] cw) (aL (bh (bA sk hr #[0] (aa #[7] #[23])))) bN) (aB (bW (p6 (u6 (bv (eV hr) #[7] cw) (qE (bv (eV hr) #[7] cw)))) (aL (bh (bV fG (bA sk hr #[0] (aa #[7] #[23])) (bA sk hr #[0] (aa #[7] #[23]))))) bN) (aB (bW (p6 (u6 (bv (eV hr) #[7] cw) (qE (bv (eV hr) #[7] cw)))) (aB (bW (bv (sO hr) #[7] cw) (aL (bh (bV Cm (cy Ms B.max boot_max (aa aD #[23])) (bA sk hr #[0] (aa #[7] #[23]))))) bN) (aL (bh (bV Cm (bV tO aD (ae 1)) (bA sk hr #[0] (aa #[7] #[23])))))) bN) (aL (bh aD))))))
def DM:FS:=(aX (b6 4 (na (af 3) #[15] (eI 0))) (aX (fD (da (e2 fQ #[10] (eC (.str [111,110,101])))) (cK (qG (e2 B8 (af 4) (eI 0)) (e2 fQ (e2 oF (af 4) (e2 wc (af 4) (eI 1))) (eI 0)))) b_) (aX (b6 5 (na (af 3) #[20] (eI 0))) (aX (b6 6 (af 5)) (aX (fD (da (e2 B8 #[10] (eC (.str [105,110])))) (aX (b6 6 (eI 0)) (i' (dM (ah (cr eW #[16]) aK)) (g8 7) (fD (da (e2 fQ (e2 oF (e2 zF (af 5) (af 7)) (eI 1)) (eI 1))) (fD (da (e2 fQ #[10] (eC (.str [98,101,108,111,119])))) (b6 6 (e2 p_ (af 6) (e2 bH (af 2) (af 7)))) (fD (bnd (da (e2 fQ #[10] (eC (.str [108,101,102,116])))) (da (iB (e2 bH (e2 bH (af 1) (af 7)) (eI 0))))) (b6 6 (e2 p_ (af 6) (e2 oE (eI 1) (e2 bH (e2 bH (af 1) (af 7)) (eI 0))))) (fD (bnd (da (e2 fQ #[10] (eC (.str [114,105,103,104,116])))) (da (iB (e2 bH (e2 bH (af 1) (af 7)) (eI 1))))) (b6 6 (e2 p_ (af 6) (e2 oE (eI 1) (e2 bH (e2 bH (af 1) (af 7)) (eI 1))))) b_))) b_))) b_) (cK (e2 fQ (e2 oF (af 4) (af 6)) (af 4))))))))
def t0:List W->List al->R W:=dZ 8 DM
theorem Pw(F:j9 K "_law_plain" "_law_plain" HS f fd)(B:Bl mg) :eY P w K mg base (kP P w) 1 f fd MS (md K mg 4 t0):=
 cS (k:=0) F nj rfl fun gJ A outer s H E hr=>(aB (sS 4 nj (yk hr (ae 3) #[7] aD)) (aB (bW (bv (eV hr) #[7] cw) (aL (bh (rL (ki (GJ hr) (ae 4) aD) (nI (ki (eV hr) (bV ya (ae 4) (bV wM (ae 4) aD)) aD))))) bN) (aB (sS 5 nj (yk hr (ae 3) #[7] aD)) (aB (sS 6 nj (ae 5)) (aB (bW (bv (GJ hr) #[7] cw) (aB (sS 6 nj aD) (aL (fI (fR B.range (aa (cy fH B.len cL #[23]) aw)) (sG 7 nj) (aL (bW (bv (eV hr) (bV ya (bV Mq (ae 5) (ae 7)) aD) aD) (aL (bW (bv (eV hr) #[7] cw) (aL (sS 6 nj (bV tU (ae 6) (bw (ae 2) (ae 7))))) (aL (bW (p6 (mX (bv (eV hr) #[7] cw) (kw (mY (bw (bw (ae 1) (ae 7)) aD))))) (aL (sS 6 nj (bV tU (ae 6) (bV tO aD (bw (bw (ae 1) (ae 7)) aD))))) (aL (bW (p6 (mX (bv (eV hr) #[7] cw) (kw (mY (bw (bw (ae 1) (ae 7)) aD))))) (aL (sS 6 nj (bV tU (ae 6) (bV tO aD (bw (bw (ae 1) (ae 7)) aD))))) bN)))))) bN))))) bN) (aL (bh (ki (eV hr) (bV ya (ae 4) (ae 6)) (ae 4)))))))))
def xc(xF:List W->List al->R W):FS:=(aX (b6 4 #[10]) (aX (fD (da (e2 fQ (af 4) (eC (.str [110,111,116])))) (cK (zD (bS 4 xF (ah #[15] (ah (af 1) (ah (af 2) (ah (af 3) aK))))))) b_) (aX (fD (da (e2 fQ (af 4) (eC (.str [97,110,100])))) (cK (qG (bS 4 xF (ah #[15] (ah (af 1) (ah (af 2) (ah (af 3) aK))))) (bS 4 xF (ah #[20] (ah (af 1) (ah (af 2) (ah (af 3) aK))))))) b_) (aX (fD (da (e2 fQ (af 4) (eC (.str [111,114])))) (cK (J_ (bS 4 xF (ah #[15] (ah (af 1) (ah (af 2) (ah (af 3) aK))))) (bS 4 xF (ah #[20] (ah (af 1) (ah (af 2) (ah (af 3) aK))))))) b_) (aX (fD (Bz (da (e2 fQ (af 4) (eC (.str [115,111,109,101])))) (da (e2 fQ (af 4) (eC (.str [97,108,108]))))) (aX (fD (da (e2 (mR false) #[15] (eC (.str [97,98,99,100,101,102,103,104,105,106,107,108,109,110,111,112,113,114,115,116,117,118,119,120,121,122])))) (E2 (gj [none] (dM (ah (cr eW #[16]) aK)) (g8 0) m9 (e2 oE (eI 1) (af 0))) (g8 5)) (b6 5 (cr vi (ah (e2 oE (eI 1) (cr eW #[16])) aK)))) (aX (i' (dz (af 5)) (g8 6) (aX (b6 7 (cr qN (ah (af 3) aK))) (aX (p8 (af 7) #[15] (af 6) mD) (fD (da (e2 B8 (bS 4 xF (ah #[20] (ah (af 1) (ah (af 2) (ah (af 7) aK))))) (e2 fQ (af 4) (eC (.str [97,108,108]))))) (cK (e2 fQ (af 4) (eC (.str [115,111,109,101])))) b_)))) (cK (e2 fQ (af 4) (eC (.str [97,108,108])))))) b_) (cK (bS 4 t0 (ah (af 0) (ah (af 1) (ah (af 2) (ah (af 3) aK)))))))))))
def mE:Nat->List W->List al->R W
 |0=>fun _ _=>.bad
 |k+1=>dZ 8 (xc (mE k))
theorem DN{JH:Addr}{QZ:FuncData}(xz:j9 K "_law_true" "_law_true" HQ JH QZ)(Bq:mg "_law_true"=some (.ref JH))(B:Bl mg)(Et:cG P w K mg base 1 "_law_plain" 4 t0):∀k:Nat,cG P w K mg base (1+k) "_law_true" 4 (mE k)
 |0=>jX (ps:=HR) xz Bq rfl (fun _ _ _ _ _ _ us hl=>match us,hl with|[_,_,_,_],_=>rfl)
 |k+1=>by
  have qt:=DN xz Bq B Et k
  exact jM (ps:=HR) xz Bq rfl (fun _ _ _ _ _ _ us hl=>match us,hl with|[_,_,_,_],_=>rfl) (cS (k:=1+k) xz sW rfl fun gJ A outer s H E hr=>(aB (sS 4 sW #[7]) (aB (bW (bv (eV hr) (ae 4) cw) (aL (bh (zE (bA qt hr #[0] (aa #[7] (aa (ae 1) (aa (ae 2) (aa (ae 3) aw)))))))) bN) (aB (bW (bv (eV hr) (ae 4) cw) (aL (bh (rL (bA qt hr #[0] (aa #[7] (aa (ae 1) (aa (ae 2) (aa (ae 3) aw))))) (nI (bA qt hr #[0] (aa #[7] (aa (ae 1) (aa (ae 2) (aa (ae 3) aw))))))))) bN) (aB (bW (bv (eV hr) (ae 4) cw) (aL (bh (K1 (bA qt hr #[0] (aa #[7] (aa (ae 1) (aa (ae 2) (aa (ae 3) aw))))) (nI (bA qt hr #[0] (aa #[7] (aa (ae 1) (aa (ae 2) (aa (ae 3) aw))))))))) bN) (aB (bW (p6 (u6 (bv (eV hr) (ae 4) cw) (qE (bv (eV hr) (ae 4) cw)))) (aB (bW (bv (sO hr) #[7] cw) (aL (qK (sG 5 sW) (m:=0) (nm:=["_law_k"]) (cap:=[none]) (by first|rfl|kernel_rfl) rfl (fR B.range (aa (cy fH B.len cL #[23]) aw)) (fun _ _ _ _ _=>(sC 0)) (fun _ _ _ _ _=>jN) (fun _ _ _ _ _=>(bV tO aD (ae 0))))) (aL (sS 5 sW (Li hr B.list B.range (aa (bV tO aD (cy fH B.len cL #[23])) aw))))) (aB (fI (gs (ae 5)) (sG 6 sW) (aB (sS 7 sW (jV Ll B.dict E_ (aa (ae 3) aw))) (aB (ma (Cg hr) (ae 6) (ae 7) #[7]) (aL (bW (bv (GJ hr) (bA qt hr #[0] (aa #[7] (aa (ae 1) (aa (ae 2) (aa (ae 7) aw))))) (ki (eV hr) (ae 4) cw)) (aL (bh (ki (eV hr) (ae 4) cw))) bN))))) (aL (bh (ki (eV hr) (ae 4) cw))))) bN) (aL (bh (bA Et hr #[0] (aa (ae 0) (aa (ae 1) (aa (ae 2) (aa (ae 3) aw)))))))))))))
def Nb:FS:=(aX (b6 1 (kO aK)) (aX (i' (dz (af 0)) (Ka 2 (g9 (g8 2) (g9 (g8 3) rO))) (aX (b6 4 (eI 0)) (aX (fD (da (iB (af 2))) (b6 4 (e2 p_ (e2 p_ (af 4) (e2 bH (af 1) (af 2))) (e2 oE (eI 1) (af 2)))) b_) (aX (fD (da (iB (af 3))) (b6 4 (e2 p_ (e2 p_ (af 4) (e2 bH (af 1) (af 3))) (e2 oE (eI 1) (af 3)))) b_) (eO (lJ bO (af 1) (ah (af 4) aK))))))) (cK (af 1))))
def Aq:List W->List al->R W:=dZ 5 Nb
theorem Px(F:j9 K "_law_under" "_law_under" HU f fd)  :eY P w K mg base (kP P w) 1 f fd MU (md K mg 1 Aq):=
 cS (k:=0) F qR rfl fun gJ A outer s H E hr=>(aB (sS 1 qR (jU aw)) (aB (fI (gs (ae 0)) (qI rfl (fU (sG 2 qR) (fU (sG 3 qR) m8))) (aB (sS 4 qR aD) (aB (bW (mY (ae 2)) (aL (sS 4 qR (bV tU (bV tU (ae 4) (bw (ae 1) (ae 2))) (bV tO aD (ae 2))))) bN) (aB (bW (mY (ae 3)) (aL (sS 4 qR (bV tU (bV tU (ae 4) (bw (ae 1) (ae 3))) (bV tO aD (ae 3))))) bN) (aL (eE (me PySem.F.slot_list_append PySem.F.type_list_append c7 (ae 1) (aa (ae 4) aw)))))))) (aL (bh (ae 1)))))
def Nc:FS:=(aX (b6 1 G5) (aX (i' (dM (ah (cr eW (ah (af 0) aK)) aK)) (g8 2) (i' (dz (e2 bH (e2 bH (af 0) (af 2)) (eI 1))) (g8 3) (p8 (af 1) (af 3) (e2 p_ (na (af 1) (af 3) (eI 0)) (e2 oE (eI 1) (af 2))) mD))) (cK (af 1))))
def Ar:List W->List al->R W:=dZ 4 Nc
theorem Py(F:j9 K "_law_worn" "_law_worn" HV f fd)(B:Bl mg) :eY P w K mg base (kP P w) 1 f fd MV (md K mg 1 Ar):=
 cS (k:=0) F yE rfl fun gJ A outer s H E hr=>(aB (sS 1 yE G6) (aB (fI (fR B.range (aa (cy fH B.len cL (aa (ae 0) aw)) aw)) (sG 2 yE) (aL (fI (gs (bw (bw (ae 0) (ae 2)) aD)) (sG 3 yE) (aL (ma (Cg hr) (bV tU (yk hr (ae 1) (ae 3) aD) (bV tO aD (ae 2))) (ae 1) (ae 3)))))) (aL (bh (ae 1)))))
def xf(Ep:List W->List al->R W):FS:=(aX (fD (da (e2 fQ #[10] (eC (.str [110,111,116])))) (cK (bS 1 Ep (ah #[15] aK))) b_) (aX (fD (Bz (da (e2 fQ #[10] (eC (.str [97,110,100])))) (da (e2 fQ #[10] (eC (.str [111,114]))))) (cK (BA kj (eC (.str [])) (ah (iD (e2 e7 (bS 1 Ep (ah #[15] aK)) (bS 1 Ep (ah #[20] aK)))) aK))) b_) (aX (fD (Bz (da (e2 fQ #[10] (eC (.str [115,111,109,101])))) (da (e2 fQ #[10] (eC (.str [97,108,108]))))) (cK (BA kj (eC (.str [])) (ah (gj [none,some 0] (dz (bS 1 Ep (ah #[20] aK))) (g8 0) (da (e2 B8 (af 0) (e2 bH (af 1) (eI 1)))) (af 0)) aK))) b_) (cK (BA kj (eC (.str [])) (ah (iD (Fz (af 0) (nK (eI 1)) oG)) aK))))))
def mF:Nat->List W->List al->R W
 |0=>fun _ _=>.bad
 |k+1=>dZ 1 (xf (mF k))
theorem DO{JS:Addr}{QD:FuncData}(xL:j9 K "_law_names" "_law_names" HW JS QD)(Bv:mg "_law_names"=some (.ref JS))(B:Bl mg) :∀k:Nat,cG P w K mg base (0+k) "_law_names" 1 (mF k)
 |0=>jX (ps:=HX) xL Bv rfl (fun _ _ _ _ _ _ us hl=>match us,hl with|[_],_=>rfl)
 |k+1=>by
  have t7:=DO xL Bv B  k
  exact jM (ps:=HX) xL Bv rfl (fun _ _ _ _ _ _ us hl=>match us,hl with|[_],_=>rfl) (cS (k:=0+k) xL Pc rfl fun gJ A outer s H E hr=>(aB (bW (bv (eV hr) #[7] cw) (aL (bh (bA t7 hr #[0] (aa #[7] aw)))) bN) (aB (bW (p6 (u6 (bv (eV hr) #[7] cw) (qE (bv (eV hr) #[7] cw)))) (aL (bh (we PySem.F.slot_str_join PySem.F.type_str_join lK cw (aa (pO B.sorted B.set (bV fG (bA t7 hr #[0] (aa #[7] aw)) (bA t7 hr #[0] (aa #[7] aw)))) aw)))) bN) (aB (bW (p6 (u6 (bv (eV hr) #[7] cw) (qE (bv (eV hr) #[7] cw)))) (aL (bh (we PySem.F.slot_str_join PySem.F.type_str_join lK cw (aa (kQ (nm:=["_law_name","_law_said_here"]) (cap:=[none,some 0]) (by first|rfl|kernel_rfl) rfl (gs (bA t7 hr #[0] (aa #[7] aw))) (fun _ _ _ _ _=>(sC 0)) (fun _ _ _ _ _=>(uu (bv (GJ hr) (ae 0) (bw (ae 1) aD)))) (fun _ _ _ _ _=>(ae 0))) aw)))) bN) (aL (bh (we PySem.F.slot_str_join PySem.F.type_str_join lK cw (aa (pO B.sorted B.set (B9 (ae 0) (m6 aD) m5)) aw))))))))
def Nd:FS:=(aX (b6 1 (kO aK)) (aX (i' (dz (af 0)) (Ka 2 (g9 (g8 2) (g9 (g8 3) rO))) (aX (b6 4 (fP aK)) (aX (b6 5 (fP aK)) (aX (fD (da (e2 Q1 (af 2) (eI 2))) (b6 5 (lJ p9 (af 1) aK)) b_) (aX (fD (da (e2 fQ (e2 iC (af 2) (eI 2)) (eI 1))) (b6 4 (lJ p9 (af 1) aK)) b_) (eO (lJ bO (af 1) (ah (e2 e7 (e2 e7 (af 5) (af 4)) (fP (ah (fP (ah (e2 bH (kO (ah (eI 0) (ah (eI 2) (ah (eI 1) (ah (eI 3) aK))))) (af 2)) (ah (af 3) aK))) aK))) aK)))))))) (aX (fD (da (e2 fQ (cr eW #[16]) (eI 0))) (cK (fP aK)) b_) (cK (e2 bH (af 1) (eI 0))))))
def As:List W->List al->R W:=dZ 6 Nd
theorem Pz(F:j9 K "_law_mirrored" "_law_mirrored" HY f fd)(B:Bl mg) :eY P w K mg base (kP P w) 1 f fd MW (md K mg 1 As):=
 cS (k:=0) F oT rfl fun gJ A outer s H E hr=>(aB (sS 1 oT (jU aw)) (aB (fI (gs (ae 0)) (qI rfl (fU (sG 2 oT) (fU (sG 3 oT) m8))) (aB (sS 4 oT (eU aw)) (aB (sS 5 oT (eU aw)) (aB (bW (bv K6 (ae 2) aD) (aL (sS 5 oT (tQ PySem.F.slot_list_pop PySem.F.type_list_pop oJ (ae 1)))) bN) (aB (bW (bv (eV hr) (bV gI (ae 2) aD) aD) (aL (sS 4 oT (tQ PySem.F.slot_list_pop PySem.F.type_list_pop oJ (ae 1)))) bN) (aL (eE (me PySem.F.slot_list_append PySem.F.type_list_append c7 (ae 1) (aa (bV fG (bV fG (ae 5) (ae 4)) (eU (aa (eU (aa (bw (jU (aa aD (aa aD (aa aD (aa aD aw))))) (ae 2)) (aa (ae 3) aw))) aw))) aw))))))))) (aB (bW (bv (eV hr) (cy fH B.len cL #[23]) aD) (aL (bh (eU aw))) bN) (aL (bh (bw (ae 1) aD))))))
def Nf:FS:=(aX (b6 2 (eC (.str [65,66,67,68,69,70,71,72,73,74,75,76,77,78,79,80,81,82,83,84,85,86,87,88,89,90]))) (aX (fD (da (e2 (mR false) (af 0) (af 2))) (cK (e2 bH (af 2) (e2 iC (e2 e7 (BA vh (af 2) (ah (af 0) aK)) (e2 bH (af 1) (eI 0))) (eI 26)))) b_) (aX (b6 3 (eC (.str [97,98,99,100,101,102,103,104,105,106,107,108,109,110,111,112,113,114,115,116,117,118,119,120,121,122]))) (cK (e2 bH (af 3) (e2 iC (e2 e7 (BA vh (af 3) (ah (af 0) aK)) (e2 bH (af 1) (eI 1))) (eI 26)))))))
def qr:List W->List al->R W:=dZ 4 Nf
theorem PB(F:j9 K "_law_letter_by" "_law_letter_by" HZ f fd)  :eY P w K mg base (kP P w) 1 f fd MX (md K mg 2 qr):=
 cS (k:=0) F CA rfl fun gJ A outer s H E hr=>(aB (sS 2 CA cw) (aB (bW (bv (sO hr) (ae 0) (ae 2)) (aL (bh (bw (ae 2) (bV gI (bV fG (we PySem.F.slot_str_find PySem.F.type_str_find DD (ae 2) (aa (ae 0) aw)) (bw (ae 1) aD)) aD)))) bN) (aB (sS 3 CA cw) (aL (bh (bw (ae 3) (bV gI (bV fG (we PySem.F.slot_str_find PySem.F.type_str_find DD (ae 3) (aa (ae 0) aw)) (bw (ae 1) aD)) aD)))))))
def Ng(Uj:List W->List al->R W):FS:=(aX (b6 3 (kO aK)) (aX (i' (dz (af 0)) (g8 4) (fD (da (rR "tuple" (af 4))) (eO (lJ bO (af 3) (ah (bS 3 Uj (ah (af 4) (ah (af 1) (ah (af 2) aK)))) aK))) (fD (da (e2 fQ (cr eW (ah (af 4) aK)) (eI 1))) (eO (lJ bO (af 3) (ah (bS 2 qr (ah (af 4) #[16])) aK))) (fD (bnd (da (af 2)) (da (e2 fQ (af 4) (eC (.str [108,101,102,116]))))) (eO (lJ bO (af 3) (ah (eC (.str [114,105,103,104,116])) aK))) (fD (bnd (da (af 2)) (da (e2 fQ (af 4) (eC (.str [114,105,103,104,116]))))) (eO (lJ bO (af 3) (ah (eC (.str [108,101,102,116])) aK))) (eO (lJ bO (af 3) (ah (af 4) aK)))))))) (cK (cr jC (ah (af 3) aK)))))
def lQ:Nat->List W->List al->R W
 |0=>fun _ _=>.bad
 |k+1=>dZ 5 (Ng (lQ k))
theorem DP{JK:Addr}{QJ:FuncData}(xC:j9 K "_law_said_by" "_law_said_by" H9 JK QJ)(Bd:mg "_law_said_by"=some (.ref JK))(B:Bl mg)(vU:cG P w K mg base 1 "_law_letter_by" 2 qr):∀k:Nat,cG P w K mg base (1+k) "_law_said_by" 3 (lQ k)
 |0=>jX (ps:=H_) xC Bd rfl (fun _ _ _ _ _ _ us hl=>match us,hl with|[_,_,_],_=>rfl)
 |k+1=>by
  have xK:=DP xC Bd B vU k
  exact jM (ps:=H_) xC Bd rfl (fun _ _ _ _ _ _ us hl=>match us,hl with|[_,_,_],_=>rfl) (cS (k:=1+k) xC CB rfl fun gJ A outer s H E hr=>(aB (sS 3 CB (jU aw)) (aB (fI (gs (ae 0)) (sG 4 CB) (aL (bW (gp (qi B.isinstance B.tuple gi (ae 4))) (aL (eE (me PySem.F.slot_list_append PySem.F.type_list_append c7 (ae 3) (aa (bA xK hr #[0] (aa (ae 4) (aa (ae 1) (aa (ae 2) aw)))) aw)))) (aL (bW (bv (eV hr) (cy fH B.len cL (aa (ae 4) aw)) aD) (aL (eE (me PySem.F.slot_list_append PySem.F.type_list_append c7 (ae 3) (aa (bA vU hr #[0] (aa (ae 4) #[23])) aw)))) (aL (bW (p6 (mX (gp (ae 2)) (kw (bv (eV hr) (ae 4) cw)))) (aL (eE (me PySem.F.slot_list_append PySem.F.type_list_append c7 (ae 3) (aa cw aw)))) (aL (bW (p6 (mX (gp (ae 2)) (kw (bv (eV hr) (ae 4) cw)))) (aL (eE (me PySem.F.slot_list_append PySem.F.type_list_append c7 (ae 3) (aa cw aw)))) (aL (eE (me PySem.F.slot_list_append PySem.F.type_list_append c7 (ae 3) (aa (ae 4) aw))))))))))))) (aL (bh (jV m7 B.tuple gi (aa (ae 3) aw)))))))
def Nh:FS:=(aX (b6 4 (kO aK)) (aX (i' (dM (ah (cr eW (ah (af 0) aK)) aK)) (g8 5) (aX (b6 6 (BA kj (eC (.str [])) (ah (gj [none,some 1] (dz (e2 bH (e2 bH (af 0) (af 5)) (eI 1))) (g8 0) (da (e2 (mR false) (af 0) (af 1))) (af 0)) aK))) (aX (fD (bnd (da (e2 fQ (e2 iC (e2 bH (af 3) (af 5)) (eI 2)) (eI 1))) (da (e2 (mR true) (e2 bH (af 2) (eI 0)) (af 1)))) (b6 6 (e2 e7 (af 6) (e2 bH (af 2) (eI 0)))) b_) (aX (fD (bnd (da (e2 fQ (e2 iC (e2 mB (e2 bH (af 3) (af 5)) (eI 2)) (eI 2)) (eI 1))) (da (e2 (mR true) (e2 bH (af 2) (eI 1)) (af 1)))) (b6 6 (e2 e7 (af 6) (e2 bH (af 2) (eI 1)))) b_) (eO (lJ bO (af 4) (ah (fP (ah (e2 bH (e2 bH (af 0) (af 5)) (eI 0)) (ah (BA kj (eC (.str [])) (ah (iD (af 6)) aK)) aK))) aK))))))) (cK (cr jC (ah (af 4) aK)))))
def Au:List W->List al->R W:=dZ 7 Nh
theorem PD(F:j9 K "_law_other_marks" "_law_other_marks" Ia f fd)(B:Bl mg) :eY P w K mg base (kP P w) 1 f fd MY (md K mg 4 Au):=
 cS (k:=0) F sY rfl fun gJ A outer s H E hr=>(aB (sS 4 sY (jU aw)) (aB (fI (fR B.range (aa (cy fH B.len cL (aa (ae 0) aw)) aw)) (sG 5 sY) (aB (sS 6 sY (we PySem.F.slot_str_join PySem.F.type_str_join lK cw (aa (kQ (nm:=["_law_letter","_law_names_here"]) (cap:=[none,some 1]) (by first|rfl|kernel_rfl) rfl (gs (bw (bw (ae 0) (ae 5)) aD)) (fun _ _ _ _ _=>(sC 0)) (fun _ _ _ _ _=>(uu (bv (sO hr) (ae 0) (ae 1)))) (fun _ _ _ _ _=>(ae 0))) aw))) (aB (bW (p6 (mX (bv (eV hr) (bV gI (bw (ae 3) (ae 5)) aD) aD) (kw (bv (Mr hr) (bw (ae 2) aD) (ae 1))))) (aL (sS 6 sY (bV fG (ae 6) (bw (ae 2) aD)))) bN) (aB (bW (p6 (mX (bv (eV hr) (bV gI (bV l_ (bw (ae 3) (ae 5)) aD) aD) aD) (kw (bv (Mr hr) (bw (ae 2) aD) (ae 1))))) (aL (sS 6 sY (bV fG (ae 6) (bw (ae 2) aD)))) bN) (aL (eE (me PySem.F.slot_list_append PySem.F.type_list_append c7 (ae 4) (aa (eU (aa (bw (bw (ae 0) (ae 5)) aD) (aa (we PySem.F.slot_str_join PySem.F.type_str_join lK cw (aa (pO B.sorted B.set (ae 6)) aw)) aw))) aw)))))))) (aL (bh (jV m7 B.tuple gi (aa (ae 4) aw))))))
def Iu:FS:=(aX (fD (da (e2 GF (bS 2 (qp 40) (ah (af 0) (ah (cr eW #[16]) aK))) (eI 4096))) (cK (fP (ah (eC (.str [114,101,102,117,115,101,100])) (ah (eC (.bl true)) (ah (eC (.bl true)) (ah (eC (.bl false)) aK)))))) b_) (aX (b6 2 (bS 1 Ap #[16])) (cK (bS 4 (mE 40) (ah (af 0) (ah (af 2) (ah (bS 1 Aq (ah (af 2) aK)) (ah (bS 1 Ar #[16]) aK))))))))
def vx:List W->List al->R W:=dZ 3 Iu
theorem PF(F:j9 K "_law_due" "_law_due" Ib f fd)(B:Bl mg)(Jz:cG P w K mg base 1 "_law_links" 1 Ap)(qt:cG P w K mg base 41 "_law_true" 4 (mE 40))(J7:cG P w K mg base 1 "_law_under" 1 Aq)(sk:cG P w K mg base 40 "_law_ways" 2 (qp 40))(JT:cG P w K mg base 1 "_law_worn" 1 Ar):eY P w K mg base (kP P w) 42 f fd MZ (md K mg 2 vx):=
 cS (k:=41) F Ic rfl fun gJ A outer s H E hr=>(aB (bW (bv yb (bA sk hr #[0] (aa (ae 0) (aa (cy fH B.len cL #[23]) aw))) aD) (aL (bh (eU (aa cw (aa qD (aa qD (aa qD aw))))))) bN) (aB (sS 2 Ic (bA Jz hr #[0] #[23])) (aL (bh (bA qt hr #[0] (aa (ae 0) (aa (ae 2) (aa (bA J7 hr #[0] (aa (ae 2) aw)) (aa (bA JT hr #[0] #[23]) aw)))))))))
def Iv:FS:=(aX (b6 2 (eC .non)) (aX (Ce (b6 2 (bS 2 w9 (ah (af 0) #[16]))) ql 3 (b6 2 (fP (ah (eC (.str [114,101,102,117,115,101,100])) (ah (yh g7 (af 3)) (ah (yh i7 (af 3)) (ah (yh wZ (af 3)) aK))))))) (cK (af 2))))
def kq:List W->List al->R W:=dZ 4 Iv
theorem PH(F:j9 K "_law_ask" "_law_ask" Ie f fd)(B:Bl mg)(C:Mj K mg)(JD:cG P w K mg base 44 "holds" 2 w9):eY P w K mg base (kP P w) 45 f fd M0 (md K mg 2 kq):=
 cS (k:=44) F vw rfl fun gJ A outer s H E hr=>(aB (sS 2 vw u5) (aB (OH (i:=3) C.catch_TrunkError vw.nd rfl (Or.inl rfl) (fun _ _=>(aL (sS 2 vw (bA JD hr #[0] (aa (ae 0) #[23]))))) (fun _=>(aL (sS 2 vw (eU (aa cw (aa (Sw B.isinstance B.ValueError Lu C.isi_ValueError (ae 3)) (aa (C.isi_TooGreat.elim fun _ h=>Sv B.isinstance h.1 h.2 (ae 3)) (aa (C.isi_t0.elim fun _ h=>h.elim fun _ h=>h.elim fun _ h=>h.elim fun _ h=>h.elim fun _ h=>h.elim fun _ h=>h.elim fun _ h=>h.elim fun _ h=>OK B.isinstance (.cons h.1 rfl #[1] (.cons h.2.1 rfl #[1] (.cons h.2.2.1 rfl #[1] (.cons h.2.2.2.1 rfl #[1] (.cons h.2.2.2.2.1 rfl #[1] (.cons h.2.2.2.2.2.1 rfl #[1] (.cons h.2.2.2.2.2.2.1 rfl #[1] (.cons h.2.2.2.2.2.2.2.1 rfl #[1] .nil)))))))) h.2.2.2.2.2.2.2.2 (ax rfl) (ae 3)) aw))))))))) (aL (bh (ae 2)))))
def DQ(Ub:List W->List al->R W):FS:=(aX (fD (da (rR "tuple" (af 1))) (aX (fD (Bz (Gy (da (rR "tuple" (af 0)))) (da (e2 B8 (cr eW (ah (af 0) aK)) (cr eW #[16])))) (cK (eC (.bl false))) b_) (aX (i' (dM (ah (cr eW #[16]) aK)) (g8 2) (fD (Gy (da (bS 2 Ub (ah (e2 bH (af 0) (af 2)) (ah (e2 bH (af 1) (af 2)) aK))))) (cK (eC (.bl false))) b_)) (cK (eC (.bl true))))) b_) (aX (fD (da (B4 (af 1))) (cK (B4 (af 0))) b_) (aX (fD (da (rR "bool" (af 1))) (cK (qG (rR "bool" (af 0)) (e2 fQ (af 0) (af 1)))) b_) (aX (fD (da (rR "int" (af 1))) (cK (qG (rR "int" (af 0)) (qG (zD (rR "bool" (af 0))) (e2 fQ (af 0) (af 1))))) b_) (cK (qG (rR "str" (af 0)) (e2 fQ (af 0) (af 1))))))))
def jv:Nat->List W->List al->R W
 |0=>fun _ _=>.bad
 |k+1=>dZ 3 (DQ (jv k))
theorem DR{JI:Addr}{QC:FuncData}(xB:j9 K "_law_same" "_law_same" Ig JI QC)(AT:mg "_law_same"=some (.ref JI))(B:Bl mg) :∀k:Nat,cG P w K mg base (0+k) "_law_same" 2 (jv k)
 |0=>jX (ps:=Ih) xB AT rfl (fun _ _ _ _ _ _ us hl=>match us,hl with|[_,_],_=>rfl)
 |k+1=>by
  have qu:=DR xB AT B  k
  exact jM (ps:=Ih) xB AT rfl (fun _ _ _ _ _ _ us hl=>match us,hl with|[_,_],_=>rfl) (cS (k:=0+k) xB Ii rfl fun gJ A outer s H E hr=>(aB (bW (gp (qi B.isinstance B.tuple gi (ae 1))) (aB (bW (p6 (u6 (qF (gp (qi B.isinstance B.tuple gi (ae 0)))) (qE (bv (GJ hr) (cy fH B.len cL (aa (ae 0) aw)) (cy fH B.len cL #[23]))))) (aL (bh qD)) bN) (aB (fI (fR B.range (aa (cy fH B.len cL #[23]) aw)) (sG 2 Ii) (aL (bW (qF (gp (bA qu hr #[0] (aa (bw (ae 0) (ae 2)) (aa (bw (ae 1) (ae 2)) aw))))) (aL (bh qD)) bN))) (aL (bh qD)))) bN) (aB (bW (Oz (ae 1)) (aL (bh (Se (ae 0)))) bN) (aB (bW (gp (qi B.isinstance B.bool pZ (ae 1))) (aL (bh (rL (qi B.isinstance B.bool pZ (ae 0)) (nI (ki (eV hr) (ae 0) (ae 1)))))) bN) (aB (bW (gp (qi B.isinstance B.int boot_int (ae 1))) (aL (bh (rL (qi B.isinstance B.int boot_int (ae 0)) (rL (zE (qi B.isinstance B.bool pZ (ae 0))) (nI (ki (eV hr) (ae 0) (ae 1))))))) bN) (aL (bh (rL (qi B.isinstance B.str boot_str (ae 0)) (nI (ki (eV hr) (ae 0) (ae 1)))))))))))
def Ni:FS:=(aX (b6 1 (bS 3 lP (ah (bS 2 r9 (ah (af 0) (ah (eI 0) aK))) (ah (eI 6) (ah (eI 100003) aK))))) (aX (b6 2 (bS 3 xa (ah (bS 2 r9 (ah (af 0) (ah (eI 1) aK))) (ah (eI 6) (ah (eI 200017) aK))))) (aX (b6 3 (bS 2 Ao (ah (bS 3 lP (ah (bS 2 r9 (ah (af 0) (ah (eI 2) aK))) (ah (e2 e7 (eI 2) (e2 je (eI 2) (e2 iC (e2 bH (af 1) (eI 0)) (eI 6)))) (ah (eI 300007) aK)))) (ah (Fz (af 2) oG (nK (eI 4))) aK)))) (aX (b6 4 (e2 iC (e2 bH (af 1) (eI 1)) (eI 8))) (aX (b6 5 (bS 3 An (ah (bS 3 lP (ah (bS 2 r9 (ah (af 0) (ah (eI 3) aK))) (ah (af 4) (ah (eI 400009) aK)))) (ah (Fz (af 2) oG (nK (eI 4))) (ah (af 4) aK))))) (aX (b6 6 (bS 2 vx (ah (af 3) (ah (af 5) aK)))) (aX (fD (Gy (da (bS 2 (jv 40) (ah (bS 2 kq (ah (af 3) (ah (af 5) aK))) (ah (af 6) aK))))) (cK (eC (.bl false))) b_) (aX (b6 7 (bS 1 (mF 40) (ah (af 3) aK))) (aX (b6 8 (Fz (af 2) (nK (eI 4)) oG)) (aX (fD (da (e2 fQ (e2 iC (e2 bH (af 1) (eI 2)) (eI 2)) (eI 1))) (b6 8 (Fz (af 2) oG (nK (eI 2)))) b_) (aX (b6 9 (bS 4 Au (ah (af 5) (ah (af 7) (ah (af 8) (ah (bS 3 lP (ah (bS 2 r9 (ah (af 0) (ah (eI 4) aK))) (ah (cr eW (ah (af 5) aK)) (ah (eI 500009) aK)))) aK)))))) (aX (fD (Gy (da (bS 2 (jv 40) (ah (bS 2 kq (ah (af 3) (ah (af 9) aK))) (ah (af 6) aK))))) (cK (eC (.bl false))) b_) (aX (b6 10 (bS 3 (lQ 40) (ah (af 3) (ah (fP (ah (eI 0) (ah (eI 0) aK))) (ah (eC (.bl true)) aK))))) (aX (fD (Gy (da (bS 2 (jv 40) (ah (bS 2 kq (ah (af 10) (ah (bS 1 As (ah (af 5) aK)) aK))) (ah (af 6) aK))))) (cK (eC (.bl false))) b_) (aX (b6 11 (fP (ah (e2 iC (e2 bH (af 1) (eI 3)) (eI 26)) (ah (e2 iC (e2 bH (af 1) (eI 4)) (eI 26)) aK)))) (aX (b6 12 (kO aK)) (aX (i' (dz (af 5)) (Ka 2 (g9 (g8 13) (g9 (g8 14) rO))) (eO (lJ bO (af 12) (ah (fP (ah (af 13) (ah (BA kj (eC (.str [])) (ah (cr oM (ah (gj [none,some 11] (dz (af 14)) (g8 0) m9 (bS 2 qr (ah (af 0) #[16]))) aK)) aK)) aK))) aK)))) (aX (fD (Gy (da (bS 2 (jv 40) (ah (bS 2 kq (ah (bS 3 (lQ 40) (ah (af 3) (ah (af 11) (ah (eC (.bl false)) aK)))) (ah (cr jC (ah (af 12) aK)) aK))) (ah (af 6) aK))))) (cK (eC (.bl false))) b_) (aX (b6 15 (e2 bH (af 2) (e2 iC (e2 bH (af 1) (eI 5)) (eI 4)))) (aX (b6 16 (bS 2 vx (ah (fP (ah (eC (.str [97,108,108])) (ah (af 15) (ah (af 3) aK)))) (ah (af 5) aK)))) (aX (b6 17 (af 16)) (aX (fD (da (rR "bool" (af 16))) (b6 17 (zD (af 16))) b_) (aX (fD (Gy (da (bS 2 (jv 40) (ah (bS 2 kq (ah (fP (ah (eC (.str [97,108,108])) (ah (af 15) (ah (af 3) aK)))) (ah (af 5) aK))) (ah (af 16) aK))))) (cK (eC (.bl false))) b_) (cK (bS 2 (jv 40) (ah (bS 2 kq (ah (fP (ah (eC (.str [115,111,109,101])) (ah (af 15) (ah (fP (ah (eC (.str [110,111,116])) (ah (af 3) aK))) aK)))) (ah (af 5) aK))) (ah (af 17) aK)))))))))))))))))))))))))))
def f_q42:List W->List al->R W:=dZ 18 Ni
theorem PJ(F:j9 K "law" "law" r6 f fd)(B:Bl mg)(t8:cG P w K mg base 45 "_law_ask" 2 kq)(vO:cG P w K mg base 1 "_law_cell" 2 r9)(sj:cG P w K mg base 2 "_law_draws" 3 lP)(En:cG P w K mg base 42 "_law_due" 2 vx)(vU:cG P w K mg base 1 "_law_letter_by" 2 qr)(J0:cG P w K mg base 1 "_law_mirrored" 1 As)(t7:cG P w K mg base 40 "_law_names" 1 (mF 40))(J2:cG P w K mg base 1 "_law_other_marks" 4 Au)(Jy:cG P w K mg base 3 "_law_pool" 3 xa)(JB:cG P w K mg base 1 "_law_said" 2 Ao)(xK:cG P w K mg base 41 "_law_said_by" 3 (lQ 40))(qu:cG P w K mg base 40 "_law_same" 2 (jv 40))(JO:cG P w K mg base 2 "_law_wood" 3 An):eY P w K mg base (kP P w) 46 f fd Ij (md K mg 1 f_q42):=
 cS (k:=45) F gB rfl fun gJ A outer s H E hr=>(aB (sS 1 gB (bA sj hr #[0] (aa (bA vO hr #[0] (aa (ae 0) (aa aD aw))) (aa aD (aa aD aw))))) (aB (sS 2 gB (bA Jy hr #[0] (aa (bA vO hr #[0] (aa (ae 0) (aa aD aw))) (aa aD (aa aD aw))))) (aB (sS 3 gB (bA JB hr #[0] (aa (bA sj hr #[0] (aa (bA vO hr #[0] (aa (ae 0) (aa aD aw))) (aa (bV fG aD (bV jf aD (bV gI (bw (ae 1) aD) aD))) (aa aD aw)))) (aa (B9 (ae 2) m5 (m6 aD)) aw)))) (aB (sS 4 gB (bV gI (bw (ae 1) aD) aD)) (aB (sS 5 gB (bA JO hr #[0] (aa (bA sj hr #[0] (aa (bA vO hr #[0] (aa (ae 0) (aa aD aw))) (aa (ae 4) (aa aD aw)))) (aa (B9 (ae 2) m5 (m6 aD)) (aa (ae 4) aw))))) (aB (sS 6 gB (bA En hr #[0] (aa (ae 3) (aa (ae 5) aw)))) (aB (bW (qF (gp (bA qu hr #[0] (aa (bA t8 hr #[0] (aa (ae 3) (aa (ae 5) aw))) (aa (ae 6) aw))))) (aL (bh qD)) bN) (aB (sS 7 gB (bA t7 hr #[0] (aa (ae 3) aw))) (aB (sS 8 gB (B9 (ae 2) (m6 aD) m5)) (aB (bW (bv (eV hr) (bV gI (bw (ae 1) aD) aD) aD) (aL (sS 8 gB (B9 (ae 2) m5 (m6 aD)))) bN) (aB (sS 9 gB (bA J2 hr #[0] (aa (ae 5) (aa (ae 7) (aa (ae 8) (aa (bA sj hr #[0] (aa (bA vO hr #[0] (aa (ae 0) (aa aD aw))) (aa (cy fH B.len cL (aa (ae 5) aw)) (aa aD aw)))) aw)))))) (aB (bW (qF (gp (bA qu hr #[0] (aa (bA t8 hr #[0] (aa (ae 3) (aa (ae 9) aw))) (aa (ae 6) aw))))) (aL (bh qD)) bN) (aB (sS 10 gB (bA xK hr #[0] (aa (ae 3) (aa (eU (aa aD (aa aD aw))) (aa qD aw))))) (aB (bW (qF (gp (bA qu hr #[0] (aa (bA t8 hr #[0] (aa (ae 10) (aa (bA J0 hr #[0] (aa (ae 5) aw)) aw))) (aa (ae 6) aw))))) (aL (bh qD)) bN) (aB (sS 11 gB (eU (aa (bV gI (bw (ae 1) aD) aD) (aa (bV gI (bw (ae 1) aD) aD) aw)))) (aB (sS 12 gB (jU aw)) (aB (fI (gs (ae 5)) (qI rfl (fU (sG 13 gB) (fU (sG 14 gB) m8))) (aL (eE (me PySem.F.slot_list_append PySem.F.type_list_append c7 (ae 12) (aa (eU (aa (ae 13) (aa (we PySem.F.slot_str_join PySem.F.type_str_join lK cw (aa (cy DC B.sorted boot_sorted (aa (kQ (nm:=["_law_letter","_law_by"]) (cap:=[none,some 11]) (by first|rfl|kernel_rfl) rfl (gs (ae 14)) (fun _ _ _ _ _=>(sC 0)) (fun _ _ _ _ _=>jN) (fun _ _ _ _ _=>(bA vU hr #[0] (aa (ae 0) #[23])))) aw)) aw)) aw))) aw))))) (aB (bW (qF (gp (bA qu hr #[0] (aa (bA t8 hr #[0] (aa (bA xK hr #[0] (aa (ae 3) (aa (ae 11) (aa qD aw)))) (aa (jV m7 B.tuple gi (aa (ae 12) aw)) aw))) (aa (ae 6) aw))))) (aL (bh qD)) bN) (aB (sS 15 gB (bw (ae 2) (bV gI (bw (ae 1) aD) aD))) (aB (sS 16 gB (bA En hr #[0] (aa (eU (aa cw (aa (ae 15) (aa (ae 3) aw)))) (aa (ae 5) aw)))) (aB (sS 17 gB (ae 16)) (aB (bW (gp (qi B.isinstance B.bool pZ (ae 16))) (aL (sS 17 gB (zE (ae 16)))) bN) (aB (bW (qF (gp (bA qu hr #[0] (aa (bA t8 hr #[0] (aa (eU (aa cw (aa (ae 15) (aa (ae 3) aw)))) (aa (ae 5) aw))) (aa (ae 16) aw))))) (aL (bh qD)) bN) (aL (bh (bA qu hr #[0] (aa (bA t8 hr #[0] (aa (eU (aa cw (aa (ae 15) (aa (eU (aa cw (aa (ae 3) aw))) aw)))) (aa (ae 5) aw))) (aa (ae 17) aw))))))))))))))))))))))))))))
end
theorem CH(ns:List α)(hl:0<ns.length)(k:Int):∃c∈ns,rl ns (k%((ns.length:Nat):Int))=some c:=by
 have h0:0<=k%((ns.length:Nat):Int):=iU _ #[0]
 have h1:k%((ns.length:Nat):Int)<ns.length:=li _ #[0]
 obtain⟨m,hm⟩:=Int.eq_ofNat_of_zero_le h0
 rw[hm]at h1 ⊢
 have h2:m<ns.length:=by omega
 exact⟨ns[m],dw _,fK (by simp[h2])⟩
theorem r_{ns:List Int}(h:st[n]?=some (.ro (ns.map W.int)))(k:Int):∃c,r9 [.loc n,.int k] st=.ok (.int c) st:=by
 by_cases hn:ns=[]
 ·subst hn
  refine⟨0,?_⟩
  apply pQ;apply Co;apply gc
  ·(repeat' (first|with_reducible exact jD (uy h)|walk_at "ev1"))
  ·(walk_at "evs")
 ·have hl:0<ns.length:=List.length_pos_iff.mpr hn
  obtain⟨c,hc,e⟩:=CH (ns.map W.int) (by simpa using hl) k
  obtain⟨c,_,rfl⟩:=b8.mp hc
  refine⟨c,?_⟩
  apply pQ;apply DF
  ·apply fz
   ·(repeat' (first|with_reducible exact jD (uy h)|walk_at "ev1"))
    rw[bz,az];omega
   ·(walk_at "evs")
  ·(repeat' (first|with_reducible exact jD (uy h)|with_reducible exact gW (uy h) e|walk_at "ev1"))
   rw[az];omega
theorem Iw(c k s:Int)(hk:-(2^64)<k/\k<2^64)(st:List al):∃r,0<=r/\w_ [.int c,.int k,.int s] st=.ok (.int r) st:=by
 have big:∀q:Int,0<=q%2147483647/\q%2147483647<2147483647:=fun q=>⟨iU _ #[1],li _ #[1]⟩
 refine⟨(((c+7*k*k+13*k+s)*69621%2147483647*((c+7*k*k+13*k+s)*69621%2147483647/1009+3)+31*k+s)%2147483629*48271)%1000000007,iU _ #[1],?_⟩
 apply pQ;apply DF
 ·(walk_at "evs")<;>first|exact .inl #[1]|exact .inr #[1]|exact .inr hk
 ·(walk_at "evs")<;>first|exact .inl #[1]|exact .inr #[1]|exact .inl (by have:=big ((c+7*k*k+13*k+s)*69621);omega)
theorem oX(c s:Int)(m:Nat)(hm:m<=1000)(st:List al):∃ds:List Int,ds.length=m/\(∀d∈ds,0<=d)/\lP [.int c,.int m,.int s] st=.ok #[2] (st++[.lst (ds.map W.int)]):=by
 suffices hh:ju (BB fun w bF=>∃j x,w=.loc (st.length+j)/\bF=st++x/\j=0/\∃ds:List Int,x=[.lst (ds.map W.int)]/\ds.length=m/\∀d∈ds,0<=d) (M7 ([W.int c,.int m,.int s].map some++List.replicate (6-3) none) st) by
  obtain⟨j,x,⟨rfl,ds,rfl,h1,h2⟩,e⟩:=rZ hh
  exact⟨ds,h1,h2,e⟩
 apply aF
 ·(walk_at "evs")
 apply aF
 ·(walk_at "evs")
 have main:∀r0:Int,ju (BB fun w bF=>∃j x,w=.loc (st.length+j)/\bF=st++x/\j=0/\∃ds:List Int,x=[.lst (ds.map W.int)]/\ds.length=m/\∀d∈ds,0<=d)
   (aX (i' (dM #[16]) (g8 5) (fD (da (e2 GF (af 4) (eI 0))) (aX (eO (lJ bO (af 3) (ah (e2 iC (af 4) (eI 64)) aK))) (b6 4 (e2 mB (af 4) (eI 64)))) (eO (lJ bO (af 3) (ah (bS 3 w_ (ah (af 0) (ah (af 5) (ah (af 2) aK)))) aK))))) (cK (af 3))
   [some (.int c),some (.int m),some (.int s),some #[2],some (.int r0),none] (st++[.lst []])):=by
  intro r0
  refine fA (fun i ρ bF=>∃(r:Int) (o:Option W) (ds:List Int),ρ=[some (.int c),some (.int m),some (.int s),some #[2],some (.int r),o]/\bF=st++[.lst (ds.map W.int)]/\ds.length=i/\∀d∈ds,0<=d) (gX (by(walk_at "evs");rfl) #[0])
   ⟨r0,none,[],rfl,rfl,rfl,by simp⟩ (fun _ _ _ _=>trivial) ?_ ?_
  ·rintro i w ρ bF hw ⟨r,o,ds,rfl,rfl,hd,h⟩
   obtain⟨hi,rfl⟩:=ik hw
   refine⟨_,rfl,?_⟩
   have dI:(st++[al.lst (ds.map W.int)])[st.length]?=some (.lst (ds.map W.int)):=by rw[dA];rfl
   have hsh:(ds.map W.int).length<kN:=by rw[az,hd];show i<1000000;omega
   by_cases hr:0<r
   ·apply nO
    ·(walk_at "evs");simpa using hr
    apply aF
    ·(repeat' (first|with_reducible exact dR dI|with_reducible exact jY dI hsh|walk_at "ev1"))
    rw[dN]
    apply db
    ·(walk_at "evs")
    ·refine⟨_,_,rfl,r/64,_,ds++[r%64],rfl,by simp,by simp[hd],fun d hd'=>?_⟩
     rcases bg.mp hd' with hd'|hd'
     ·exact h d hd'
     ·rw[aV.mp hd'];exact iU _ #[1]
   ·obtain⟨q,hq,e⟩:=Iw c (0+i) s #[0] (st++[al.lst (ds.map W.int)])
    apply lN
    ·(walk_at "evs");simpa using hr
    apply db
    ·(repeat' (first|with_reducible exact dR dI|with_reducible exact jY dI hsh|with_reducible exact e|walk_at "ev1"))
    ·refine⟨_,_,rfl,r,_,ds++[q],rfl,by rw[dN];simp,by simp[hd],fun d hd'=>?_⟩
     rcases bg.mp hd' with hd'|hd'
     ·exact h d hd'
     ·rw[aV.mp hd'];exact hq
  ·rintro ρ bF ⟨r,o,ds,rfl,rfl,hd,h⟩
   apply bI
   ·(walk_at "evs")
   ·exact⟨_,_,rfl,0,_,rfl,rfl,rfl,ds,rfl,by rw[hd];simpa using fJ 0 m,h⟩
 by_cases hc:(10:Int)^18<=c
 ·apply aF
  ·apply gc
   ·(walk_at "evs")<;>simpa using hc
   ·(walk_at "evs")
  ·exact main c
 ·apply aF
  ·apply fz
   ·(walk_at "evs")<;>simpa using hc
   ·(walk_at "evs")
  ·exact main 0
abbrev LL:List Nat:=[65,66,67,68,69,70,71,72,73,74,75,76,77,78,79,80,81,82,83,84,85,86,87,88,89,90,97,98,99,100,101,102,103,104,105,106,107,108,109,110,111,112,113,114,115,116,117,118,119,120,121,122]
theorem Lv(c s:Int)(m:Nat)(hm:m<=50)(st:List al):∃l:List Nat,l.length=m/\(∀d∈l,d∈LL)/\xa [.int c,.int m,.int s] st=.ok (.str l) st:=by
 suffices hh:ju (BB fun w bF=>(∃x,bF=st++x)/\undWs st.length [w]=true/\∃l:List Nat,w=.str l/\l.length=m/\∀d∈l,d∈LL) (M8 ([W.int c,.int m,.int s].map some++List.replicate (7-3) none) st) by
  obtain⟨w,⟨l,rfl,h1,h2⟩,e⟩:=uz hh
  exact⟨l,h1,h2,e⟩
 obtain⟨ds,h1,h2,e⟩:=oX c s m #[0] st
 apply aF
 ·(walk_at "evs")
 apply aF
 ·(walk_at "evs")
 have dI:lstOf (st++[al.lst (ds.map W.int)]) st.length=some (ds.map W.int):=br (by rw[dA];rfl)
 refine fA (fun i ρ bF=>∃(r f:List Nat) (o o2:Option W),ρ=[some (.int c),some (.int m),some (.int s),some (.str r),some (.str f),o,o2]/\bF=st++[.lst (ds.map W.int)]/\f.length=i/\r.length+i=52/\(∀d∈r,d∈LL)/\∀d∈f,d∈LL) (pR (by(repeat' (first|with_reducible exact e|walk_at "ev1"))) dI)
  ⟨LL,[],none,none,rfl,rfl,rfl,rfl,fun _ h=>h,by simp⟩ (fun i ρ bF h=>?_) ?_ ?_
 ·obtain⟨r,f,o,o2,rfl,rfl,_⟩:=h
  exact dI
 ·rintro i w ρ bF hw ⟨r,f,o,o2,rfl,rfl,hf,hr,hrl,hfl⟩
  obtain⟨d,hd,rfl⟩:∃d,ds[i]?=some d/\w=.int d:=by
   simp only[aG,b9]at hw
   obtain⟨d,h1,rfl⟩:=hw
   exact⟨d,h1,rfl⟩
  have hi:i<m:=by rw[<- h1];exact(aj.mp hd).1
  obtain⟨q,hq,eq⟩:=kB (q:=d) (n:=r.length) #[0]
  have hL:r.length<=kN:=by show _<=1000000;omega
  have hLf:f.length<=kN:=by show _<=1000000;omega
  have hat:rl r (d%(r.length:Int))=some r[q]:=by rw[eq];exact fK (by simp[hq])
  refine⟨_,rfl,?_⟩
  apply aF
  ·(repeat' (first|with_reducible exact sU hL|walk_at "ev1"))
   show 0<(r.length:Int);omega
  apply aF
  ·have ha:f.length+[r[q]].length<=kN:=by show _+1<=1000000;omega
   (repeat' (first|with_reducible exact rY hL hat|with_reducible exact vn ha|walk_at "ev1"))
  apply db
  ·(repeat' (first|with_reducible exact SF hL|walk_at "ev1"))
   rw[eq,ym #[0],show((q:Int)+1)=((q+1:Nat):Int)from rfl,yn #[0],bE,im]
   show _<=1000000;omega
  ·refine⟨_,_,rfl,_,_,_,_,rfl,rfl,by simp[hf],?_,?_,?_⟩
   ·rw[eq,ym #[0],show((q:Int)+1)=((q+1:Nat):Int)from rfl,yn #[0],aE,bE,im]
    omega
   ·intro d hd
    rw[eq,ym #[0],show((q:Int)+1)=((q+1:Nat):Int)from rfl,yn #[0]]at hd
    rcases bg.mp hd with hd|hd
    ·exact hrl _ (List.mem_of_mem_take hd)
    ·exact hrl _ (List.mem_of_mem_drop hd)
   ·intro d hd
    rcases bg.mp hd with hd|hd
    ·exact hfl _ hd
    ·rw[aV.mp hd];exact hrl _ (dw _)
 ·rintro ρ bF ⟨r,f,o,o2,rfl,rfl,hf,hr,hrl,hfl⟩
  apply bI
  ·(walk_at "evs")
  ·exact⟨_,_,rfl,⟨_,rfl⟩,rfl,f,rfl,by rw[hf];simpa using h1,hfl⟩
structure Pl where
 b:Nat
 m:List Nat
def Pl.w(p:Pl):W:=.tup [.int p.b,.str p.m]
def dC(t:List Pl):W:=.tup (t.map Pl.w)
inductive St(n:Nat):List Nat->Nat->List Nat->Nat->Option Nat×Option Nat->Prop
 |z {S:List Nat}:St n S 0 (1::S) 1 (none,none)
 |l {a:Nat} {S:List Nat}:St n (a::S) 1 ((1+a)::S) (1+a) (some (n-1),none)
 |r {a:Nat} {S:List Nat}:St n (a::S) 2 ((1+a)::S) (1+a) (none,some (n-1))
 |b {c a:Nat} {S:List Nat}:St n (c::a::S) 3 ((1+c+a)::S) (1+c+a) (some (n-1-c),some (n-1))
inductive Gr:List Pl->List Nat->List Nat->List #[3]->Prop
 |nil:Gr [] [] [] []
 |snoc {ps:List Pl} {S S' sz:List Nat} {lk:List (Option Nat×Option Nat)} {b k:Nat} {m:List Nat} {x:Option Nat×Option Nat}:Gr ps S sz lk->St ps.length S b S' k x->Gr (ps++[⟨b,m⟩]) S' (sz++[k]) (lk++[x])
def At(sz:List Nat):List Nat->Nat->Prop
 |[],n=>n=0
 |a::S,n=>sz[n-1]?=some a/\a<=n/\1<=a/\At sz S (n-a)
theorem At.app{sz x:List Nat}:∀{S:List Nat} {n:Nat},n<=sz.length->At sz S n->At (sz++x) S n
 |[],_,_,h=>h
 |a::S,n,hn,⟨h1,h2,h3,h4⟩=>⟨by rw[bj (by omega)];exact h1,h2,h3,At.app (by omega) h4⟩
theorem St.at'{sz S':List Nat}{b k:Nat}{x:Option Nat×Option Nat}(h:St n S b S' k x)(hn:sz.length=n)(ha:At sz S n):At (sz++[k]) S' (n+1):=by
 have hk:(sz++[k])[n+1-1]?=some k:=by rw[Nat.add_sub_cancel,<- hn];simp
 cases h with
 |z=>exact⟨hk,by omega,by omega,by rw[Nat.add_sub_cancel];exact ha.app (by omega)⟩
 |@l a S=>exact⟨hk,by have:=ha.2.1;omega,by omega,by rw[show n+1-(1+a)=n-a by omega];exact ha.2.2.2.app (by omega)⟩
 |@r a S=>exact⟨hk,by have:=ha.2.1;omega,by omega,by rw[show n+1-(1+a)=n-a by omega];exact ha.2.2.2.app (by omega)⟩
 |@b c a S=>exact⟨hk,by have:=ha.2.1;have:=ha.2.2.2.2.1;omega,by omega,by rw[show n+1-(1+c+a)=n-c-a by omega];exact ha.2.2.2.2.2.2.app (by omega)⟩
theorem Gr.ok{ps:List Pl}{sz:List Nat}{lk:List #[3]}(h:Gr ps S sz lk):sz.length=ps.length/\lk.length=ps.length/\At sz S ps.length:=by
 induction h with
 |nil=>exact⟨rfl,rfl,rfl⟩
 |snoc _ hs ih=>
  obtain⟨h1,h2,h3⟩:=ih
  exact⟨by simp[h1],by simp[h2],by rw[aE];exact hs.at' h1 h3⟩
theorem Gr.step{ps:List Pl}{sz:List Nat}{lk:List #[3]}(h:Gr ps S sz lk):∀i,i<ps.length->∃S1 S2 p k x,Gr (ps.take i) S1 (sz.take i) (lk.take i)/\ps[i]?=some p/\sz[i]?=some k/\lk[i]?=some x/\St i S1 p.b S2 k x/\Gr (ps.take (i+1)) S2 (sz.take (i+1)) (lk.take (i+1)):=by
 induction h with
 |nil=>intro i hi;simp at hi
 |@snoc ps S S' sz lk b k m x hg hs ih=>
  intro i hi
  obtain⟨l1,l2,_⟩:=hg.ok
  by_cases e:i=ps.length
  ·subst e
   refine⟨S,S',⟨b,m⟩,k,x,?_,by simp,by rw[<- l1];simp,by rw[<- l2];simp,hs,?_⟩
   ·rw[lg,<- l1,lg]
    rw[l1,<- l2,lg];exact hg
   ·rw[dv #[18],dv (by simp[l1]),dv (by simp[l2])]
    exact .snoc hg hs
  ·have hi':i<ps.length:=by simp at hi;omega
   obtain⟨S1,S2,p,k1,x1,g1,q1,q2,q3,hs1,g2⟩:=ih i hi'
   refine⟨S1,S2,p,k1,x1,?_,by rw[bj hi'];exact q1,by rw[bj #[0]];exact q2,by rw[bj #[0]];exact q3,hs1,?_⟩
   ·rw[c5 #[0],c5 #[0],c5 #[0]];exact g1
   ·rw[c5 #[0],c5 #[0],c5 #[0]];exact g2
theorem Gr.cut{ps:List Pl}{sz:List Nat}{lk:List #[3]}(h:Gr ps S sz lk)(hi:i<ps.length):∃(p:Pl) (L R:Nat),ps[i]?=some p/\sz[i]?=some (1+L+R)/\L+R<=i/\p.b<=3/\(0<L↔p.b%2=1)/\(0<R↔2<=p.b)/\(2<=p.b->1<=i/\sz[i-1]?=some R):=by
 obtain⟨S1,S2,p,k,x,g1,q1,q2,q3,hs,_⟩:=h.step i hi
 obtain⟨l1,l2,ha⟩:=g1.ok
 have dU:(ps.take i).length=i:=by rw[bE];omega
 rw[dU]at ha
 obtain⟨b,m⟩:=p
 have get:∀j a,1<=i->j=i-1->(sz.take i)[j]?=some a->sz[j]?=some a:=fun j a hi1 hj e=>by
  rw[c8 #[0]]at e;exact e
 cases hs with
 |z=>exact⟨⟨0,m⟩,0,0,q1,q2,by omega,by simp,by simp,by simp,by simp⟩
 |@l a S=>
  have ha1:(sz.take i)[i-1]?=some a:=ha.1
  have ha2:a<=i:=ha.2.1
  have ha3:1<=a:=ha.2.2.1
  exact⟨⟨1,m⟩,a,0,q1,q2,by omega,by simp,by simp;omega,by simp,by simp⟩
 |@r a S=>
  have ha1:(sz.take i)[i-1]?=some a:=ha.1
  have ha2:a<=i:=ha.2.1
  have ha3:1<=a:=ha.2.2.1
  exact⟨⟨2,m⟩,0,a,q1,by rw[q2],by omega,by simp,by simp,by simp;omega,fun _=>⟨by omega,get _ _ #[0] rfl ha1⟩⟩
 |@b c a S=>
  have ha1:(sz.take i)[i-1]?=some c:=ha.1
  have ha2:c<=i:=ha.2.1
  have ha3:1<=c:=ha.2.2.1
  have hb2:a<=i-c:=ha.2.2.2.2.1
  have hb3:1<=a:=ha.2.2.2.2.2.1
  exact⟨⟨3,m⟩,a,c,q1,by rw[q2];congr 1<;>omega,by omega,by simp,by simp;omega,by simp;omega,fun _=>⟨by omega,get _ _ #[0] rfl ha1⟩⟩
theorem Tz{b:Nat}(h:b<=3)(st:List al):mR false (.int b) (.tup [.int 1,.int 3]) st=.ok (.bl (decide (b%2=1))) st:=by
 obtain rfl|rfl|rfl|rfl:b=0\/b=1\/b=2\/b=3:=by omega
 all_goals rfl
theorem TB{b:Nat}(h:b<=3)(st:List al):mR false (.int b) (.tup [.int 2,.int 3]) st=.ok (.bl (decide (2<=b))) st:=by
 obtain rfl|rfl|rfl|rfl:b=0\/b=1\/b=2\/b=3:=by omega
 all_goals rfl
theorem Lw{p:Pl}(h:p.b<=3)(st:List al):yG [p.w] st=.ok (.bl (decide (p.b%2=1))) st:=by
 have:=Tz h st
 have i0:bH p.w (.int 0) st=.ok (.int p.b) st:=rfl
 apply bX
 apply bI
 ·(walk_at "evs")
 ·exact⟨_,_,rfl,rfl,rfl⟩
theorem Iy{p:Pl}(h:p.b<=3)(st:List al):yH [p.w] st=.ok (.bl (decide (2<=p.b))) st:=by
 have:=TB h st
 have i0:bH p.w (.int 0) st=.ok (.int p.b) st:=rfl
 apply bX
 apply bI
 ·(walk_at "evs")
 ·exact⟨_,_,rfl,rfl,rfl⟩
def oW:Option Nat->W
 |none=>.non
 |some k=>.int k
def kr(x:Option Nat×Option Nat):W:=.tup [oW x.1,oW x.2]
def lD:List Nat->Nat->List Nat
 |[],_=>[]
 |a::S,n=>(n-1)::lD S (n-a)
theorem kC:∀(S:List Nat) (n:Nat),(lD S n).length=S.length
 |[],_=>rfl
 |a::S,n=>by simp[lD,kC S]
theorem At.le{sz:List Nat}:∀{S:List Nat} {n:Nat},At sz S n->S.length<=n
 |[],_,_=>bU _
 |a::S,n,⟨_,h2,h3,h4⟩=>by have:=At.le h4;simp;omega
theorem St.det{S1 S2:List Nat}{b k1 k2:Nat}{x1 x2:Option Nat×Option Nat}(h1:St n S b S1 k1 x1)(h2:St n S b S2 k2 x2):S1=S2/\k1=k2/\x1=x2:=by
 cases h1<;>cases h2<;>exact⟨rfl,rfl,rfl⟩
theorem Gr.det{ps:List Pl}{sz:List Nat}{lk:List #[3]}(h:Gr ps S sz lk):∀{Mc:List Pl} {S' uK:List Nat} {tj:List #[3]},Gr Mc S' uK tj->ps=Mc->S=S':=by
 induction h with
 |nil=>
  intro Mc S' uK tj h' e
  cases h' with
  |nil=>rfl
  |snoc _ _=>simp at e
 |snoc hg hs ih=>
  intro Mc S' uK tj h' e
  cases h' with
  |nil=>simp at e
  |snoc hg' hs'=>
   have e2:=List.append_inj' e rfl
   have:=ih hg' e2.1
   subst this
   have e3:Pl.mk _ _=Pl.mk _ _:=List.head_eq_of_cons_eq e2.2
   injection e3 with eb em
   subst eb
   rw[<- e2.1]at hs'
   exact(hs.det hs').1
def h_(l:List Nat):List W:=l.map fun k:Nat=>W.int k
section
variable{ps:List Pl}{sz:List Nat}{lk:List #[3]}
theorem Iz(h:Gr ps S sz lk)(hn:ps.length<=1000)(st:List al):Im [dC ps] st=.ok (.tup (lk.map kr)) st:=by
 obtain⟨l1,l2,_⟩:=h.ok
 have hu:∀(l:List #[3]) (n:Nat),undWs n (l.map kr)=true:=by
  intro l n
  induction l with
  |nil=>rfl
  |cons x r ih=>
   obtain⟨a,b⟩:=x
   simp only[aW,undWs,ih,iL,kr,W.und]
   cases a<;>cases b<;>rfl
 refine e_ (N:=7) (ws:=[dC ps]) (body:=Tl) ?_ (by simp[undWs,W.und,hu])
 apply aF
 ·(walk_at "evs")
 apply aF
 ·(walk_at "evs")
 rw[show(st++[al.lst []]).length=st.length+1 by simp,show st++[al.lst []]++[al.lst []]=st++[al.lst [],al.lst []] by simp]
 refine fA (fun i ρ bF=>∃(S1:List Nat) (o3 o4 o5 o6:Option W),ρ=[some (dC ps),some #[2],some #[22],o3,o4,o5,o6]/\bF=st++[.lst ((lk.take i).map kr),.lst (h_ (lD S1 i).reverse)]/\Gr (ps.take i) S1 (sz.take i) (lk.take i)/\i<=ps.length) (k:=(km (ps.map Pl.w),none))
  (by show mf (ah (af 0) aK) _ _=_;unfold mf;rfl) ⟨[],none,none,none,none,rfl,rfl,.nil,bU _⟩ (fun _ _ _ _=>trivial) ?_ ?_
 ·rintro i w ρ bF hw ⟨S1,o3,o4,o5,o6,rfl,rfl,hg,hi⟩
  obtain⟨y,hy,rfl⟩:=pM hw
  have hip:i<ps.length:=by have:=(aj.mp hy).1;simpa using this
  obtain⟨S1',S2,p,k,x,g1,q1,q2,q3,hs,g2⟩:=h.step i hip
  rw[aG,q1]at hy
  cases hy
  refine⟨_,rfl,?_⟩
  have hS:=hg.det g1 rfl
  subst hS
  obtain⟨lz,ll,ha⟩:=g1.ok
  have hti:(ps.take i).length=i:=by rw[bE];omega
  rw[hti]at ha lz ll
  have hSl:=ha.le
  obtain⟨p',L,R,q1',q2',_,hb3,hL,hR,_⟩:=h.cut hip
  rw[q1]at q1';cases q1'
  have hlk:lk.take (i+1)=lk.take i++[x]:=by rw[h9,q3];rfl
  have hrt:=fun st=>Iy (p:=p) hb3 st
  have hlf:=fun st=>Lw (p:=p) hb3 st
  have pop:∀(A:List W) (B:List Nat) (q:Nat),p9 #[22] [] (st++[.lst A,.lst (h_ (q::B).reverse)])=.ok (.int q) (st++[.lst A,.lst (h_ B.reverse)]):=fun A B q=>by
   have hc:(st++[al.lst A,.lst (h_ (q::B).reverse)])[st.length+1]?=some (.lst (h_ B.reverse++[.int q])):=by rw[iP];simp[h_]
   rw[zZ hc,gu];rfl
  have isl:∀(A:List W) (B:List W),mC (st++[.lst A,.lst B]) #[22]=true:=fun A B=>dR (by rw[iP];rfl)
  have isl0:∀(A:List W) (B:List W),mC (st++[.lst A,.lst B]) #[2]=true:=fun A B=>dR (by rw[dA];rfl)
  have app:∀(A:List W) (B:List Nat) (q:Nat),B.length<1000->bO #[22] [.int q] (st++[.lst A,.lst (h_ B.reverse)])=.ok .non (st++[.lst A,.lst (h_ (q::B).reverse)]):=fun A B q hB=>by
   have hc:(st++[al.lst A,.lst (h_ B.reverse)])[st.length+1]?=some (.lst (h_ B.reverse)):=by rw[iP];rfl
   rw[jY hc (by simp[h_];show _<1000000;omega),gu]
   simp[h_]
  have app0:∀(B:List W) (w:W),bO #[2] [w] (st++[.lst ((lk.take i).map kr),.lst B])=.ok .non (st++[.lst ((lk.take i).map kr++[w]),.lst B]):=fun B w=>by
   have hc:(st++[al.lst ((lk.take i).map kr),.lst B])[st.length]?=some (.lst ((lk.take i).map kr)):=by rw[dA];rfl
   rw[jY hc (by simp;show _<1000000;omega),dN];rfl
  have ie:∀(o3 o4 o5 o6:Option W) (B:List Nat),B=lD S2 (i+1)->FB (fun ρ bF=>∃(S1:List Nat) (o3 o4 o5 o6:Option W),ρ=[some (dC ps),some #[2],some #[22],o3,o4,o5,o6]/\bF=st++[.lst ((lk.take (i+1)).map kr),.lst (h_ (lD S1 (i+1)).reverse)]/\Gr (ps.take (i+1)) S1 (sz.take (i+1)) (lk.take (i+1))/\i+1<=ps.length)
    (.nx [some (dC ps),some #[2],some #[22],o3,o4,o5,o6] (st++[.lst ((lk.take i).map kr++[kr x]),.lst (h_ B.reverse)])):=by
   rintro o3 o4 o5 o6 B rfl
   exact⟨_,_,rfl,S2,_,_,_,_,rfl,by rw[hlk];simp,g2,by omega⟩
  obtain⟨b,m⟩:=p
  have hiS:∀T:List Nat,T.length<=i->(lD T i).length<1000:=fun T hT=>by rw[kC];omega
  cases hs with
  |@z=>
   have hr:yH [(Pl.mk 0 m).w]=fun st=>.ok (.bl false) st:=funext hrt
   have hl:yG [(Pl.mk 0 m).w]=fun st=>.ok (.bl false) st:=funext hlf
   have a1:=app ((lk.take i).map kr) (lD S1 i) i (hiS _ hSl)
   have a2:=app0 (h_ (i::lD S1 i).reverse) (.tup [.non,.non])
   apply aF
   ·apply a9
    apply vm
    ·(repeat' (first|with_reducible exact lj hr _|walk_at "ev1"))
    ·(walk_at "evs")
   apply aF
   ·apply a9
    apply vm
    ·(repeat' (first|with_reducible exact lj hl _|walk_at "ev1"))
    ·(walk_at "evs")
   apply aF
   ·(repeat' (first|with_reducible exact isl _ _|walk_at "ev1"))
   apply db
   ·(repeat' (first|with_reducible exact isl0 _ _|walk_at "ev1"))
   ·exact ie _ _ _ _ (i::lD S1 i) rfl
  |@l a S=>
   have hr:yH [(Pl.mk 1 m).w]=fun st=>.ok (.bl false) st:=funext hrt
   have hl:yG [(Pl.mk 1 m).w]=fun st=>.ok (.bl true) st:=funext hlf
   have hSl':S.length<=i:=by simp at hSl;omega
   have p1:=pop ((lk.take i).map kr) (lD S (i-a)) (i-1)
   have a1:=app ((lk.take i).map kr) (lD S (i-a)) i (by rw[kC];omega)
   have a2:=app0 (h_ (i::lD S (i-a)).reverse) (.tup [.int (i-1:Nat),.non])
   apply aF
   ·apply a9
    apply vm
    ·(repeat' (first|with_reducible exact lj hr _|walk_at "ev1"))
    ·(walk_at "evs")
   apply aF
   ·apply a9
    apply vk
    ·(repeat' (first|with_reducible exact lj hl _|walk_at "ev1"))
    ·exact ir kv (isl _ _) ba p1
   apply aF
   ·(repeat' (first|with_reducible exact isl _ _|walk_at "ev1"))
   apply db
   ·(repeat' (first|with_reducible exact isl0 _ _|walk_at "ev1"))
   ·exact ie _ _ _ _ (i::lD S (i-a)) (by simp only[lD];congr 1;congr 1;omega)
  |@r a S=>
   have hr:yH [(Pl.mk 2 m).w]=fun st=>.ok (.bl true) st:=funext hrt
   have hl:yG [(Pl.mk 2 m).w]=fun st=>.ok (.bl false) st:=funext fun st=>(hlf st).trans (by rw[show decide ((Pl.mk 2 m).b%2=1)=false from by simp])
   have hSl':S.length<=i:=by simp at hSl;omega
   have p1:=pop ((lk.take i).map kr) (lD S (i-a)) (i-1)
   have a1:=app ((lk.take i).map kr) (lD S (i-a)) i (by rw[kC];omega)
   have a2:=app0 (h_ (i::lD S (i-a)).reverse) (.tup [.non,.int (i-1:Nat)])
   apply aF
   ·apply a9
    apply vk
    ·(repeat' (first|with_reducible exact lj hr _|walk_at "ev1"))
    ·exact ir kv (isl _ _) ba p1
   apply aF
   ·apply a9
    apply vm
    ·(repeat' (first|with_reducible exact lj hl _|walk_at "ev1"))
    ·(walk_at "evs")
   apply aF
   ·(repeat' (first|with_reducible exact isl _ _|walk_at "ev1"))
   apply db
   ·(repeat' (first|with_reducible exact isl0 _ _|walk_at "ev1"))
   ·exact ie _ _ _ _ (i::lD S (i-a)) (by simp only[lD];congr 1;congr 1;omega)
  |@b c a S=>
   have hr:yH [(Pl.mk 3 m).w]=fun st=>.ok (.bl true) st:=funext hrt
   have hl:yG [(Pl.mk 3 m).w]=fun st=>.ok (.bl true) st:=funext fun st=>(hlf st).trans (by rw[show decide ((Pl.mk 3 m).b%2=1)=true from by simp])
   have hSl':S.length<=i:=by simp at hSl;omega
   have hca:(i-c-1)=(i-1-c):=by omega
   have p1:=pop ((lk.take i).map kr) ((i-1-c)::lD S (i-c-a)) (i-1)
   have p2:=pop ((lk.take i).map kr) (lD S (i-c-a)) (i-1-c)
   have a1:=app ((lk.take i).map kr) (lD S (i-c-a)) i (by rw[kC];omega)
   have a2:=app0 (h_ (i::lD S (i-c-a)).reverse) (.tup [.int (i-1-c:Nat),.int (i-1:Nat)])
   have ht:lD (c::a::S) i=(i-1)::(i-1-c)::lD S (i-c-a):=by simp only[lD,hca]
   rw[ht]
   apply aF
   ·apply a9
    apply vk
    ·(repeat' (first|with_reducible exact lj hr _|walk_at "ev1"))
    ·exact ir kv (isl _ _) ba p1
   apply aF
   ·apply a9
    apply vk
    ·(repeat' (first|with_reducible exact lj hl _|walk_at "ev1"))
    ·exact ir kv (isl _ _) ba p2
   apply aF
   ·(repeat' (first|with_reducible exact isl _ _|walk_at "ev1"))
   apply db
   ·(repeat' (first|with_reducible exact isl0 _ _|walk_at "ev1"))
   ·exact ie _ _ _ _ (i::lD S (i-c-a)) (by simp only[lD];congr 1;congr 1;omega)
 ·rintro ρ bF ⟨S1,o3,o4,o5,o6,rfl,rfl,hg,hi⟩
  have dU:(km (ps.map Pl.w)).length=ps.length:=by simp[km]
  have hc:(st++[al.lst ((lk.take (km (ps.map Pl.w),(none:Option (Nat×List W))).1.length).map kr),.lst (h_ (lD S1 (km (ps.map Pl.w),(none:Option (Nat×List W))).1.length).reverse)])[st.length]?=some (.lst (lk.map kr)):=by
   rw[dA]
   show some (al.lst ((lk.take (km (ps.map Pl.w)).length).map kr))=_
   rw[dU,dv #[0]]
  apply bI
  ·(repeat' (first|with_reducible exact qP (br hc)|walk_at "ev1"))
  ·exact⟨_,_,rfl,rfl,_,rfl⟩
end
theorem CI(t:List Pl)(n:Nat):(dC t).und n=true:=by
 unfold dC W.und
 induction t with
 |nil=>rfl
 |cons x r ih=>simp only[aW,undWs,ih,iL];simp[Pl.w,W.und,undWs]
theorem kS(a:List Pl)(st:List al):eW [dC a] st=.ok (.int a.length) st:=by
 unfold dC
 rw[Cp,az]
theorem DS{a:List Pl}{p:Pl}(h:a[q]?=some p)(st:List al):bH (dC a) (.int q) st=.ok p.w st:=tW (fK (by simp[h]))
theorem Lx(p:Pl)(st:List al):bH p.w (.int 1) st=.ok (.str p.m) st:=rfl
theorem PK(p:Pl)(st:List al):bH p.w (.int 0) st=.ok (.int p.b) st:=rfl
section
variable{ps:List Pl}{sz:List Nat}{lk:List #[3]}
theorem Fe(h:Gr ps S sz lk)(hn:ps.length<=1000)(st:List al):∃x,(∃A,x=[al.lst A,.lst (lk.map kr)])/\Ap [dC ps] st=.ok #[22] (st++x):=by
 obtain⟨l1,l2,_⟩:=h.ok
 suffices hh:ju (BB fun w bF=>∃j x,w=.loc (st.length+j)/\bF=st++x/\j=1/\∃A,x=[al.lst A,.lst (lk.map kr)]) (Na ([dC ps].map some++List.replicate (6-1) none) st) by
  obtain⟨j,x,⟨rfl,h1⟩,e⟩:=rZ hh
  exact⟨x,h1,e⟩
 apply aF
 ·(walk_at "evs")
 apply aF
 ·(walk_at "evs")
 rw[show(st++[al.lst []]).length=st.length+1 by simp,show st++[al.lst []]++[al.lst []]=st++[al.lst [],al.lst []] by simp]
 refine fA (fun i ρ bF=>∃(S1:List Nat) (o3 o4 o5:Option W),ρ=[some (dC ps),some #[2],some #[22],o3,o4,o5]/\bF=st++[.lst (h_ (lD S1 i).reverse),.lst ((lk.take i).map kr)]/\Gr (ps.take i) S1 (sz.take i) (lk.take i)/\i<=ps.length)
  (gX (q:=(ps.length:Int)) (st1:=st++[al.lst [],al.lst []]) (ak (cg kn (kS ps _)) ba) #[0]) ⟨[],none,none,none,rfl,rfl,.nil,bU _⟩ (fun _ _ _ _=>trivial) ?_ ?_
 ·rintro i w ρ bF hw ⟨S1,o3,o4,o5,rfl,rfl,hg,hi⟩
  obtain⟨hip,rfl⟩:=ik hw
  rw[bu]at hip
  obtain⟨S1',S2,p,k,x,g1,q1,q2,q3,hs,g2⟩:=h.step i hip
  refine⟨_,rfl,?_⟩
  have hS:=hg.det g1 rfl
  subst hS
  obtain⟨lz,ll,ha⟩:=g1.ok
  have hti:(ps.take i).length=i:=by rw[bE];omega
  rw[hti]at ha lz ll
  have hSl:=ha.le
  have hlk:lk.take (i+1)=lk.take i++[x]:=by rw[h9,q3];rfl
  have it:∀s:List al,bH (dC ps) (.int (0+(i:Int))) s=.ok p.w s:=fun s=>by rw[d7];exact DS q1 s
  have pop:∀(A:List W) (B:List Nat) (q:Nat),p9 #[2] [] (st++[.lst (h_ (q::B).reverse),.lst A])=.ok (.int q) (st++[.lst (h_ B.reverse),.lst A]):=fun A B q=>by
   have hc:(st++[al.lst (h_ (q::B).reverse),.lst A])[st.length]?=some (.lst (h_ B.reverse++[.int q])):=by rw[dA];simp[h_]
   rw[zZ hc,dN];rfl
  have isl:∀(A:List W) (B:List W),mC (st++[.lst A,.lst B]) #[22]=true:=fun A B=>dR (by rw[iP];rfl)
  have isl0:∀(A:List W) (B:List W),mC (st++[.lst A,.lst B]) #[2]=true:=fun A B=>dR (by rw[dA];rfl)
  have app:∀(A:List W) (B:List Nat),B.length<1001->bO #[2] [.int (0+(i:Int))] (st++[.lst (h_ B.reverse),.lst A])=.ok .non (st++[.lst (h_ (i::B).reverse),.lst A]):=fun A B hB=>by
   have hc:(st++[al.lst (h_ B.reverse),.lst A])[st.length]?=some (.lst (h_ B.reverse)):=by rw[dA];rfl
   rw[jY hc (by simp[h_];show _<1000000;omega),dN]
   simp[h_]
  have app1:∀(B:List W) (w:W),bO #[22] [w] (st++[.lst B,.lst ((lk.take i).map kr)])=.ok .non (st++[.lst B,.lst ((lk.take i).map kr++[w])]):=fun B w=>by
   have hc:(st++[al.lst B,.lst ((lk.take i).map kr)])[st.length+1]?=some (.lst ((lk.take i).map kr)):=by rw[iP];rfl
   rw[jY hc (by simp;show _<1000000;omega),gu];rfl
  have T1:∀(k:Bool) (ρ:cv) (s:List al),decide ((2:Int)<=(p.b:Int))=k->ρ[0]?=some (some (dC ps))->ρ[3]?=some (some (.int (0+(i:Int))))->da (e2 Q1 (e2 bH (e2 bH (af 0) (af 3)) (eI 0)) (eI 2)) ρ s=.ok k s:=fun k ρ s e h0 h3=>aR (a_ (a_ (a_ (dB h0) (dB h3) (it s)) bd (PK p s)) bd (DG e))
  have T2:∀(k:Bool) (ρ:cv) (s:List al),(((p.b:Int)%2)==1)=k->ρ[0]?=some (some (dC ps))->ρ[3]?=some (some (.int (0+(i:Int))))->da (e2 fQ (e2 iC (e2 bH (e2 bH (af 0) (af 3)) (eI 0)) (eI 2)) (eI 1)) ρ s=.ok k s:=fun k ρ s e h0 h3=>aR (a_ (a_ (a_ (a_ (dB h0) (dB h3) (it s)) bd (PK p s)) bd (fj #[1])) bd (jh e))
  have ie:∀(o3 o4 o5:Option W) (B:List Nat),i::B=lD S2 (i+1)->FB (fun ρ bF=>∃(S1:List Nat) (o3 o4 o5:Option W),ρ=[some (dC ps),some #[2],some #[22],o3,o4,o5]/\bF=st++[.lst (h_ (lD S1 (i+1)).reverse),.lst ((lk.take (i+1)).map kr)]/\Gr (ps.take (i+1)) S1 (sz.take (i+1)) (lk.take (i+1))/\i+1<=ps.length)
    (.nx [some (dC ps),some #[2],some #[22],o3,o4,o5] (st++[.lst (h_ (i::B).reverse),.lst ((lk.take i).map kr++[kr x])])):=by
   rintro o3 o4 o5 B e
   exact⟨_,_,rfl,S2,_,_,_,rfl,by rw[hlk,e];simp,g2,by omega⟩
  have put:∀(lw tt:W) (o3:Option W) (B:List Nat),o3=some (.int (0+(i:Int)))->B.length<1001->kr x=.tup [lw,tt]->i::B=lD S2 (i+1) ->
    ju (FB (fun ρ bF=>∃(S1:List Nat) (o3 o4 o5:Option W),ρ=[some (dC ps),some #[2],some #[22],o3,o4,o5]/\bF=st++[.lst (h_ (lD S1 (i+1)).reverse),.lst ((lk.take (i+1)).map kr)]/\Gr (ps.take (i+1)) S1 (sz.take (i+1)) (lk.take (i+1))/\i+1<=ps.length))
     (aX (eO (lJ bO (af 2) (ah (fP (ah (af 4) (ah (af 5) aK))) aK))) (eO (lJ bO (af 1) (ah (af 3) aK))) [some (dC ps),some #[2],some #[22],o3,some lw,some tt] (st++[.lst (h_ B.reverse),.lst ((lk.take i).map kr)])):=by
   intro lw tt o3 B e3 hB hx hT
   subst e3
   have a1:=app1 (h_ B.reverse) (.tup [lw,tt])
   have a2:=app ((lk.take i).map kr++[.tup [lw,tt]]) B hB
   have ff:=ie (some (.int (0+(i:Int)))) (some lw) (some tt) B hT
   rw[hx]at ff
   apply aF
   ·exact gy (ir kv (isl _ _) (ak (dO (ak kv kn) (ax rfl)) ba) a1)
   apply db
   ·exact gy (ir kv (isl0 _ _) kn a2)
   ·exact ff
  apply aF
  ·exact a9 bd
  apply aF
  ·exact a9 bd
  obtain⟨b,m⟩:=p
  cases hs with
  |@z=>
   apply aQ
   ·exact T1 false _ _ rfl rfl rfl
   apply aU
   apply aQ
   ·exact T2 false _ _ rfl rfl rfl
   apply aU
   exact put _ _ _ (lD S1 i) rfl (by rw[kC];omega) rfl rfl
  |@l a S=>
   apply aQ
   ·exact T1 false _ _ rfl rfl rfl
   apply aU
   apply aF
   ·exact gc (T2 true _ _ rfl rfl rfl) (a9 (ir kv (isl0 _ _) ba (pop _ (lD S (i-a)) (i-1))))
   exact put _ _ _ (lD S (i-a)) rfl (by rw[kC];simp at hSl;omega) rfl (by simp only[lD];congr 1;congr 1;omega)
  |@r a S=>
   apply aF
   ·exact gc (T1 true _ _ rfl rfl rfl) (a9 (ir kv (isl0 _ _) ba (pop _ (lD S (i-a)) (i-1))))
   apply aQ
   ·exact T2 false _ _ (by show((2:Int)%2==1)=false;decide) rfl rfl
   apply aU
   exact put _ _ _ (lD S (i-a)) rfl (by rw[kC];simp at hSl;omega) rfl (by simp only[lD];congr 1;congr 1;omega)
  |@b c a S=>
   apply aF
   ·exact gc (T1 true _ _ rfl rfl rfl) (a9 (ir kv (isl0 _ _) ba (pop _ (lD (a::S) (i-c)) (i-1))))
   apply aF
   ·exact gc (T2 true _ _ (by show((3:Int)%2==1)=true;decide) rfl rfl) (a9 (ir kv (isl0 _ _) ba (pop _ (lD S (i-c-a)) (i-c-1))))
   exact put _ _ _ (lD S (i-c-a)) rfl (by rw[kC];simp at hSl;omega) (by show W.tup [.int ((i-1-c:Nat):Int),_]=_;rw[show i-1-c=i-c-1 by omega];rfl) (by simp only[lD];congr 1;congr 1;omega)
 ·rintro ρ bF ⟨S1,o3,o4,o5,rfl,rfl,hg,hi⟩
  rw[show(fx 0 (ps.length:Int).toNat,(none:Option (Nat×List W))).fst.length=lk.length by rw[l2];simp[fJ],eN]
  apply bI
  ·(walk_at "evs")
  ·exact⟨_,_,rfl,1,_,rfl,rfl,rfl,_,rfl⟩
end
theorem DT{s:List al}{p:Nat}{c:al}(h:st <+: s)(hp:st.length<=p):st <+: s.set p c:=by
 obtain⟨x,rfl⟩:=h
 rw[show p=st.length+(p-st.length) by omega,gu]
 exact bR _ _
theorem DU{s y:List al}(h:st <+: s):st <+: s++y:=h.trans (bR _ _)
theorem x_{s:List al}{c:al}(h:st <+: s)(e:st[i]?=some c):s[i]?=some c:=by
 obtain⟨x,rfl⟩:=h
 exact cH e
theorem yI{s:List al}{p:Nat}{c d:al}(h:s[p]?=some d):(s.set p c)[p]?=some c:=by
 rw[bQ (aj.mp h).1]
theorem CJ{s:List al}{p:Nat}{c:al}(h:p≠q):(s.set p c)[q]?=s[q]?:=ce h
theorem bP{s:List al}{c:al}:(s++[c])[s.length]?=some c:=by rw[dA];rfl
def on(l:List Int):List W:=l.map W.int
theorem uC{s:List al}{p:Nat}{d:Int}(h:s[p]?=some (.lst (on ds)))(e:ds[i]?=some d):bH (.loc p) (.int i) s=.ok (.int d) s:=gW (br h) (fK (by rw[on,aG,e];rfl))
theorem IA(h:lstOf st n=some (ls.map W.str))(hl:ls.length<64):oM [.loc n] st=.ok #[2] (st++[.lst ((lL ls).map W.str)]):=by
 show pN [.loc n] st=_
 unfold pN
 simp only[h,dY,wP]
 rw[aC hl]
theorem Av{a b:List (List Nat)}(h:a.Perm b):(a.map List.length).sum=(b.map List.length).sum:=by
 induction h with
 |nil=>rfl
 |cons x _ ih=>simp only[aW,jS,ih]
 |swap x y l=>simp only[aW,jS];omega
 |trans _ _ ih1 ih2=>rw[ih1,ih2]
theorem mG(l:List Nat):(((l.map fun c=>[c])).map List.length).sum=l.length:=by
 induction l with
 |nil=>rfl
 |cons a r ih=>simp only[aW,jS,eM,ih,gY];omega
def DV(l:List Nat):List Nat:=kM [] (lL (l.map fun c=>[c]))
theorem DW(l:List Nat):(DV l).length=l.length:=by
 unfold DV;rw[mz,List.length_flatten,Av (iX _),mG]
theorem vy(l:List Nat):(DV l).Perm l:=by
 unfold DV;rw[mz]
 have h:(lL (l.map fun c=>[c])).flatten.Perm (l.map fun c=>[c]).flatten:=(iX _).flatten
 refine h.trans (.of_eq ?_)
 induction l with
 |nil=>rfl
 |cons a r ih=>
  have ih':=ih ((iX _).flatten)
  simp only[aW,lY,ih',List.cons_append,iT]
theorem DY{s1:List al}(h:fe ρ st=.ok (.loc n) s1)(hc:lstOf s1 n=some ((l.map fun c=>[c]).map W.str))(hl:l.length<64) :
  BA kj (eC (.str [])) (ah (cr oM (ah fe aK)) aK) ρ st=.ok (.str (DV l)) (s1++[.lst ((lL (l.map fun c=>[c])).map W.str)]):=by
 have hs:=IA hc (by simpa using hl)
 have hcell2:lstOf (s1++[al.lst ((lL (l.map fun c=>[c])).map W.str)]) s1.length=some ((lL (l.map fun c=>[c])).map W.str):=br bP
 have hj:=vo (sep:=[]) hcell2 (by rw[Av (iX _),mG];show _<=1000000;simp;omega)
 exact zX bd rfl (ak (cg (ak h ba) hs) ba) hj
section
variable{fs:FA}
end
theorem tK(h:c<=100):oE (.int 1) (.int c) st=.ok (.int ((2^c:Nat):Int)) st:=by
 have:=fj (C:=fun i j=>0<=j/\j<=1000000/\i.natAbs<2^64) (f:=fun i j=>i*2^j.toNat) (p:=1) (q:=(c:Int)) (st:=st) ⟨by omega,by omega,by decide⟩
 rw[show oE (.int 1) (.int c) st=_ from this]
 simp
theorem PL{s:List al}{p:Nat}{y:W}(h:s[p]?=some (.lst ws))(hl:ws.length<1000000):bO (.loc p) [y] s=.ok .non (s.set p (.lst (ws++[y]))):=jY h hl
theorem PM(h:q<n):By n (q:Int)=some q:=by
 unfold By
 rw[aC #[0],aC #[0]];simp
theorem CK{s:List al}{p q:Nat}{v:W}(h:s[p]?=some (.lst ws))(hq:q<ws.length):lI (.loc p) (.int q) v s=some (s.set p (.lst (ws.set q v))):=Hb h (PM hq)
def nW(l:List Nat):List W:=l.map fun k=>W.int (k:Nat)
theorem Nj{s:List al}{p:Nat}{k:Nat}(h:s[p]?=some (.lst (nW l)))(e:l[i]?=some k):bH (.loc p) (.int i) s=.ok (.int k) s:=gW (br h) (fK (by rw[nW,aG,e];rfl))
theorem IB{f:FG}{ρ':cv}{w:W}(h:fe ρ st=.ok w st1)(h2:f w ρ=some ρ'):E2 fe f ρ st=.nx ρ' st1:=by
 unfold E2;rw[h];simp only[R.stmt_ok];rw[h2]
theorem vz:mR false (.str [c]) (.str l) st=.ok (.bl (decide (c∈l))) st:=rfl
theorem uD(h:fe ρ st=.ok (.str l) st1):dz fe ρ st=.ok (dG l,none) st1:=by unfold dz;rw[h];rfl
theorem IC{w:W}(h:(dG l)[i]?=some w):∃c,l[i]?=some c/\w=.str [c]:=by
 simp only[dG,aG,b9]at h
 obtain⟨c,h1,rfl⟩:=h
 exact⟨c,h1,rfl⟩
theorem pS(l:List Nat):(dG l).length=l.length:=by simp[dG]
theorem pT{l:List α}{c:α}(h:l[i]?=some c):l.take (i+1)=l.take i++[c]:=by
 rw[List.take_succ,h];rfl
def Vm(n:Nat)(x:Option Nat×Option Nat):Prop:=(∀k,x.1=some k->k<n)/\∀k,x.2=some k->k<n
theorem Gr.lk{ps:List Pl}{sz:List Nat}{lk:List #[3]}(h:Gr ps S sz lk){x:Option Nat×Option Nat}(hx:lk[i]?=some x):Vm i x:=by
 obtain⟨_,l2,_⟩:=h.ok
 have hi:i<ps.length:=by have:=(aj.mp hx).1;omega
 obtain⟨S1,S2,p,k,x',g1,q1,q2,q3,hs,g2⟩:=h.step i hi
 rw[hx]at q3;cases q3
 obtain⟨_,_,ha⟩:=g1.ok
 rw[show(ps.take i).length=i by rw[bE];omega]at ha
 obtain⟨b,m⟩:=p
 cases hs with
 |z=>exact⟨fun k e=>by simp at e,fun k e=>by simp at e⟩
 |@l a S=>have:=ha.2.1;have:=ha.2.2.1;exact⟨fun k e=>by simp at e;omega,fun k e=>by simp at e⟩
 |@r a S=>have:=ha.2.1;have:=ha.2.2.1;exact⟨fun k e=>by simp at e,fun k e=>by simp at e;omega⟩
 |@b c a S=>have:=ha.2.1;have:=ha.2.2.1;exact⟨fun k e=>by simp at e;omega,fun k e=>by simp at e;omega⟩
def lo(sz:List Nat)(i:Nat):Nat:=i+1-sz.getD i 0
structure PN(sz:List Nat)(lk:List #[3])(i L R:Nat):Prop where
 s:sz.getD i 0=1+L+R
 le:L+R<=i
 l0:L=0->(lk.getD i (none,none)).1=none
 l1:0<L->(lk.getD i (none,none)).1=some (i-1-R)/\sz.getD (i-1-R) 0=L
 r0:R=0->(lk.getD i (none,none)).2=none
 r1:0<R->(lk.getD i (none,none)).2=some (i-1)/\sz.getD (i-1) 0=R
theorem gO{l:List α}{x d:α}(h:l[i]?=some x):l.getD i d=x:=by rw[aT,h];rfl
theorem ID{ps:List Pl}{sz:List Nat}{lk:List #[3]}(h:Gr ps S sz lk)(hi:i<ps.length):∃L R,PN sz lk i L R:=by
 obtain⟨S1,S2,p,k,x,g1,q1,q2,q3,hs,_⟩:=h.step i hi
 obtain⟨l1,l2,ha⟩:=g1.ok
 have dU:(ps.take i).length=i:=by rw[bE];omega
 rw[dU]at ha
 have get:∀j a,j<i->(sz.take i)[j]?=some a->sz.getD j 0=a:=fun j a hj e=>by
  rw[c8 hj]at e;exact gO e
 have hz:sz.getD i 0=k:=gO q2
 have hx:lk.getD i (none,none)=x:=gO q3
 obtain⟨b,m⟩:=p
 cases hs with
 |z=>exact⟨0,0,⟨hz,by omega,fun _=>by rw[hx],fun z=>absurd z (by omega),fun _=>by rw[hx],fun z=>absurd z (by omega)⟩⟩
 |@l a S=>
  have ha2:a<=i:=ha.2.1
  have ha3:1<=a:=ha.2.2.1
  exact⟨a,0,⟨hz,by omega,fun z=>absurd z #[0],fun _=>⟨by rw[hx];rfl,get _ _ #[0] ha.1⟩,fun _=>by rw[hx],fun z=>absurd z #[0]⟩⟩
 |@r a S=>
  have ha2:a<=i:=ha.2.1
  have ha3:1<=a:=ha.2.2.1
  exact⟨0,a,⟨by rw[hz],by omega,fun _=>by rw[hx],fun z=>absurd z #[0],fun z=>absurd z #[0],fun _=>⟨by rw[hx],get _ _ #[0] ha.1⟩⟩⟩
 |@b c a S=>
  have ha2:c<=i:=ha.2.1
  have ha3:1<=c:=ha.2.2.1
  have hb2:a<=i-c:=ha.2.2.2.2.1
  have hb3:1<=a:=ha.2.2.2.2.2.1
  have hb1:(sz.take i)[i-c-1]?=some a:=ha.2.2.2.1
  exact⟨a,c,⟨by rw[hz];omega,by omega,fun z=>absurd z #[0],fun _=>⟨by rw[hx],get (i-1-c) a #[0] (by rw[show i-1-c=i-c-1 by omega];exact hb1)⟩,fun z=>absurd z #[0],fun _=>⟨by rw[hx],get _ _ #[0] ha.1⟩⟩⟩
section
variable{ps:List Pl}{sz:List Nat}{lk:List #[3]}{L R:Nat}
theorem PN.lo_i(c:PN sz lk i L R):lo sz i=i-R-L:=by unfold lo;rw[c.s];have:=c.le;omega
theorem PN.lo_l(c:PN sz lk i L R)(h:0<L):lo sz (i-1-R)=i-R-L:=by unfold lo;rw[(c.l1 h).2];have:=c.le;omega
theorem PN.lo_r(c:PN sz lk i L R)(h:0<R):lo sz (i-1)=i-R:=by unfold lo;rw[(c.r1 h).2];have:=c.le;omega
theorem Nk(h:Gr ps S sz lk):∀(i:Nat),i<ps.length->∀k,lo sz i<=k->k<=i->lo sz i<=lo sz k:=by
 intro i
 induction i using Nat.strongRecOn with
 |_ i ih=>
  intro hi k h1 h2
  obtain⟨L,R,c⟩:=ID h hi
  have js:=c.le
  rw[c.lo_i]at h1 ⊢
  by_cases e:k=i
  ·subst e;rw[c.lo_i];exact ay _
  ·by_cases hr:i-R<=k
   ·have hR:0<R:=by omega
    have:=ih (i-1) #[0] #[0] k (by rw[c.lo_r hR];exact hr) #[0]
    rw[c.lo_r hR]at this
    omega
   ·have hL:0<L:=by omega
    have:=ih (i-1-R) #[0] #[0] k (by rw[c.lo_l hL];exact h1) #[0]
    rw[c.lo_l hL]at this
    exact this
end
structure Wr(sz:List Nat)(i:Nat)(x y:Option Nat):Prop where
 cov:∀j,lo sz i<=j->j<i->(∃t,x=some t/\lo sz t<=j/\j<=t)\/∃t,y=some t/\lo sz t<=j/\j<=t
 bx:∀t,x=some t->lo sz i<=lo sz t/\lo sz t<=t/\t<i
 by':∀t,y=some t->lo sz i<=lo sz t/\lo sz t<=t/\t<i
 dis:∀t u,x=some t->y=some u->∀j,lo sz t<=j->j<=t->lo sz u<=j->j<=u->False
theorem yJ{ps:List Pl}{sz:List Nat}{lk:List #[3]}(h:Gr ps S sz lk)(hi:i<ps.length):Wr sz i (lk.getD i (none,none)).1 (lk.getD i (none,none)).2:=by
 obtain⟨L,R,c⟩:=ID h hi
 have js:=c.le
 have xl:∀t,(lk.getD i (none,none)).1=some t->0<L/\t=i-1-R:=fun t e=>by
  rcases ln L with z|z
  ·rw[c.l0 z]at e;cases e
  ·rw[(c.l1 z).1]at e;exact⟨z,(bn e).symm⟩
 have xr:∀t,(lk.getD i (none,none)).2=some t->0<R/\t=i-1:=fun t e=>by
  rcases ln R with z|z
  ·rw[c.r0 z]at e;cases e
  ·rw[(c.r1 z).1]at e;exact⟨z,(bn e).symm⟩
 refine⟨fun j h1 h2=>?_,fun t e=>?_,fun t e=>?_,fun t u e1 e2 j a1 a2 a3 a4=>?_⟩
 ·rw[c.lo_i]at h1
  by_cases hr:i-R<=j
  ·have z:0<R:=by omega
   exact .inr ⟨i-1,(c.r1 z).1,by rw[c.lo_r z];exact hr,by omega⟩
  ·have z:0<L:=by omega
   exact .inl ⟨i-1-R,(c.l1 z).1,by rw[c.lo_l z];exact h1,by omega⟩
 ·obtain⟨z,rfl⟩:=xl t e
  rw[c.lo_i,c.lo_l z];omega
 ·obtain⟨z,rfl⟩:=xr t e
  rw[c.lo_i,c.lo_r z];omega
 ·obtain⟨z1,rfl⟩:=xl t e1
  obtain⟨z2,rfl⟩:=xr u e2
  rw[c.lo_l z1]at a1
  rw[c.lo_r z2]at a3
  omega
def vl(rm:Nat->Nat):Option Nat->Nat
 |none=>0
 |some t=>rm t
def Nl(l r:Nat)(A B:Bool):Nat:=if l=2\/r≠0\/(l=1/\B=false)then 2 else if A then 1 else 0
def Ws(k:Nat)(l r:Nat)(A B:Bool):Nat:=match k with
 |0=>if l=1\/r=1\/(A=true/\B=false)then 1 else 0
 |1=>if 2<l+r+(if A then 1 else 0)then 2 else l+r+(if A then 1 else 0)
 |2=>Nl l r A B
 |3=>Nl r l A B
 |_=>if A=true\/(B=false/\(l=1\/r=1))then 1 else 0
section
variable{ps:List Pl}{sz:List Nat}{lk:List #[3]}{A B:Nat->Bool}{rm:Nat->Nat}
abbrev lx(lk:List #[3])(i:Nat):Option Nat:=(lk.getD i (none,none)).1
abbrev ly(lk:List #[3])(i:Nat):Option Nat:=(lk.getD i (none,none)).2
end
section
variable{ps:List Pl}{sz:List Nat}{lk:List #[3]}{A B:Nat->Bool}{rm:Nat->Nat}
def vX(A:Nat->Bool)(a n:Nat):Nat:=(List.range' a n).countP fun j=>A j
theorem pU(A:Nat->Bool)(a n m:Nat):vX A a (n+m)=vX A a n+vX A (a+n) m:=by
 unfold vX
 rw[<- List.countP_append]
 congr 1
 have:=List.range'_append (s:=a) (m:=n) (n:=m) (step:=1)
 rw[Nat.one_mul]at this
 exact this.symm
theorem uE(A:Nat->Bool)(a:Nat):vX A a 1=if A a=true then 1 else 0:=by
 unfold vX
 simp[List.countP_cons]
abbrev bt(x j:Nat):Bool:=x.testBit j
theorem IE{x y:Nat}:(x &&& y=x)↔∀j,bt x j=true->bt y j=true:=by
 constructor
 ·intro h j hj
  rw[<- h]at hj
  unfold bt at hj ⊢
  rw[nY,cO]at hj
  exact hj.2
 ·intro h
  refine j8 fun j=>?_
  rw[nY]
  cases hj:x.testBit j with
  |false=>rfl
  |true=>exact h j hj
theorem Aw{x:Nat}(WD:i<j)(h1:bt x i=true)(h2:bt x j=true):x &&& (x-1)≠0:=by
 have hm:0<x%2^j:=by
  rcases ln (x%2^j)with z|z
  ·have:(x%2^j).testBit i=true:=by rw[Nat.testBit_mod_two_pow,aN WD];exact h1
   rw[z,dP]at this;cases this
  ·exact z
 have hq:(x-1)/2^j=x/2^j:=by
  have hp:0<2^j:=Nat.two_pow_pos j
  have e:=Nat.div_add_mod x (2^j)
  have hlt:=nC x hp
  refine(Nat.div_eq_iff hp).mpr ?_
  generalize x/2^j=q at e
  generalize x%2^j=r at e hm hlt
  generalize 2^j=p at e hlt hp
  have e2:q*p=p*q:=nF _ _
  omega
 intro z
 have hb:(x &&& (x-1)).testBit j=true:=by
  rw[nY,show x.testBit j=true from h2]
  have:(x-1).testBit j=x.testBit j:=by
   rw[f_,f_,hq]
  rw[this,show x.testBit j=true from h2];rfl
 rw[z,dP]at hb;cases hb
theorem Ly{x i:Nat}(h:∀j,bt x j=true↔j=i):x≠0/\x &&& (x-1)=0:=by
 have e:x=2^i:=j8 fun j=>by
  rw[Nat.testBit_two_pow]
  cases hj:x.testBit j with
  |true=>exact(aN ((h j).mp hj).symm).symm
  |false=>
   refine(aI fun z=>?_).symm
   have:=(h j).mpr z.symm
   rw[show bt x j=x.testBit j from rfl,hj]at this;cases this
 subst e
 refine⟨eP (Nat.two_pow_pos i),?_⟩
 rw[Nat.and_two_pow_sub_one_eq_mod,Nat.mod_self]
theorem IF{x n:Nat}{A:Nat->Bool}(h:∀j,bt x j=true↔j<n/\A j=true):(decide (x≠0)&&decide (x &&& (x-1)=0))=decide (vX A 0 n=1):=by
 rw[cF,cO,f9,f9,f9]
 have cz:∀{a m:Nat},(∀j,a<=j->j<a+m->A j=false)->vX A a m=0:=fun{a m} hz=>by
  unfold vX
  rw[List.countP_eq_zero]
  intro j hj
  rw[lZ]at hj
  rw[hz j hj.1 hj.2];simp
 have cp:∀{a m j:Nat},a<=j->j<a+m->A j=true->0<vX A a m:=fun{a m j} h1 h2 h3=>by
  unfold vX
  rw[List.countP_pos_iff]
  exact⟨j,lZ.mpr ⟨h1,h2⟩,h3⟩
 constructor
 ·rintro⟨h0,h1⟩
  obtain⟨i,hi⟩:∃i,x.testBit i=true:=Nat.exists_testBit_of_ne_zero h0
  obtain⟨hin,hA⟩:=(h i).mp hi
  have only:∀j,j<n->A j=true->j=i:=fun j hj hAj=>by
   rcases jp j i with z|z|z
   ·exact absurd h1 (Aw z ((h j).mpr ⟨hj,hAj⟩) hi)
   ·exact z
   ·exact absurd h1 (Aw z hi ((h j).mpr ⟨hj,hAj⟩))
  have e:n=i+(1+(n-i-1)):=by omega
  rw[e,pU,pU,dy,uE,aC hA]
  rw[cz fun j _ hj=>?_,cz fun j hj1 hj2=>?_]
  ·cases hAj:A j with
   |false=>rfl
   |true=>have:=only j (by omega) hAj;omega
  ·cases hAj:A j with
   |false=>rfl
   |true=>have:=only j (by omega) hAj;omega
 ·intro hc
  obtain⟨i,hin,hA⟩:∃i,i<n/\A i=true:=by
   have:0<vX A 0 n:=by omega
   unfold vX at this
   rw[List.countP_pos_iff]at this
   obtain⟨j,hj,hAj⟩:=this
   rw[lZ]at hj
   exact⟨j,by omega,hAj⟩
  have only:∀j,j<n->A j=true->j=i:=fun j hj hAj=>by
   have e:n=i+(1+(n-i-1)):=by omega
   rw[e,pU,pU,dy,uE,aC hA]at hc
   rcases jp j i with z|z|z
   ·have:=cp (a:=0) (m:=i) (bU j) #[0] hAj;omega
   ·exact z
   ·have:=cp (a:=i+1) (m:=n-i-1) (j:=j) #[0] #[0] hAj;omega
  exact Ly (i:=i) fun j=>⟨fun hj=>only j ((h j).mp hj).1 ((h j).mp hj).2,fun e=>by subst e;exact(h j).mpr ⟨hin,hA⟩⟩
end
theorem Lz(a b:Nat):Builtin.bitOr (a:Int) (b:Int)=((a ||| b:Nat):Int):=by
 have hn:∀x:Nat,decide (0<=Builtin.bitNot (x:Int))=false:=fun x=>aI (by unfold Builtin.bitNot;omega)
 have hnn:∀x:Nat,(Builtin.bitNot (Builtin.bitNot (x:Int))).toNat=x:=fun x=>by unfold Builtin.bitNot;omega
 unfold Builtin.bitOr Builtin.bitAnd
 rw[hn,hn]
 simp only[hnn]
 unfold Builtin.bitNot;omega
theorem IG(a b:Nat):Builtin.bitAnd (a:Int) (b:Int)=((a &&& b:Nat):Int):=by
 unfold Builtin.bitAnd
 rw[aN #[0],aN #[0]]
 rfl
theorem xg{a b:Nat}:p_ (.int (a:Nat)) (.int (b:Nat)) st=.ok (.int ((a ||| b:Nat):Int)) st:=by rw[<- Lz];exact fj trivial
theorem IH{a b:Nat}:oF (.int (a:Nat)) (.int (b:Nat)) st=.ok (.int ((a &&& b:Nat):Int)) st:=by rw[<- IG];exact fj trivial
theorem xh(a b j:Nat):bt (a ||| b) j=(bt a j||bt b j):=Nat.testBit_or a b j
theorem oY(k j:Nat):bt (2^k) j=decide (k=j):=Nat.testBit_two_pow
theorem II{k k':DK}{v:W}(h:k'≠k):kR (kvs.map fun p=>if p.1=k then(p.1,v)else p) k'=kR kvs k':=by
 unfold kR
 induction kvs with
 |nil=>rfl
 |cons p r ih=>
  rw[aW,dr,dr]
  by_cases e:p.1=k
  ·rw[aC e,aI (fun z=>h (by rw[<- z,e]))]
   exact ih
  ·rw[aJ e]
   by_cases e2:p.1=k'
   ·rw[aN e2]
   ·rw[aI e2];exact ih
theorem vA{k k':DK}{v:W}:kR (kz kvs k v) k'=if k'=k then some v else kR kvs k':=by
 by_cases e:k'=k
 ·subst e
  rw[aC rfl]
  unfold kz
  by_cases h:(kvs.any fun p=>decide (p.1=k'))=true
  ·rw[aC h]
   unfold kR
   induction kvs with
   |nil=>simp at h
   |cons p r ih=>
    rw[aW,dr]
    by_cases e:p.1=k'
    ·rw[aC e,aN e];rfl
    ·rw[aJ e,aI e]
     refine ih ?_
     rw[mv,aI e,mx]at h
     exact h
  ·rw[aJ h]
   unfold kR
   rw[List.find?_append]
   have:kvs.find? (fun p=>decide (p.1=k'))=none:=by
    rw[List.find?_eq_none]
    intro p hp z
    exact h (io.mpr ⟨p,hp,z⟩)
   rw[this]
   simp
 ·rw[aJ e]
  unfold kz
  split
  ·exact II e
  ·unfold kR
   rw[List.find?_append]
   cases hf:kvs.find? (fun p=>decide (p.1=k'))with
   |some p=>rfl
   |none=>simp[Ne.symm e]
theorem vB{kvs:List (DK×W)}{k:DK}{v:W}:(kz kvs k v).length<=kvs.length+1:=by
 unfold kz;split<;>simp
def uF(ps:List Pl)(j:Nat):List Nat:=(ps[j]?.map Pl.m).getD []
def IJ(kvs:List (DK×W))(P:Nat->Nat->Prop):Prop:=∀c,∃x:Nat,(kR kvs (.s [c])).getD (.int 0)=.int (x:Nat)/\∀j,bt x j=true↔P c j
theorem LA{ps:List Pl}(hl:ps.length<=100)(hm:∀p∈ps,p.m.length<=4)(st:List al):∃kvs,kvs.length<=400/\IJ kvs (fun c j=>j<ps.length/\c∈uF ps j)/\Ar [dC ps] st=.ok #[2] (st++[.dct kvs]):=by
 suffices hh:ju (BB fun w bF=>∃j x,w=.loc (st.length+j)/\bF=st++x/\j=0/\∃kvs,x=[.dct kvs]/\kvs.length<=400/\IJ kvs (fun c j=>j<ps.length/\c∈uF ps j)) (Nc ([dC ps].map some++List.replicate (4-1) none) st) by
  obtain⟨j,x,⟨rfl,kvs,rfl,h0,h1⟩,e⟩:=rZ hh
  exact⟨kvs,h0,h1,e⟩
 refine aF (a9 (w:=.loc st.length) (st1:=st++[.dct []]) rfl) ?_
 refine fA (fun i ρ s=>∃(kvs:List (DK×W)) (o2 o3:Option W),ρ=[some (dC ps),some #[2],o2,o3]/\s=st++[.dct kvs]/\kvs.length<=i*4/\IJ kvs (fun c j=>j<i/\c∈uF ps j))
  (gX (q:=(ps.length:Int)) (st1:=st++[.dct []]) (ak (cg kn (kS ps _)) ba) #[0]) ⟨[],none,none,rfl,rfl,by simp,fun c=>⟨0,rfl,fun j=>⟨fun z=>(by rw[show bt 0 j=false from dP j]at z;cases z),fun z=>absurd z.1 #[0]⟩⟩⟩ (fun _ _ _ _=>trivial) ?_ ?_
 ·rintro i w ρ s hw ⟨kvs0,o2,o3,rfl,rfl,dU,hmk⟩
  obtain⟨hi,rfl⟩:=ik hw
  rw[bu]at hi
  obtain⟨p,hp⟩:∃p,ps[i]?=some p:=⟨_,aq hi⟩
  have hpm:p.m.length<=4:=hm p (bC hp)
  have hmp:uF ps i=p.m:=by unfold uF;rw[hp];rfl
  refine⟨_,rfl,?_⟩
  have it:∀s:List al,bH (dC ps) (.int (0+(i:Int))) s=.ok p.w s:=fun s=>by rw[d7];exact DS hp s
  have hsig:dz (e2 bH (e2 bH (af 0) (af 2)) (eI 1)) [some (dC ps),some #[2],some (.int (0+(i:Int))),o3] (st++[.dct kvs0])=.ok (dG p.m,none) (st++[.dct kvs0]):=uD (a_ (a_ kv kv (it _)) bd rfl)
  obtain⟨ρ2,s2,e,kvs,o3',rfl,rfl,hlen2,hmk2⟩:=rV (f:=g8 3) (body:=p8 (af 1) (af 3) (e2 p_ (na (af 1) (af 3) (eI 0)) (e2 oE (eI 1) (af 2))) mD) (ck:=none)
   (fun t ρ s=>∃(kvs:List (DK×W)) (o3:Option W),ρ=[some (dC ps),some #[2],some (.int (0+(i:Int))),o3]/\s=st++[.dct kvs]/\kvs.length<=i*4+t/\IJ kvs (fun c j=>(j<i/\c∈uF ps j)\/(j=i/\c∈p.m.take t))) (ws:=dG p.m) (ρ:=[some (dC ps),some #[2],some (.int (0+(i:Int))),o3]) (st:=st++[.dct kvs0]) 0
   ⟨kvs0,o3,rfl,rfl,by omega,fun c=>by
    obtain⟨x,h1,h2⟩:=hmk c
    exact⟨x,h1,fun j=>by rw[h2 j];simp⟩⟩ (fun _ _ _ _=>trivial) (fun t w ρ s hw hI=>by
    rw[dy]at hI ⊢
    obtain⟨kvs,o3,rfl,rfl,Kf,hm2⟩:=hI
    obtain⟨c,hc,rfl⟩:=IC hw
    have ht:t<p.m.length:=(aj.mp hc).1
    obtain⟨x,hx,hxb⟩:=hm2 c
    have dI:(st++[al.dct kvs])[st.length]?=some (.dct kvs):=bP
    have hg:na (af 1) (af 3) (eI 0) [some (dC ps),some #[2],some (.int (0+(i:Int))),some (.str [c])] (st++[.dct kvs])=.ok (.int (x:Nat)) (st++[.dct kvs]):=by
     have hd:ko (st++[al.dct kvs]) #[2]=some (st.length,kvs):=by simp only[ko,dI]
     unfold na
     rw[dB (w:=.loc st.length) rfl]
     simp only[R.bind_ok,hd]
     rw[dB (w:=.str [c]) rfl]
     simp only[R.bind_ok,eC]
     rw[hd]
     show R.ok ((kR kvs (DK.s [c])).getD (.int 0)) _=_
     rw[hx]
    have hsh:oE (.int 1) (.int (0+(i:Int))) (st++[al.dct kvs])=.ok (.int ((2^i:Nat):Int)) (st++[.dct kvs]):=by rw[d7];exact tK #[0]
    refine⟨_,_,_,rfl,oP (v:=.int ((x ||| 2^i:Nat):Int)) (a_ hg (a_ bd kv hsh) xg) kv kv (st4:=st++[.dct (kz kvs (.s [c]) (.int ((x ||| 2^i:Nat):Int)))]) ?_,kz kvs (.s [c]) (.int ((x ||| 2^i:Nat):Int)),some (.str [c]),rfl,rfl,by have:=vB (kvs:=kvs) (k:=.s [c]) (v:=.int ((x ||| 2^i:Nat):Int));omega,fun c'=>?_⟩
    ·unfold mD
     have hd:zS (st++[al.dct kvs]) #[2]=some (st.length,kvs):=by simp only[zS,dI]
     rw[hd]
     show(if kvs.length<kN then some ((st++[al.dct kvs]).set st.length (.dct (kz kvs (DK.s [c]) _)))else none)=_
     rw[aC (show kvs.length<1000000 by have:i*4<=99*4:=Nat.mul_le_mul_right _ #[0];omega),dN]
     rfl
    ·rw[vA]
     by_cases ec:c'=c
     ·subst ec
      rw[aC rfl]
      refine⟨x ||| 2^i,rfl,fun j=>?_⟩
      rw[xh,oY,d_,f9,hxb j,pT hc]
      simp only[bg,aV]
      constructor
      ·rintro((a|⟨a,b⟩)|a)
       ·exact .inl a
       ·exact .inr ⟨a,.inl b⟩
       ·exact .inr ⟨a.symm,.inr trivial⟩
      ·rintro(a|⟨a,b|_⟩)
       ·exact .inl (.inl a)
       ·exact .inl (.inr ⟨a,b⟩)
       ·exact .inr a.symm
     ·rw[aJ (fun z=>ec (by injection z with z;exact(List.cons.inj z).1))]
      obtain⟨y,h1,h2⟩:=hm2 c'
      refine⟨y,h1,fun j=>?_⟩
      rw[h2 j,pT hc]
      simp only[bg,aV]
      constructor
      ·rintro(a|⟨a,b⟩)
       ·exact .inl a
       ·exact .inr ⟨a,.inl b⟩
      ·rintro(a|⟨a,b|b⟩)
       ·exact .inl a
       ·exact .inr ⟨a,b⟩
       ·exact absurd b ec)
  refine⟨_,_,(ux hsig).trans e,kvs,_,_,rfl,rfl,?_,fun c=>?_⟩
  ·rw[pS]at hlen2
   rw[Nat.succ_mul];omega
  ·obtain⟨x,h1,h2⟩:=hmk2 c
   refine⟨x,h1,fun j=>?_⟩
   rw[h2 j,dy,pS,eN]
   constructor
   ·rintro(a|⟨rfl,b⟩)
    ·exact⟨by omega,a.2⟩
    ·exact⟨by omega,by rw[hmp];exact b⟩
   ·rintro⟨a,b⟩
    by_cases e:j=i
    ·subst e;rw[hmp]at b;exact .inr ⟨rfl,b⟩
    ·exact .inl ⟨by omega,b⟩
 ·rintro ρ s ⟨kvs,o2,o3,rfl,rfl,dU,hmk⟩
  rw[show(fx 0 (ps.length:Int).toNat,(none:Option (Nat×List W))).fst.length=ps.length by simp[fJ]]at hmk dU
  exact bI kv ⟨_,_,rfl,0,_,rfl,rfl,rfl,kvs,rfl,by omega,hmk⟩
theorem sZ{s s1:List al}{k:Nat}(h:fe ρ s=.ok (.int (k:Nat)) s1):da (iB fe) ρ s=.ok true s1:=aR (jg h rfl)
theorem s9{s s1:List al}(h:fe ρ s=.ok .non s1):da (iB fe) ρ s=.ok false s1:=aR (jg h rfl)
section
variable{ps:List Pl}{sz:List Nat}{lk:List #[3]}
def TC(sz:List Nat)(u:Nat->Nat)(k:Nat):Prop:=∀j,bt (u k) j=true↔lo sz k<=j/\j<k
def Ax(u:Nat->Nat)(b:Nat):Option Nat->Nat
 |none=>b
 |some t=>b ||| u t ||| 2^t
theorem DZ{us:List Nat}{p:Nat}(hc:st[p]?=some (.lst (nW us)))(hn:us.length=n)(o:Option Nat)(ho:∀t,o=some t->t<n)(We:n<=100)(h1:ρ[1]?=some (some (.loc p)))(hq:ρ[q]?=some (some (oW o)))(b:Nat)(h4:ρ[4]?=some (some (.int (b:Nat))))(WH:q≠4) :
  fD (da (iB (af q))) (b6 4 (e2 p_ (e2 p_ (af 4) (e2 bH (af 1) (af q))) (e2 oE (eI 1) (af q)))) b_ ρ st=.nx (ρ.set 4 (some (.int ((Ax (fun t=>us.getD t 0) b o:Nat):Int)))) st:=by
 cases o with
 |none=>
  rw[fz (s9 (dB hq)) rfl]
  show RS.nx ρ st=_
  congr 1
  refine(d6 fun j=>?_)
  by_cases e:4=j
  ·subst e
   rw[bQ (aj.mp h4).1,h4];rfl
  ·rw[ce e]
 |some t=>
  have ht:=ho t rfl
  have hg:us[t]?=some (us.getD t 0):=by rw[aT,aq #[0]];rfl
  refine gc (sZ (dB hq)) (a9 (a_ (a_ (dB h4) (a_ (dB h1) (dB hq) (Nj hc hg)) xg) (a_ bd (dB hq) (tK #[0])) xg))
theorem IK(h:Gr ps S sz lk)(hl:ps.length<=100){p:Nat}(hp:st[p]?=some (.lst (lk.map kr))):∃us:List Nat,us.length=ps.length/\(∀k,k<ps.length->TC sz (fun k=>us.getD k 0) k)/\Aq [.loc p] st=.ok #[2] (st++[.lst (nW us)]):=by
 obtain⟨l1,l2,_⟩:=h.ok
 suffices hh:ju (BB fun w bF=>∃j x,w=.loc (st.length+j)/\bF=st++x/\j=0/\∃us:List Nat,x=[.lst (nW us)]/\us.length=ps.length/\(∀k,k<ps.length->TC sz (fun k=>us.getD k 0) k)) (Nb ([W.loc p].map some++List.replicate (5-1) none) st) by
  obtain⟨j,x,⟨rfl,us,rfl,h1,h2⟩,e⟩:=rZ hh
  exact⟨us,h1,h2,e⟩
 apply aF
 ·(walk_at "evs")
 refine fA (fun i ρ s=>∃(us:List Nat) (o2 o3 o4:Option W),ρ=[some (.loc p),some #[2],o2,o3,o4]/\s=st++[.lst (nW us)]/\us.length=i/\∀k,k<i->TC sz (fun k=>us.getD k 0) k) (k:=(lk.map kr,some (p,lk.map kr))) (st1:=st++[.lst []])
  (pR kv (br (cH hp))) ⟨[],none,none,none,rfl,rfl,rfl,fun k hk=>absurd hk #[0]⟩ (fun i ρ s hI=>by obtain⟨us,o2,o3,o4,rfl,rfl,_⟩:=hI;exact br (cH hp)) ?_ ?_
 ·rintro i w ρ s hw ⟨us,o2,o3,o4,rfl,rfl,vZ,hu⟩
  rw[aG]at hw
  obtain⟨x,hx,rfl⟩:=b9.mp hw
  have hi:i<ps.length:=by rw[<- l2];exact(aj.mp hx).1
  have hxe:lk.getD i (none,none)=x:=gO hx
  obtain⟨lx1,lx2⟩:=h.lk hx
  refine⟨_,rfl,?_⟩
  have hc:(st++[al.lst (nW us)])[st.length]?=some (.lst (nW us)):=bP
  refine aF (a9 bd) ?_
  refine aF (DZ hc vZ x.1 lx1 #[0] (q:=2) (ρ:=[some (.loc p),some #[2],some (oW x.1),some (oW x.2),some (.int ((0:Nat):Int))]) rfl rfl 0 rfl #[0]) ?_
  refine aF (DZ hc vZ x.2 lx2 #[0] (q:=3) (ρ:=[some (.loc p),some #[2],some (oW x.1),some (oW x.2),some (.int ((Ax (fun t=>us.getD t 0) 0 x.1:Nat):Int))]) rfl rfl _ rfl #[0]) ?_
  have ap:=PL (y:=.int ((Ax (fun t=>us.getD t 0) (Ax (fun t=>us.getD t 0) 0 x.1) x.2:Nat):Int)) hc (by unfold nW;rw[az];omega)
  rw[dN]at ap
  refine db (gy (ir kv (dR hc) kn ap)) ⟨_,_,rfl,us++[Ax (fun t=>us.getD t 0) (Ax (fun t=>us.getD t 0) 0 x.1) x.2],_,_,_,rfl,by simp[nW],by simp[vZ],fun k hk j=>?_⟩
  have old:∀{t},t<i->(us++[Ax (fun t=>us.getD t 0) (Ax (fun t=>us.getD t 0) 0 x.1) x.2]).getD t 0=us.getD t 0:=fun{t} ht=>by rw[aT,aT,bj #[0]]
  by_cases ek:k<i
  ·show bt ((us++[Ax (fun t=>us.getD t 0) (Ax (fun t=>us.getD t 0) 0 x.1) x.2]).getD k 0) j=true↔_
   rw[old ek];exact hu k ek j
  ·have ek:k=i:=by omega
   subst ek
   have hnew:(us++[Ax (fun t=>us.getD t 0) (Ax (fun t=>us.getD t 0) 0 x.1) x.2]).getD k 0=Ax (fun t=>us.getD t 0) (Ax (fun t=>us.getD t 0) 0 x.1) x.2:=by rw[aT,<- vZ,List.getElem?_concat_length];rfl
   show bt ((us++[Ax (fun t=>us.getD t 0) (Ax (fun t=>us.getD t 0) 0 x.1) x.2]).getD k 0) j=true↔_
   rw[hnew]
   have b:=yJ h hi
   rw[hxe]at b
   have ort:∀(c:Nat) (o:Option Nat),(∀t,o=some t->lo sz k<=lo sz t/\lo sz t<=t/\t<k)->(bt (Ax (fun t=>us.getD t 0) c o) j=true↔bt c j=true\/∃t,o=some t/\lo sz t<=j/\j<=t):=fun c o ho=>by
    cases o with
    |none=>exact⟨.inl,fun z=>z.elim id fun zq=>by obtain⟨t,e,_⟩:=zq;cases e⟩
    |some t=>
     obtain⟨q1,q2,q3⟩:=ho t rfl
     show bt (c ||| us.getD t 0 ||| 2^t) j=true↔_
     rw[xh,xh,oY,d_,d_,f9,hu t q3 j]
     constructor
     ·rintro((a|a)|a)
      ·exact .inl a
      ·exact .inr ⟨t,rfl,a.1,by omega⟩
      ·exact .inr ⟨t,rfl,by omega,by omega⟩
     ·rintro(a|⟨u,e,a1,a2⟩)
      ·exact .inl (.inl a)
      ·cases e
       by_cases e:t=j
       ·exact .inr e
       ·exact .inl (.inr ⟨a1,by omega⟩)
   rw[ort _ _ b.by',ort _ _ b.bx]
   constructor
   ·rintro((a|⟨t,e,a1,a2⟩)|⟨t,e,a1,a2⟩)
    ·rw[show bt 0 j=false from dP j]at a;cases a
    ·have:=b.bx t e;omega
    ·have:=b.by' t e;omega
   ·rintro⟨a1,a2⟩
    rcases b.cov j a1 a2 with z|z
    ·exact .inl (.inr z)
    ·exact .inr z
 ·rintro ρ s ⟨us,o2,o3,o4,rfl,rfl,vZ,hu⟩
  rw[show(lk.map kr,some (p,lk.map kr)).fst.length=ps.length by simp[l2]]at vZ hu
  exact bI kv ⟨_,_,rfl,0,_,rfl,rfl,rfl,us,rfl,vZ,hu⟩
end
theorem IL(l:List Nat)(k:Nat)(st:List al):jv (k+1) [.str l,.str l] st=.ok (.bl true) st:=by
 refine e_ (N:=3) (ws:=[.str l,.str l]) (body:=DQ (jv k)) ?_ rfl
 (walk_at "go")
 apply bI
 ·apply lM
  ·(walk_at "evs")
  ·(walk_at "evs")
 ·exact⟨_,_,rfl,by simp,[],by simp⟩
theorem IM{k:Nat}(hl:ws.length<=1000)(h:∀w∈ws,jv k [w,w] st=.ok (.bl true) st):jv (k+1) [.tup ws,.tup ws] st=.ok (.bl true) st:=by
 refine e_ (N:=3) (ws:=[.tup ws,.tup ws]) (body:=DQ (jv k)) ?_ rfl
 apply bD
 ·(walk_at "evs")
 apply kI
 apply aQ
 ·apply gN
  ·(walk_at "evs")
  ·(walk_at "evs")
   simp
 apply aU
 apply kI
 refine fA (fun i ρ bF=>∃o,ρ=[some (.tup ws),some (.tup ws),o]/\bF=st) (gX (by(walk_at "evs")) #[0]) ⟨none,rfl,rfl⟩ (fun _ _ _ _=>trivial) ?_ ?_
 ·rintro i w ρ bF hw ⟨o,rfl,rfl⟩
  obtain⟨hi,rfl⟩:=ik hw
  refine⟨_,rfl,?_⟩
  have hi':i<ws.length:=by simpa using hi
  have hat:bH (.tup ws) (.int (0+(i:Int))) bF=.ok ws[i] bF:=tW (by rw[d7];exact fK (by simp[hi']))
  have hs:=h ws[i] (dw _)
  apply lN
  ·(walk_at "evs")
  apply db
  ·(walk_at "evs")
  ·exact⟨_,_,rfl,_,rfl,rfl⟩
 ·rintro ρ bF ⟨o,rfl,rfl⟩
  apply be
  ·(walk_at "evs")
  ·exact⟨_,_,rfl,rfl,[],by simp⟩
theorem pV(b:Bool)(k:Nat)(st:List al):jv (k+1) [.bl b,.bl b] st=.ok (.bl true) st:=by
 have hb:fQ (.bl b) (.bl b) st=.ok (.bl true) st:=MA #[18]
 refine e_ (N:=3) (ws:=[.bl b,.bl b]) (body:=DQ (jv k)) ?_ rfl
 apply aQ
 ·(walk_at "evs")
 apply aU
 apply aQ
 ·(walk_at "evs")
 apply aU
 apply bD
 ·(walk_at "evs")
 apply be
 ·apply lM
  ·(walk_at "evs")
  ·(walk_at "evs")
 ·exact⟨_,_,rfl,rfl,[],by simp⟩
section
variable{ps:List Pl}{sz:List Nat}{lk:List #[3]}
abbrev lO(n:Nat):Option W:=some (.loc n)
abbrev iO(q:Int):Option W:=some (.int q)
theorem CM{fs:FA}{st1:List al}{ws:List W}(h:fs ρ st=.ok [.tup ws] st1):mf fs ρ st=.ok (km ws,none) st1:=by unfold mf;rw[h];rfl
theorem PP{fs:FA}{i j:Int}(h:fs ρ st=.ok [.int i,.int j,.int (-1)] st1)(hq:-(2^60)<=i/\i<2^60/\-(2^60)<=j/\j<2^60):ve fs ρ st=.ok (tR i (i-j).toNat,none) st1:=by
 unfold ve;rw[h];simp only[R.bind_ok];rw[aC ⟨trivial,hq⟩]
end
section
variable{ps:List Pl}{sz:List Nat}{lk:List #[3]}
theorem D0(ps:List Pl)(hn:ps.length<=1000)(hρ:ρ[0]?=some (some (dC ps)))(st:List al):gj [none] (dz (af 0)) (g8 0) m9 (eC .non) ρ st=.ok #[2] (st++[.lst ((List.replicate ps.length none).map oW)]):=by
 have:=Lo (cap:=[none]) (f:=g8 0) (el:=eC .non) (ρ:=ρ) (st:=st) (fun _=>.non) (kA (fe:=af 0) (ws:=ps.map Pl.w) (st1:=st) (dB hρ)) (by rw[az];show _<=1000000;omega) trivial fun w _=>⟨_,rfl,bd⟩
 rw[this,List.map_replicate,bp]
 congr 4
 exact List.map_const' ..
def Up(lk:List #[3])(f:Option Nat×Option Nat->Option Nat)(i:Nat)(l:List (Option Nat)):Prop:=
 (∀p u:Nat,l[p]?=some (some u)->∃x,lk[u]?=some x/\f x=some p)/\∀u x p,u<i->lk[u]?=some x->f x=some p->∃v,l[p]?=some (some v)
theorem Up.zero{f:Option Nat×Option Nat->Option Nat}{k:Nat}:Up lk f 0 (List.replicate k none):=⟨fun p u e=>by
 rw[i9]at e
 split at e<;>simp at e,fun u x p h=>absurd h #[0]⟩
theorem Up.skip{f:Option Nat×Option Nat->Option Nat}{l:List (Option Nat)}{x:Option Nat×Option Nat}(h:Up lk f i l)(hx:lk[i]?=some x)(hf:f x=none):Up lk f (i+1) l:=⟨h.1,fun u y p hu hy hp=>by
 by_cases e:u=i
 ·subst e;rw[hx]at hy;cases hy;rw[hf]at hp;cases hp
 ·exact h.2 u y p #[0] hy hp⟩
theorem Up.put{f:Option Nat×Option Nat->Option Nat}{l:List (Option Nat)}{x:Option Nat×Option Nat}(h:Up lk f i l)(hx:lk[i]?=some x)(hf:f x=some q)(hq:q<l.length):Up lk f (i+1) (l.set q (some i)):=⟨fun p u e=>by
 by_cases z:q=p
 ·subst z
  rw[bQ hq]at e
  cases e;exact⟨x,hx,hf⟩
 ·rw[ce z]at e;exact h.1 p u e,fun u y p hu hy hp=>by
 by_cases z:q=p
 ·subst z;exact⟨i,bQ hq⟩
 ·rw[ce z]
  by_cases e:u=i
  ·subst e;rw[hx]at hy;cases hy;rw[hf]at hp;exact absurd (bn hp) z
  ·exact h.2 u y p #[0] hy hp⟩
theorem PQ(h:Gr ps S sz lk)(hn:ps.length<=900)(st:List al):∃(A B:List (Option Nat)) (x:List al),A.length=ps.length/\B.length=ps.length/\Up lk Prod.fst ps.length A/\Up lk Prod.snd ps.length B/\(st++x)[st.length]?=some (.lst (A.map oW))/\(st++x)[st.length+1]?=some (.lst (B.map oW))/\Io [dC ps] st=.ok (.tup [.loc st.length,.loc (st.length+1)]) (st++x):=by
 obtain⟨l1,l2,_⟩:=h.ok
 suffices hh:ju (BB fun w bF=>w=.tup [.loc st.length,.loc (st.length+1)]/\st <+: bF/\∃(A B:List (Option Nat)),A.length=ps.length/\B.length=ps.length/\Up lk Prod.fst ps.length A/\Up lk Prod.snd ps.length B/\bF[st.length]?=some (.lst (A.map oW))/\bF[st.length+1]?=some (.lst (B.map oW))) (Pd ([dC ps].map some++List.replicate (5-1) none) st) by
  obtain⟨w,s',e,rfl,⟨x,rfl⟩,A,B,a1,a2,a3,a4,a5,a6⟩:=hh
  refine⟨A,B,x,a1,a2,a3,a4,a5,a6,?_⟩
  have:=uw (N:=5) (body:=Pd) (ws:=[dC ps]) e
  rw[wU (by simp[undWs,W.und])]at this
  exact this
 have eA:=D0 ps #[0] (ρ:=[some (dC ps),none,none,none,none]) rfl st
 apply aF
 ·exact IB eA rfl
 generalize hA0:List.replicate ps.length (none:Option Nat)=A0 at *
 have eB:=D0 ps #[0] (ρ:=[some (dC ps),lO st.length,none,none,none]) rfl (st++[.lst (A0.map oW)])
 rw[hA0]at eB
 apply aF
 ·exact IB eB rfl
 rw[show(st++[al.lst (A0.map oW)]).length=st.length+1 by simp]
 have lA0:A0.length=ps.length:=by rw[<- hA0];simp
 have uA:∀f,Up lk f 0 A0:=fun f=>by rw[<- hA0];exact Up.zero
 have hlk:=Iz h #[0] (st++[al.lst (A0.map oW)]++[.lst (A0.map oW)])
 refine fA (fun i ρ s=>∃(o3 o4:Option W) (A B:List (Option Nat)),ρ=[some (dC ps),lO st.length,lO (st.length+1),o3,o4]/\st <+: s/\A.length=ps.length/\B.length=ps.length/\s[st.length]?=some (.lst (A.map oW))/\s[st.length+1]?=some (.lst (B.map oW))/\Up lk Prod.fst i A/\Up lk Prod.snd i B) (k:=(km (lk.map kr),none))
  (st1:=st++[al.lst (A0.map oW)]++[.lst (A0.map oW)]) (CM (ak (bc kn hlk rfl) ba)) ⟨none,none,A0,A0,rfl,DU (DU (au _)),lA0,lA0,cH bP,by rw[show st.length+1=(st++[al.lst (A0.map oW)]).length by simp];exact bP,uA _,uA _⟩ (fun _ _ _ _=>trivial) ?_ ?_
 ·rintro i w ρ s hw ⟨o3,o4,A,B,rfl,hp,hA,hB,cA,cB,uA,uB⟩
  obtain⟨y,hy,rfl⟩:=pM hw
  rw[aG]at hy
  obtain⟨x,hx,rfl⟩:=b9.mp hy
  obtain⟨k1,k2⟩:=h.lk hx
  have hi:i<ps.length:=by have:=(aj.mp hx).1;omega
  refine⟨_,rfl,?_⟩
  obtain⟨a,b⟩:=x
  have last:∀(s:List al) (A:List (Option Nat)),st <+: s->A.length=ps.length->s[st.length]?=some (.lst (A.map oW))->s[st.length+1]?=some (.lst (B.map oW))->Up lk Prod.fst (i+1) A->ju (FB fun ρ s=>∃(o3 o4:Option W) (A B:List (Option Nat)),ρ=[some (dC ps),lO st.length,lO (st.length+1),o3,o4]/\st <+: s/\A.length=ps.length/\B.length=ps.length/\s[st.length]?=some (.lst (A.map oW))/\s[st.length+1]?=some (.lst (B.map oW))/\Up lk Prod.fst (i+1) A/\Up lk Prod.snd (i+1) B)
    (fD (da (iB (e2 bH (af 4) (eI 1)))) (p8 (af 2) (e2 bH (af 4) (eI 1)) (af 3) lI) b_ [some (dC ps),lO st.length,lO (st.length+1),iO (i:Nat),some (kr (a,b))] s):=by
   intro s A hp hA cA cB uA
   cases b with
   |none=>
    apply lN
    ·exact aR (jg kx rfl)
    ·exact⟨_,_,rfl,_,_,A,B,rfl,hp,hA,hB,cA,cB,uA,uB.skip hx rfl⟩
   |some q=>
    have:=k2 q rfl
    apply nO
    ·exact aR (jg kx rfl)
    apply db
    ·exact oP kv kv kx (CK (q:=q) cB (by rw[az];omega))
    ·exact⟨_,_,rfl,_,_,A,B.set q (some i),rfl,DT hp #[0],hA,by rw[ke];exact hB,by rw[CJ #[0]];exact cA,by rw[yI cB,sD];rfl,uA,uB.put hx rfl #[0]⟩
  cases a with
  |none=>
   apply aQ
   ·exact aR (jg kx rfl)
   apply aU
   exact last s A hp hA cA cB (uA.skip hx rfl)
  |some q=>
   have:=k1 q rfl
   apply aF
   ·exact gc (aR (jg kx rfl)) (oP kv kv kx (CK (q:=q) cA (by rw[az];omega)))
   exact last _ (A.set q (some i)) (DT hp (ay _)) (by rw[ke];exact hA) (by rw[yI cA,sD];rfl) (by rw[CJ #[0]];exact cB) (uA.put hx rfl #[0])
 ·rintro ρ s ⟨o3,o4,A,B,rfl,hp,hA,hB,cA,cB,uA,uB⟩
  rw[show(km (lk.map kr),(none:Option (Nat×List W))).fst.length=ps.length by rw[sQ,az,l2]]at uA uB
  apply bI
  ·exact dO (ak kv kn) (ax rfl)
  ·exact⟨_,_,rfl,rfl,hp,A,B,hA,hB,uA,uB,cA,cB⟩
end
theorem Ff(l:List α)(d:α)(f:α->β):(List.range l.length).map (fun i=>f (l.getD i d))=l.map f:=by
 refine d6 fun i=>?_
 rw[aG,aG]
 by_cases h:i<l.length
 ·rw[cU h,aq h]
  show some (f (l.getD i d))=_
  rw[aT,aq h];rfl
 ·rw[bq (by simpa using h),bq #[0]];rfl
theorem jZ{l:List α}(d:α)(h:i<l.length):l[i]?=some (l.getD i d):=by
 rw[aT,aq h];rfl
theorem St.ex{n b:Nat}{S:List Nat}(hb:b<=3)(h:(b+1)/2<=S.length):∃S' k x,St n S b S' k x/\S'.length+(b+1)/2=S.length+1:=by
 obtain rfl|rfl|rfl|rfl:b=0\/b=1\/b=2\/b=3:=by omega
 ·exact⟨_,_,_,.z,by simp⟩
 ·match S,h with
  |a::S,_=>exact⟨_,_,_,.l,by simp⟩
 ·match S,h with
  |a::S,_=>exact⟨_,_,_,.r,by simp⟩
 ·match S,h with
  |c::a::S,_=>exact⟨_,_,_,.b,by simp⟩
  |[_],hz=>simp at hz
  |[],hz=>simp at hz
def xi(d:Int)(i:Nat):Bool:=Builtin.bitAnd (d/2^i) 1==1
def oZ(pool:List Nat)(d:Int):List Nat:=((List.range pool.length).filter (xi d)).map fun i=>pool.getD i 0
theorem qT(pool:List Nat)(d:Int):(oZ pool d).Sublist pool:=by
 unfold oZ
 have:((List.range pool.length).map fun i=>pool.getD i 0)=pool:=by
  have:=Ff pool 0 (fun x=>x)
  rw[sE]at this;exact this
 conv=>rhs;rw[<- this]
 exact List.Sublist.map _ List.filter_sublist
def yK:W->Nat
 |.int i=>i.toNat
 |_=>0
theorem Fg(pool:List Nat)(hp:pool.length<=50)(d:Int)(st:List al):Am [.str pool,.int d] st=.ok (.str (DV (oZ pool d))) st:=by
 have hL:pool.length<=kN:=by show _<=1000000;omega
 have hc:=yp (fi:=dM (ah (cr eW (ah (af 0) aK)) aK)) (f:=g8 0) (t:=da (e2 fQ (e2 oF (e2 zF (af 2) (af 0)) (eI 1)) (eI 1))) (el:=e2 bH (af 1) (af 0)) (cap:=[none,some 0,some 1]) (ρ:=[some (.str pool),iO d]) (st:=st) (st1:=st) (ws:=fx 0 pool.length) (ck:=none) (fun w=>xi d (yK w)) (fun w=>.str [pool.getD (yK w) 0])
   (by
    have:=gX (fs:=ah (cr eW (ah (af 0) aK)) aK) (ρ:=[some (.str pool),iO d]) (st:=st) (st1:=st) (q:=(pool.length:Int)) (ak (cg kn (sU hL)) ba) #[0]
    rw[bu]at this
    exact this) (by rw[fJ];show _<=1000000;omega) trivial fun w hw=>by
   obtain⟨i,hi,rfl⟩:=Fb hw
   refine⟨[iO (0+(i:Int)),some (.str pool),iO d],rfl,?_,fun _=>?_⟩
   ·have h0:(0:Int)<=0+(i:Int):=by omega
    have hk:(Builtin.bitAnd (d/2^(0+(i:Int)).toNat) 1==1)=xi d (yK (.int (0+(i:Int)))):=rfl
    exact aR (a_ (a_ (a_ kv kv (fj h0)) bd (fj trivial)) bd (jh hk))
   ·refine a_ kv kv ?_
    rw[show((0:Int)+(i:Int))=(i:Int) by omega]
    have e2:rl pool (i:Int)=some (pool.getD i 0):=fK (jZ 0 hi)
    rw[rY hL e2]
    simp[yK]
 have e:((fx 0 pool.length).filter fun w=>xi d (yK w)).map (fun w=>W.str [pool.getD (yK w) 0])=((oZ pool d).map fun c=>[c]).map W.str:=by
  unfold fx oZ
  rw[nZ,bp,bp,bp]
  have e1:((fun w=>xi d (yK w))∘fun k:Nat=>W.int (0+(k:Int)))=xi d:=by funext k;simp[yK]
  rw[e1]
  refine d9 fun k _=>?_
  simp[yK]
 rw[e]at hc
 have hl:(oZ pool d).length<=50:=aH (qT pool d).length_le hp
 refine e_ (N:=2) (ws:=[.str pool,.int d]) (body:=M9) ?_ rfl
 apply bI
 ·exact DY hc (br bP) #[0]
 ·exact⟨_,_,rfl,rfl,_,by rw[aM]⟩
def IN(pool m:List Nat):Prop:=m.length<=pool.length/\∀d∈m,d∈pool
theorem TD{pool:List Nat}(hp:pool.length<=50)(d:Int):IN pool (DV (oZ pool d)):=
 ⟨by rw[DW];exact(qT pool d).length_le,fun c hc=>(qT pool d).subset ((vy _).mem_iff.mp hc)⟩
theorem IP{f:cv->List al->R Bool}{a b:List al}(h1:f ρ st=.ok false a)(h2:f ρ st=.ok true b):False:=by
 rw[h1]at h2;cases h2
theorem LB{nd:Nat}{pool:List Nat}{mo:Nat}(hd:st[nd]?=some (.lst (on ds)))(Uw:ds.length<=100)(hp:pool.length<=50) :
  ∃ps S sz lk,Gr ps S sz lk/\S.length<=1/\ps.length<=2*ds.length/\(∀p∈ps,IN pool p.m)/\An [.loc nd,.str pool,.int (mo:Nat)] st=.ok (dC ps) st:=by
 suffices hh:ju (BB fun w bF=>(∃x,bF=st++x)/\undWs st.length [w]=true/\∃ps S sz lk,w=dC ps/\Gr ps S sz lk/\S.length<=1/\ps.length<=2*ds.length/\∀p∈ps,IN pool p.m) (M_ ([W.loc nd,.str pool,.int (mo:Nat)].map some++List.replicate (7-3) none) st) by
  obtain⟨w,⟨ps,S,sz,lk,rfl,h1,h2,h3,h4⟩,e⟩:=uz hh
  exact⟨ps,S,sz,lk,h1,h2,h3,h4,e⟩
 apply aF
 ·(walk_at "evs")
 apply aF
 ·(walk_at "evs")
 have dI:∀A:List W,lstOf (st++[al.lst A]) nd=some (on ds):=fun A=>br (cH hd)
 refine fA (fun i ρ bF=>∃(ps:List Pl) (S sz:List Nat) (lk:List #[3]) (o5 o6:Option W),ρ=[lO nd,some (.str pool),iO mo,lO st.length,iO S.length,o5,o6]/\bF=st++[.lst (ps.map Pl.w)]/\Gr ps S sz lk/\ps.length<=i/\∀p∈ps,IN pool p.m) (pR (st1:=st++[al.lst []]) (by(walk_at "evs")) (dI []))
  ⟨[],[],[],[],none,none,rfl,rfl,.nil,ay _,by simp⟩ (fun i ρ bF h=>?_) ?_ ?_
 ·obtain⟨ps,S,sz,lk,o5,o6,rfl,rfl,_⟩:=h
  exact dI _
 ·rintro i w ρ bF hw ⟨ps,S,sz,lk,o5,o6,rfl,rfl,hg,js,hpm⟩
  obtain⟨d,hdd,rfl⟩:∃d,ds[i]?=some d/\w=.int d:=by
   simp only[on,aG,b9]at hw
   obtain⟨d,h1,rfl⟩:=hw
   exact⟨d,h1,rfl⟩
  have hi:i<ds.length:=(aj.mp hdd).1
  refine⟨_,rfl,?_⟩
  have hc:(st++[al.lst (ps.map Pl.w)])[st.length]?=some (.lst (ps.map Pl.w)):=bP
  obtain⟨b0,hb0,eb0⟩:=kB (q:=d) (n:=4) #[0]
  have eb0:d%4=(b0:Int):=eb0
  apply aF
  ·exact a9 (a_ kv bd (fj #[1]))
  rw[eb0]
  refine yo (fun ρ bF=>∃b:Nat,b<=3/\(b+1)/2<=S.length/\ρ=[lO nd,some (.str pool),iO mo,lO st.length,iO S.length,iO d,iO b]/\bF=st++[.lst (ps.map Pl.w)]) ?_ ?_
  ·by_cases h1:S.length<(b0+1)/2
   ·have t1:decide ((S.length:Int)<((b0:Int)+1)/2)=true:=aN #[0]
    apply nO
    ·exact aR (a_ (a_ (a_ kv bd gz) bd (fj #[1])) kv (gA t1))
    apply db
    ·(walk_at "evs")
    ·exact⟨_,_,rfl,0,by omega,by omega,rfl,rfl⟩
   ·have t1:decide ((S.length:Int)<((b0:Int)+1)/2)=false:=aI #[0]
    apply lN
    ·exact aR (a_ (a_ (a_ kv bd gz) bd (fj #[1])) kv (gA t1))
    apply db
    ·exact ng
    ·exact⟨_,_,rfl,b0,by omega,by omega,rfl,rfl⟩
  rintro ρ bF ⟨b2,hb2,Bp,rfl,rfl⟩
  obtain⟨S',k,x,mT,hlen'⟩:=St.ex (n:=ps.length) hb2 Bp
  have em:=Fg pool hp (d/4%16) (st++[al.lst (ps.map Pl.w)])
  have hmk:=TD hp (d/4%16)
  generalize DV (oZ pool (d/4%16))=m at em hmk
  have ap:=jY (y:=(Pl.mk b2 m).w) hc (by rw[az];show _<1000000;omega)
  rw[dN]at ap
  have ap:bO #[2] [.tup [.int b2,.str m]] (st++[al.lst (ps.map Pl.w)])=_:=ap
  have hln:=jD (br hc)
  rw[az]at hln
  by_cases h1:(ps.length:Int)+(S.length:Int)+1-((b2:Int)+1)/2<=(mo:Int)
  ·have t1:decide ((ps.length:Int)+(S.length:Int)+1-((b2:Int)+1)/2<=(mo:Int))=true:=aN h1
   apply nO
   ·exact aR (a_ (a_ (a_ (a_ (cg kn hln) kv gz) bd gz) (a_ (a_ kv bd gz) bd (fj #[1])) (fj trivial)) kv (DG t1))
   apply aF
   ·exact gy (ir kv (dR hc) (ak (dO (ak kv (ak (bc (ak kv (ak (a_ (a_ kv bd (fj #[1])) bd (fj #[1])) ba)) em rfl) ba)) (ax rfl)) ba) ap)
   apply db
   ·exact a9 (a_ (a_ kv bd gz) (a_ (a_ kv bd gz) bd (fj #[1])) (fj trivial))
   ·refine⟨_,_,rfl,ps++[⟨b2,m⟩],S',sz++[k],lk++[x],iO d,iO b2,?_,by simp,.snoc hg mT,by simp;omega,?_⟩
    ·show[_,_,_,_,iO ((S.length:Int)+1-((b2:Int)+1)/2),_,_]=_
     rw[show(S.length:Int)+1-((b2:Int)+1)/2=(S'.length:Int) by omega]
    ·intro p hp'
     rcases bg.mp hp' with z|z
     ·exact hpm p z
     ·simp at z;subst z;exact hmk
  ·have t1:decide ((ps.length:Int)+(S.length:Int)+1-((b2:Int)+1)/2<=(mo:Int))=false:=aI h1
   apply lN
   ·exact aR (a_ (a_ (a_ (a_ (cg kn hln) kv gz) bd gz) (a_ (a_ kv bd gz) bd (fj #[1])) (fj trivial)) kv (DG t1))
   apply db
   ·exact ng
   ·exact⟨_,_,rfl,ps,S,sz,lk,_,_,rfl,rfl,hg,by omega,hpm⟩
 ·rintro ρ bF ⟨ps,S,sz,lk,o5,o6,rfl,rfl,hg,js,hpm⟩
  rw[show(on ds,some (nd,on ds)).fst.length=ds.length by simp[on]]at js
  have hSle:=hg.ok.2.2.le
  refine wW (fun n ρ bF=>∃(ps:List Pl) (S sz:List Nat) (lk:List #[3]),ρ=[lO nd,some (.str pool),iO mo,lO st.length,iO S.length,o5,o6]/\bF=st++[.lst (ps.map Pl.w)]/\Gr ps S sz lk/\ps.length+S.length<=2*ds.length/\(∀p∈ps,IN pool p.m)/\S.length=n) S.length ⟨ps,S,sz,lk,rfl,rfl,hg,by omega,hpm,rfl⟩ ?_ ?_
  ·rintro n ρ bF ⟨ps,S,sz,lk,rfl,rfl,hg,js,hpm,rfl⟩
   by_cases h1:1<S.length
   ·refine .inr ?_
    have t1:decide ((1:Int)<(S.length:Int))=true:=aN #[0]
    constructor
    ·exact aR (a_ kv bd (gA t1))
    obtain⟨S',k,x,mT,hlen'⟩:=St.ex (n:=ps.length) (b:=3) (S:=S) #[0] #[0]
    have hc:(st++[al.lst (ps.map Pl.w)])[st.length]?=some (.lst (ps.map Pl.w)):=bP
    have hS2:=hg.ok.2.2.le
    obtain⟨p,hpp⟩:∃p,ps[S.length-1]?=some p:=⟨_,aq #[0]⟩
    have ix:bH #[2] (.int ((S.length:Int)-1)) (st++[al.lst (ps.map Pl.w)])=.ok p.w (st++[al.lst (ps.map Pl.w)]):=by
     rw[show(S.length:Int)-1=((S.length-1:Nat):Int) by omega]
     exact gW (br hc) (fK (by rw[aG,hpp];rfl))
    have hmk:=hpm p (bC hpp)
    have ap:=jY (y:=(Pl.mk 3 p.m).w) hc (by rw[az];show _<1000000;omega)
    rw[dN]at ap
    have ap:bO #[2] [.tup [.int 3,.str p.m]] (st++[al.lst (ps.map Pl.w)])=_:=ap
    apply aF
    ·exact gy (ir kv (dR hc) (ak (dO (ak bd (ak (a_ (a_ kv (a_ kv bd (fj trivial)) ix) bd (Lx p _)) ba)) (ax rfl)) ba) ap)
    apply db
    ·exact a9 (a_ kv bd (fj trivial))
    ·refine⟨_,_,rfl,S'.length,by omega,ps++[⟨3,p.m⟩],S',sz++[k],lk++[x],?_,by simp,.snoc hg mT,by simp;omega,?_,rfl⟩
     ·show[_,_,_,_,iO ((S.length:Int)-1),_,_]=_
      rw[show(S.length:Int)-1=(S'.length:Int) by omega]
     ·intro q hq
      rcases bg.mp hq with z|z
      ·exact hpm q z
      ·simp at z;subst z;exact hmk
   ·refine .inl ?_
    have t1:decide ((1:Int)<(S.length:Int))=false:=aI #[0]
    exact aR (a_ kv bd (gA t1))
  ·rintro n ρ bF ⟨ps,S,sz,lk,rfl,rfl,hg,js,hpm,rfl⟩ hno
   have hc:(st++[al.lst (ps.map Pl.w)])[st.length]?=some (.lst (ps.map Pl.w)):=bP
   have hS1:S.length<=1:=by
    rcases d5 1 S.length with h1|h1
    ·have t1:decide ((1:Int)<(S.length:Int))=true:=aN #[0]
     exact(IP hno (aR (a_ kv bd (gA t1)))).elim
    ·exact h1
   apply bI
   ·exact cg kn (qP (br hc))
   ·exact⟨_,_,rfl,⟨_,rfl⟩,by simp only[undWs,iL];exact CI ps _,ps,S,sz,lk,rfl,hg,hS1,by omega,hpm⟩
abbrev PR:List Nat:=[111,110,101]
abbrev Q2:List Nat:=[110,111,116]
abbrev LD:List (List Nat):=[[105,110],[108,101,102,116],[114,105,103,104,116],[98,101,108,111,119]]
abbrev PU:List (List Nat):=[[115,111,109,101],[97,108,108]]
abbrev JN:List (List Nat):=[[97,110,100],[111,114]]
abbrev Ay:List (List Nat):=[[105,110],[111,110,101],[108,101,102,116],[114,105,103,104,116],[98,101,108,111,119],[110,111,116],[115,111,109,101],[97,108,108],[97,110,100],[111,114]]
inductive Stm where
 |one (a:Nat)|two (k:List Nat) (a b:Nat)|neg (s:Stm)|bnd (k:List Nat) (a:Nat) (s:Stm)|jn (k:List Nat) (s t:Stm)
namespace Stm
def w:Stm->W
 |one a=>.tup [.str PR,.str [a]]
 |two k a b=>.tup [.str k,.str [a],.str [b]]
 |neg s=>.tup [.str Q2,s.w]
 |bnd k a s=>.tup [.str k,.str [a],s.w]
 |jn k s t=>.tup [.str k,s.w,t.w]
def ok:Stm->Prop
 |one a=>a∈LL
 |two k a b=>k∈LD/\a∈LL/\b∈LL
 |neg s=>s.ok
 |bnd k a s=>k∈PU/\a∈LL/\s.ok
 |jn k s t=>k∈JN/\s.ok/\t.ok
def dp:Stm->Nat
 |one a=>1
 |two k a b=>1
 |neg s=>s.dp+1
 |bnd k a s=>s.dp+1
 |jn k s t=>s.dp+t.dp
theorem dp_pos:∀s:Stm,1<=s.dp
 |one a=>ay _
 |two k a b=>ay _
 |neg s=>Nat.le_add_left _ _
 |bnd k a s=>Nat.le_add_left _ _
 |jn k s t=>by have:=dp_pos s;simp only[dp];omega
theorem und:∀(s:Stm) (n:Nat),s.w.und n=true
 |one a,n=>by simp[w,W.und,undWs]
 |two k a b,n=>by simp[w,W.und,undWs]
 |neg s,n=>by simp[w,W.und,undWs,und s n]
 |bnd k a s,n=>by simp[w,W.und,undWs,und s n]
 |jn k s t,n=>by simp[w,W.und,undWs,und s n,und t n]
end Stm
theorem LF{l:List α}{x:α}:By (l++[x]).length (-1)=some l.length:=by
 unfold By
 rw[aJ #[0],aC (by simp;omega)]
 simp only[aE,eM,gY]
 congr 1
 omega
theorem IQ{l:List α}{x y:α}:(l++[x]).set l.length y=l++[y]:=by simp
theorem uG{l:List W}{x:W}:rl (l++[x]) (-1)=some x:=OR (q:=0) #[18]
def qc(h:List Stm):Nat:=(h.map Stm.dp).sum
theorem kT(a b:List Stm):qc (a++b)=qc a+qc b:=by simp[qc]
theorem sd{s:List al}{p:Nat}{l:List W}{x v:W}(h:s[p]?=some (.lst (l++[x]))):lI (.loc p) (.int (-1)) v s=some (s.set p (.lst (l++[v]))):=by rw[Hb h LF,IQ]
theorem se{h:List α}(hn:0<h.length):∃h' x,h=h'++[x]:=⟨h.dropLast,h.getLast (by intro z;rw[z]at hn;simp at hn),(List.dropLast_concat_getLast _).symm⟩
theorem Az{h:List α}(hn:1<h.length):∃h' x y,h=h'++[x]++[y]:=by
 obtain⟨h1,y,rfl⟩:=se (h:=h) #[0]
 obtain⟨h2,x,rfl⟩:=se (h:=h1) (by simp at hn;omega)
 exact⟨h2,x,y,rfl⟩
abbrev wq(q:Nat):List Nat:=Ay.getD q []
theorem PV(hq:q<10)(s:List al):mR false (.str (wq q)) (.tup [.str [97,110,100],.str [111,114]]) s=.ok (.bl (decide (8<=q))) s:=by
 walk_at "3"
 all_goals rfl
theorem PX(hq:q<10)(s:List al):mR false (.str (wq q)) (.tup [.str [115,111,109,101],.str [97,108,108]]) s=.ok (.bl (decide (q=6\/q=7))) s:=by
 walk_at "3"
 all_goals rfl
theorem PY(hq:q<10)(s:List al):fQ (.str (wq q)) (.str [110,111,116]) s=.ok (.bl (decide (q=5))) s:=by
 walk_at "3"
 all_goals rfl
theorem PZ(hq:q<10)(s:List al):fQ (.str (wq q)) (.str [111,110,101]) s=.ok (.bl (decide (q=1))) s:=by
 walk_at "3"
 all_goals rfl
theorem Nm(hq:q<10)(h:8<=q):wq q∈JN:=by
 obtain rfl|rfl:q=8\/q=9:=by omega
 all_goals decide
theorem P0(h:q=6\/q=7):wq q∈PU:=by rcases h with rfl|rfl<;>decide
theorem IR(hq:q<5)(h:q≠1):wq q∈LD:=by
 obtain rfl|rfl|rfl|rfl|rfl:q=0\/q=1\/q=2\/q=3\/q=4:=by omega
 all_goals first|decide|exact absurd rfl h
theorem IS(hq:q<10):rl (Ay.map W.str) (q:Int)=some (.str (wq q)):=by
 walk_at "3"
 all_goals rfl
theorem kU{h:List Stm}{s:Stm}(hh:∀x∈h,x.ok)(hs:s.ok):∀x∈h++[s],x.ok:=fun x hx=>by
 rcases bg.mp hx with z|z
 ·exact hh x z
 ·rw[aV.mp z];exact hs
theorem LG{d:Nat}{pool:List Nat}(hd:st[d]?=some (.lst (on ds)))(hl:ds.length=2*m)(h1:1<=m)(hm:m<=15)(hp:0<pool.length)(Qq:pool.length<=50)(j':∀c∈pool,c∈LL) :
  ∃s:Stm,s.ok/\s.dp<=15/\Ao [.loc d,.str pool] st=.ok s.w st:=by
 suffices hh:ju (BB fun w bF=>(∃x,bF=st++x)/\undWs st.length [w]=true/\∃s:Stm,w=s.w/\s.ok/\s.dp<=15) (M' ([W.loc d,.str pool].map some++List.replicate (9-2) none) st) by
  obtain⟨w,⟨l,rfl,h1,h2⟩,e⟩:=uz hh
  exact⟨l,h1,h2,e⟩
 have hdd:d<st.length:=(aj.mp hd).1
 refine aF (a9 (oN G' #[1])) (aF (a9 (oN ba #[1])) ?_)
 simp only[aM,aE,eM,gY,List.cons_append,iT,dy]
 have hpL:pool.length<=kN:=by show _<=1000000;omega
 have hlen0:eW [.loc d] (st++[al.lst (Ay.map W.str),al.lst []])=.ok (.int ((2*m:Nat):Int)) (st++[al.lst (Ay.map W.str),al.lst []]):=by
  have:=jD (br (cH (x:=[al.lst (Ay.map W.str),al.lst []]) hd))
  rw[on,az,hl]at this;exact this
 refine fA (fun i ρ bF=>∃(h:List Stm) (y:List al) (o4 o5 o6 o7 o8:Option W),ρ=[some (.loc d),some (.str pool),some #[2],some #[22],o4,o5,o6,o7,o8]/\bF=st++(.lst (Ay.map W.str)::.lst (h.map Stm.w)::y)/\(∀s∈h,s.ok)/\qc h<=i/\h.length<=i/\(0<i->h≠[]))
  (gX (q:=(((2*m:Nat):Int)/2)) (st1:=st++[al.lst (Ay.map W.str),al.lst []]) (ak (a_ (cg kn hlen0) bd (fj #[1])) ba) #[0])
  ⟨[],[],none,none,none,none,none,rfl,rfl,by simp,ay _,ay _,by omega⟩ (fun _ _ _ _=>trivial) ?_ ?_
 ·rintro i w ρ bF hw ⟨h,y,o4,o5,o6,o7,o8,rfl,rfl,hok,hsum,js,vS⟩
  obtain⟨hi,rfl⟩:=ik hw
  have hi':i<m:=by omega
  rw[d7]
  obtain⟨s,hs⟩:∃s,s=st++(.lst (Ay.map W.str)::.lst (h.map Stm.w)::y):=⟨_,rfl⟩
  rw[<- hs]
  have um:s[d]?=some (.lst (on ds)):=by rw[hs];exact cH hd
  have hcw:s[st.length]?=some (.lst (Ay.map W.str)):=by rw[hs,dA];rfl
  have pY:s[st.length+1]?=some (.lst (h.map Stm.w)):=by rw[hs,iP];rfl
  obtain⟨d0,hd0⟩:∃x,ds[2*i]?=some x:=⟨_,aq #[0]⟩
  obtain⟨d1,hd1⟩:∃x,ds[2*i+1]?=some x:=⟨_,aq #[0]⟩
  have e0:bH (.loc d) (.int (2*(i:Int))) s=.ok (.int d0) s:=by rw[show(2*(i:Int))=((2*i:Nat):Int) by omega];exact uC um hd0
  have e1:bH (.loc d) (.int (2*(i:Int)+1)) s=.ok (.int d1) s:=by rw[show(2*(i:Int)+1)=((2*i+1:Nat):Int) by omega];exact uC um hd1
  obtain⟨q,hq,eq⟩:=kB (q:=d0) (n:=10) #[0]
  have eq:d0%10=(q:Int):=eq
  obtain⟨qa,hqa,eqa⟩:=CH pool hp d1
  obtain⟨qb,hqb,eqb⟩:=CH pool hp (d1/4)
  have lp:(0:Int)<(pool.length:Int):=by omega
  have ew:bH #[2] (.int (d0%10)) s=.ok (.str (wq q)) s:=by rw[eq];exact gW (br hcw) (IS hq)
  have m2:∀z:Int,K3 2 z:=fun z=>.inl #[1]
  refine⟨_,rfl,?_⟩
  refine aF (a9 (a_ kv (a_ (a_ kv (a_ bd kv (nh (m2 _))) e0) bd (fj #[1])) ew)) ?_
  refine aF (a9 (a_ kv (a_ (a_ kv (a_ (a_ bd kv (nh (m2 _))) bd gz) e1) (cg kn (sU hpL)) (fj lp)) (rY hpL eqa))) ?_
  refine aF (a9 (a_ kv (a_ (a_ (a_ kv (a_ (a_ bd kv (nh (m2 _))) bd gz) e1) bd (fj #[1])) (cg kn (sU hpL)) (fj lp)) (rY hpL eqb))) ?_
  have dU:=jD (br pY)
  rw[az]at dU
  have hsm:(h.map Stm.w).length<kN:=by rw[az];show _<1000000;omega
  have ie:∀(h2:List Stm) (y2:List al) (o4 o5 o6 o7 o8:Option W),(∀s∈h2,s.ok)->qc h2<=i+1->h2.length<=i+1->h2≠[]->FB (fun ρ bF=>∃(h:List Stm) (y:List al) (o4 o5 o6 o7 o8:Option W),ρ=[some (.loc d),some (.str pool),some #[2],some #[22],o4,o5,o6,o7,o8]/\bF=st++(.lst (Ay.map W.str)::.lst (h.map Stm.w)::y)/\(∀s∈h,s.ok)/\qc h<=i+1/\h.length<=i+1/\(0<i+1->h≠[]))
    (.nx [some (.loc d),some (.str pool),some #[2],some #[22],o4,o5,o6,o7,o8] (st++(.lst (Ay.map W.str)::.lst (h2.map Stm.w)::y2))):=fun h2 y2 o4 o5 o6 o7 o8 a b c e=>⟨_,_,rfl,h2,y2,o4,o5,o6,o7,o8,rfl,rfl,a,b,c,fun _=>e⟩
  have t1:=PV hq s
  have t2:=PX hq s
  have t3:=PY hq s
  have t4:=PZ hq s
  by_cases hA:8<=q/\1<h.length
  ·rw[aN hA.1]at t1
   refine nO (fy (aR (a_ kv (dO (ak bd (ak bd ba)) #[1]) t1)) (aR (a_ (cg kn dU) bd (gA (aN #[0]))))) ?_
   obtain⟨h',x,z,rfl⟩:=Az hA.2
   have hch':s[st.length+1]?=some (.lst ((h'.map Stm.w++[x.w])++[z.w])):=by rw[pY];simp
   refine aF (a9 (ir kv (dR pY) ba (zZ hch'))) ?_
   have hc2:(s.set (st.length+1) (.lst (h'.map Stm.w++[x.w])))[st.length+1]?=some (.lst (h'.map Stm.w++[x.w])):=yI pY
   refine db (oP (dO (ak kv (ak (a_ kv (oO bd) (gW (br hc2) uG)) kn)) (ax rfl)) kv (oO bd) (sd hc2)) ?_
   rw[List.set_set,hs,gu]
   have:=ie (h'++[.jn (wq q) x z]) y (some (.int (i:Int))) (some (.str (wq q))) (some (.str [qa])) (some (.str [qb])) (some z.w) (kU (s:=.jn (wq q) x z) (fun s hs=>hok s (by simp[hs])) ⟨Nm hq hA.1,hok x #[18],hok z #[18]⟩) (by simp[kT,qc,Stm.dp]at hsum ⊢;omega) (by simp at js ⊢;omega) #[18]
   rw[b7]at this
   exact this
  refine lN (st1:=s) ?_ ?_
  ·by_cases h8:8<=q
   ·rw[aN h8]at t1
    exact fy (aR (a_ kv (dO (ak bd (ak bd ba)) #[1]) t1)) (aR (a_ (cg kn dU) bd (gA (aI #[0]))))
   ·rw[aI h8]at t1
    exact jO (aR (a_ kv (dO (ak bd (ak bd ba)) #[1]) t1))
  by_cases hB:(q=6\/q=7)/\0<h.length
  ·rw[aN hB.1]at t2
   refine nO (fy (aR (a_ kv (dO (ak bd (ak bd ba)) #[1]) t2)) (aR (a_ (cg kn dU) bd (gA (aN #[0]))))) ?_
   obtain⟨h',x,rfl⟩:=se hB.2
   have hch':s[st.length+1]?=some (.lst (h'.map Stm.w++[x.w])):=by rw[pY];simp
   refine db (oP (dO (ak kv (ak kv (ak (a_ kv (oO bd) (gW (br hch') uG)) ba))) (ax rfl)) kv (oO bd) (sd hch')) ?_
   rw[hs,gu]
   have:=ie (h'++[.bnd (wq q) qa x]) y (some (.int (i:Int))) (some (.str (wq q))) (some (.str [qa])) (some (.str [qb])) o8 (kU (s:=.bnd (wq q) qa x) (fun s hs=>hok s (by simp[hs])) ⟨P0 hB.1,j' _ hqa,hok x #[18]⟩) (by simp[kT,qc,Stm.dp]at hsum ⊢;omega) (by simp at js ⊢;omega) #[18]
   rw[b7]at this
   exact this
  refine lN (st1:=s) ?_ ?_
  ·by_cases h8:q=6\/q=7
   ·rw[aN h8]at t2
    exact fy (aR (a_ kv (dO (ak bd (ak bd ba)) #[1]) t2)) (aR (a_ (cg kn dU) bd (gA (aI #[0]))))
   ·rw[aI h8]at t2
    exact jO (aR (a_ kv (dO (ak bd (ak bd ba)) #[1]) t2))
  by_cases hC:q=5/\0<h.length
  ·rw[aN hC.1]at t3
   refine nO (fy (aR (a_ kv bd t3)) (aR (a_ (cg kn dU) bd (gA (aN #[0]))))) ?_
   obtain⟨h',x,rfl⟩:=se hC.2
   have hch':s[st.length+1]?=some (.lst (h'.map Stm.w++[x.w])):=by rw[pY];simp
   refine db (oP (dO (ak kv (ak (a_ kv (oO bd) (gW (br hch') uG)) ba)) (ax rfl)) kv (oO bd) (sd hch')) ?_
   rw[hs,gu]
   have:=ie (h'++[.neg x]) y (some (.int (i:Int))) (some (.str (wq q))) (some (.str [qa])) (some (.str [qb])) o8 (kU (s:=.neg x) (fun s hs=>hok s (by simp[hs])) (hok x #[18])) (by simp[kT,qc,Stm.dp]at hsum ⊢;omega) (by simp at js ⊢;omega) #[18]
   rw[b7]at this
   rw[hC.1]
   rw[hC.1]at this
   exact this
  refine lN (st1:=s) ?_ ?_
  ·by_cases h8:q=5
   ·rw[aN h8]at t3
    exact fy (aR (a_ kv bd t3)) (aR (a_ (cg kn dU) bd (gA (aI #[0]))))
   ·rw[aI h8]at t3
    exact jO (aR (a_ kv bd t3))
  by_cases hD:q=1
  ·rw[aN hD]at t4
   refine nO (aR (a_ kv bd t4)) ?_
   refine db (gy (ir kv (dR pY) (ak (dO (ak kv kn) (ax rfl)) ba) (jY pY hsm))) ?_
   rw[hs,gu]
   have:=ie (h++[.one qa]) y (some (.int (i:Int))) (some (.str (wq q))) (some (.str [qa])) (some (.str [qb])) o8 (kU (s:=.one qa) hok (j' _ hqa)) (by simp[kT,qc,Stm.dp]at hsum ⊢;omega) (by simp;omega) #[18]
   rw[b7]at this
   rw[hD]
   rw[hD]at this
   exact this
  rw[aI hD]at t4
  refine lN (aR (a_ kv bd t4)) ?_
  by_cases hE:q<5
  ·refine nO (aR (a_ (a_ (a_ kv (a_ bd kv (nh (m2 _))) e0) bd (fj #[1])) bd (gA (aN #[0])))) ?_
   refine db (gy (ir kv (dR pY) (ak (dO (ak kv (ak kv kn)) (ax rfl)) ba) (jY pY hsm))) ?_
   rw[hs,gu]
   have:=ie (h++[.two (wq q) qa qb]) y (some (.int (i:Int))) (some (.str (wq q))) (some (.str [qa])) (some (.str [qb])) o8 (kU (s:=.two (wq q) qa qb) hok ⟨IR hE hD,j' _ hqa,j' _ hqb⟩) (by simp[kT,qc,Stm.dp]at hsum ⊢;omega) (by simp;omega) #[18]
   rw[b7]at this
   exact this
  ·refine lN (aR (a_ (a_ (a_ kv (a_ bd kv (nh (m2 _))) e0) bd (fj #[1])) bd (gA (aI #[0])))) ?_
   obtain⟨r,hr,er⟩:=kB (q:=d0/10) (n:=4) #[0]
   have er:d0/10%4=(r:Int):=er
   have hch2:(s++[al.lst [.int 0,.int 2,.int 3,.int 4]])[st.length+1]?=some (.lst (h.map Stm.w)):=cH pY
   have hcw2:(s++[al.lst [.int 0,.int 2,.int 3,.int 4]])[st.length]?=some (.lst (Ay.map W.str)):=cH hcw
   have e02:bH (.loc d) (.int (2*(i:Int))) (s++[al.lst [.int 0,.int 2,.int 3,.int 4]])=.ok (.int d0) (s++[al.lst [.int 0,.int 2,.int 3,.int 4]]):=by rw[show(2*(i:Int))=((2*i:Nat):Int) by omega];exact uC (cH um) hd0
   obtain⟨g,hg,eg⟩:∃g:Nat,(g<5/\g≠1)/\bH (.loc s.length) (.int (d0/10%4)) (s++[al.lst [.int 0,.int 2,.int 3,.int 4]])=.ok (.int (g:Int)) (s++[al.lst [.int 0,.int 2,.int 3,.int 4]]):=by
    rw[er]
    obtain rfl|rfl|rfl|rfl:r=0\/r=1\/r=2\/r=3:=by omega
    ·exact⟨0,by decide,gW (br bP) rfl⟩
    ·exact⟨2,by decide,gW (br bP) rfl⟩
    ·exact⟨3,by decide,gW (br bP) rfl⟩
    ·exact⟨4,by decide,gW (br bP) rfl⟩
   have eg2:bH #[2] (.int (g:Int)) (s++[al.lst [.int 0,.int 2,.int 3,.int 4]])=.ok (.str (wq g)) (s++[al.lst [.int 0,.int 2,.int 3,.int 4]]):=gW (br hcw2) (IS #[0])
   refine db (gy (ir kv (dR pY) (ak (dO (ak (a_ kv (a_ (oN (ak bd (ak bd (ak bd (ak bd ba)))) #[1]) (a_ (a_ (a_ kv (a_ bd kv (nh (m2 _))) e02) bd (fj #[1])) bd (fj #[1])) eg) eg2) (ak kv kn)) (ax rfl)) ba) (jY hch2 hsm))) ?_
   rw[hs,aM,gu]
   have:=ie (h++[.two (wq g) qa qb]) (y++[al.lst [.int 0,.int 2,.int 3,.int 4]]) (some (.int (i:Int))) (some (.str (wq q))) (some (.str [qa])) (some (.str [qb])) o8 (kU (s:=.two (wq g) qa qb) hok ⟨IR hg.1 hg.2,j' _ hqa,j' _ hqb⟩) (by simp[kT,qc,Stm.dp]at hsum ⊢;omega) (by simp;omega) #[18]
   rw[b7]at this
   exact this
 ·rintro ρ bF ⟨h,y,o4,o5,o6,o7,o8,rfl,rfl,hok,hsum,js,vS⟩
  rw[show(fx 0 (((2*m:Nat):Int)/2).toNat,(none:Option (Nat×List W))).1.length=m from by rw[fJ];omega]at hsum js vS
  have vS:h≠[]:=vS #[0]
  refine wW (fun n ρ bF=>∃(h:List Stm) (o8:Option W),ρ=[some (.loc d),some (.str pool),some #[2],some #[22],o4,o5,o6,o7,o8]/\bF=st++(.lst (Ay.map W.str)::.lst (h.map Stm.w)::y)/\(∀s∈h,s.ok)/\qc h<=m/\h≠[]/\h.length=n) h.length
   ⟨h,o8,rfl,rfl,hok,hsum,vS,rfl⟩ ?_ ?_
  ·rintro n ρ bF ⟨h,o8,rfl,rfl,hok,js,vS,hn⟩
   obtain⟨s,hs⟩:∃s,s=st++(.lst (Ay.map W.str)::.lst (h.map Stm.w)::y):=⟨_,rfl⟩
   rw[<- hs]
   have hcw:s[st.length]?=some (.lst (Ay.map W.str)):=by rw[hs,dA];rfl
   have pY:s[st.length+1]?=some (.lst (h.map Stm.w)):=by rw[hs,iP];rfl
   have dU:=jD (br pY)
   rw[az]at dU
   by_cases h1:1<h.length
   ·refine .inr ⟨aR (a_ (cg kn dU) bd (gA (aN #[0]))),?_⟩
    obtain⟨h',x,z,rfl⟩:=Az h1
    have hch':s[st.length+1]?=some (.lst ((h'.map Stm.w++[x.w])++[z.w])):=by rw[pY];simp
    refine aF (a9 (ir kv (dR pY) ba (zZ hch'))) ?_
    have hc2:(s.set (st.length+1) (.lst (h'.map Stm.w++[x.w])))[st.length+1]?=some (.lst (h'.map Stm.w++[x.w])):=yI pY
    have hcw2:(s.set (st.length+1) (.lst (h'.map Stm.w++[x.w])))[st.length]?=some (.lst (Ay.map W.str)):=by rw[CJ #[0]];exact hcw
    have Kf:=jD (br hc2)
    obtain⟨g,hg,eg⟩:∃g:Nat,(8<=g/\g<10)/\8+(((h'.map Stm.w++[x.w]).length:Nat):Int)%2=(g:Int):=⟨(8+(((h'.map Stm.w++[x.w]).length:Nat):Int)%2).toNat,by omega,by omega⟩
    have ew:bH #[2] (.int (8+(((h'.map Stm.w++[x.w]).length:Nat):Int)%2)) (s.set (st.length+1) (.lst (h'.map Stm.w++[x.w])))=.ok (.str (wq g)) (s.set (st.length+1) (.lst (h'.map Stm.w++[x.w]))):=by rw[eg];exact gW (br hcw2) (IS hg.2)
    refine db (oP (dO (ak (a_ kv (a_ bd (a_ (cg kn Kf) bd (fj #[1])) gz) ew) (ak (a_ kv (oO bd) (gW (br hc2) uG)) kn)) (ax rfl)) kv (oO bd) (sd hc2)) ?_
    rw[List.set_set,hs,gu]
    refine⟨_,_,rfl,(h'++[x]).length,by rw[<- hn];simp,h'++[.jn (wq g) x z],_,rfl,?_,kU (s:=.jn (wq g) x z) (fun s hs=>hok s (by simp[hs])) ⟨Nm hg.2 hg.1,hok x #[18],hok z #[18]⟩,?_,by simp,by simp⟩
    ·rw[b7 (l₁:=h') (l₂:=[Stm.jn (wq g) x z])];rfl
    ·simp[kT,qc,Stm.dp]at js ⊢;omega
   ·exact .inl (aR (a_ (cg kn dU) bd (gA (aI #[0]))))
  ·rintro n ρ bF ⟨h,o8,rfl,rfl,hok,js,vS,hn⟩ ht
   have pY:(st++(.lst (Ay.map W.str)::.lst (h.map Stm.w)::y))[st.length+1]?=some (.lst (h.map Stm.w)):=by rw[iP];rfl
   have dU:=jD (br pY)
   rw[az]at dU
   by_cases h1:1<h.length
   ·exact(IP ht (aR (a_ (cg kn dU) bd (gA (aN #[0]))))).elim
   ·obtain⟨x,rfl⟩:∃x,h=[x]:=fB.mp (by have:=List.length_pos_iff.mpr vS;omega)
    refine bI (a_ kv bd (gW (br pY) (show rl ([x].map Stm.w) 0=some x.w from rfl))) ⟨_,_,rfl,⟨_,rfl⟩,by simp[undWs,Stm.und],x,rfl,hok x #[18],?_⟩
    simp[qc]at js;omega
end P
namespace P
open PySem L2
abbrev UC:List Nat:=[65,66,67,68,69,70,71,72,73,74,75,76,77,78,79,80,81,82,83,84,85,86,87,88,89,90]
abbrev LC:List Nat:=[97,98,99,100,101,102,103,104,105,106,107,108,109,110,111,112,113,114,115,116,117,118,119,120,121,122]
abbrev SA:List W:=[.str [115,111,109,101],.str [97,108,108]]
theorem TF{s:List al}{p:Nat}{d:Int}(i:Nat)(hρ:ρ[q]?=some (some (.loc p)))(h:s[p]?=some (.lst (on ds)))(e:ds[i]?=some d):e2 bH (af q) (eC (.int (i:Int))) ρ s=.ok (.int d) s:=a_ (dB hρ) bd (uC h e)
theorem i8{k:List Nat}(h:k∈LD):k=[105,110]\/k=[108,101,102,116]\/k=[114,105,103,104,116]\/k=[98,101,108,111,119]:=by simpa using h
theorem il{k:List Nat}(h:k∈PU):k=[115,111,109,101]\/k=[97,108,108]:=by simpa using h
theorem kW{k:List Nat}(h:k∈JN):k=[97,110,100]\/k=[111,114]:=by simpa using h
theorem Fh{fc:FE}{cT j_ st4 JC:List al}{x y w v:W}(h1:fa ρ st=.ok x st1)(h2:fb ρ st1=.ok y cT)(h3:f x y cT=.ok (.bl true) j_)(h4:fc ρ j_=.ok w st4)(h5:f' y w st4=.ok v JC):qL f f' fa fb fc ρ st=.ok v JC:=by
 unfold qL;rw[h1];simp only[R.bind_ok];rw[h2];simp only[R.bind_ok];rw[h3];simp only[R.bind_ok];rw[h4];exact h5
theorem Fi{fc:FE}{cT j_:List al}{x y:W}(h1:fa ρ st=.ok x st1)(h2:fb ρ st1=.ok y cT)(h3:f x y cT=.ok (.bl false) j_):qL f f' fa fb fc ρ st=.ok (.bl false) j_:=by
 unfold qL;rw[h1];simp only[R.bind_ok];rw[h2];simp only[R.bind_ok];rw[h3];rfl
theorem P1(k:Nat)(hk:k<=1000)(st:List al):Il [.int k] st=.ok (.int (2^k:Nat)) st:=by
 refine e_ (N:=3) (ws:=[.int k]) (body:=Tf) ?_ rfl
 apply aF
 ·(walk_at "evs")
 refine fA (fun i ρ s=>∃o2:Option W,ρ=[iO k,iO (2^i:Nat),o2]/\s=st) (gX (q:=(k:Int)) (st1:=st) kn #[0]) ⟨none,rfl,rfl⟩ (fun _ _ _ _=>trivial) ?_ ?_
 ·rintro i w ρ s hw ⟨o4,rfl,rfl⟩
  obtain⟨hi,rfl⟩:=ik hw
  refine⟨_,rfl,?_⟩
  apply db
  ·exact a9 (a_ kv bd (nh (.inr #[1])))
  ·exact⟨_,_,rfl,_,by rw[show((2^i:Nat):Int)*2=((2^(i+1):Nat):Int) by rw[kG,nX];rfl];rfl,rfl⟩
 ·rintro ρ s ⟨o2,rfl,rfl⟩
  apply bI
  ·(walk_at "evs")
  ·refine⟨_,_,rfl,?_,[],by simp⟩
   rw[show(fx 0 (k:Int).toNat,(none:Option (Nat×List W))).fst.length=k by simp[fJ]]
def AA(a n:Nat):Nat:=if a∈LC then max n 1 else 2^n
def wy(n:Nat):Stm->Nat
 |.one _=>1
 |.two _ _ _=>1
 |.neg s=>wy n s
 |.bnd _ a s=>wy n s*AA a n
 |.jn _ s t=>wy n s+wy n t
theorem IT{a:Nat}(h:n<=100):AA a n<=2^100:=by
 unfold AA
 split
 ·exact aH (show max n 1<=100 by omega) #[1]
 ·exact dQ #[1] h
theorem CN{x y:Nat}(hx:2<=x)(hy:2<=y):x+y<=x*y:=by
 obtain⟨a,rfl⟩:∃a,x=2+a:=⟨x-2,by omega⟩
 obtain⟨b,rfl⟩:∃b,y=2+b:=⟨y-2,by omega⟩
 have:(2+a)*(2+b)=4+2*a+2*b+a*b:=by rw[Nat.add_mul,Nat.mul_add,Nat.mul_add,nF a 2];omega
 have:=bU (a*b)
 omega
theorem AB(h:n<=100):∀s:Stm,wy n s<=2^(101*s.dp)
 |.one _=>lr
 |.two _ _ _=>lr
 |.neg s=>aH (AB h s) (dQ (by decide) (by simp only[Stm.dp];omega))
 |.bnd _ a s=>by
  have:=Nat.mul_le_mul (AB h s) (IT (a:=a) h)
  rw[<- Nat.pow_add]at this
  exact aH this (dQ #[1] (by simp only[Stm.dp];omega))
 |.jn _ s t=>by
  have h1:=AB h s
  have h2:=AB h t
  have p1:=s.dp_pos
  have p2:=t.dp_pos
  have e:∀d,1<=d->2<=2^(101*d):=fun d hd=>aH (show 2<=2^1 from ay _) (dQ #[1] #[0])
  have:=CN (e _ p1) (e _ p2)
  rw[<- Nat.pow_add,<- Nat.mul_add]at this
  exact aH (Nat.add_le_add h1 h2) this
theorem IU(h:n<=100){s:Stm}(hd:s.dp<=40):wy n s<2^9000:=eK (AB h s) (Nat.pow_lt_pow_right #[1] #[0])
theorem IV{a:Nat}(h:n<=100):AA a n<2^9000:=eK (IT h) (Nat.pow_lt_pow_right #[1] #[0])
theorem yL(a n:Nat):1<=AA a n:=by
 unfold AA
 split
 ·omega
 ·exact lr
theorem vC(n:Nat):∀s:Stm,1<=wy n s
 |.one _=>ay _
 |.two _ _ _=>ay _
 |.neg s=>vC n s
 |.bnd _ a s=>Nat.mul_pos (vC n s) (yL a n)
 |.jn _ s t=>aH (vC n s) (mM _ _)
theorem CO{a b:Nat}(ha:a<2^9000)(hb:b<2^9000):zU (.int (a:Nat)) (.int (b:Nat)) st=.ok (.int ((a*b:Nat):Int)) st:=by
 have:=fj (C:=My) (f:=fun i j=>i*j) (p:=(a:Int)) (q:=(b:Int)) (st:=st) ⟨by rw[Int.natAbs_natCast];exact ha,by rw[Int.natAbs_natCast];exact hb⟩
 rw[nX]
 exact this
theorem LH:∀c∈LL,(decide (97<=c)&&decide (c<=122))=decide (c∈LC):=by decide
theorem AC(h:c∈LL)(st:List al):CF [.str [c]] st=.ok (.bl (decide (c∈LC))) st:=by
 rw[<- LH c h]
 refine bX (bI ?_ ⟨_,_,rfl,rfl,rfl⟩)
 by_cases h1:97<=c
 ·rw[aN h1,jQ]
  exact Fh bd kv (by show R.ok (W.bl (decide (97<=c))) st=_;rw[aN h1]) bd rfl
 ·rw[aI h1,k6]
  exact Fi bd kv (by show R.ok (W.bl (decide (97<=c))) st=_;rw[aI h1])
theorem LI(h:c∈LL)(hn:n<=100)(st:List al):Ai [.str [c],.int (n:Nat)] st=.ok (.int (AA c n:Nat)) st:=by
 have hs:=AC h st
 refine bX ?_
 unfold AA
 by_cases h1:c∈LC
 ·rw[aN h1]at hs
  rw[aC h1]
  refine bI (vk (aR (bc kn hs rfl)) (cg (ak kv (ak bd ba)) MB)) ⟨_,_,rfl,?_,rfl⟩
  congr 1
  split<;>omega
 ·rw[aI h1]at hs
  rw[aJ h1]
  exact bI (vm (aR (bc kn hs rfl)) (bc kn (P1 n #[0] st) rfl)) ⟨_,_,rfl,rfl,rfl⟩
def Stm.pl:Stm->Bool
 |.one _=>true
 |.two _ _ _=>true
 |_=>false
def Stm.wd:Stm->List Nat
 |.one _=>PR
 |.two k _ _=>k
 |.neg _=>Q2
 |.bnd k _ _=>k
 |.jn k _ _=>k
theorem hV(s:Stm)(st:List al):bH s.w (.int 0) st=.ok (.str s.wd) st:=by cases s<;>exact tW rfl
theorem iF{s:Stm}(h:s.ok)(st:List al):CG [s.w] st=.ok (.bl s.pl) st:=by
 refine bX (bI ?_ ⟨_,_,rfl,rfl,rfl⟩)
 have w0:∀ρ:cv,ρ[0]?=some (some s.w)->e2 bH (af 0) (eI 0) ρ st=.ok (.str s.wd) st:=fun ρ hρ=>a_ (dB hρ) bd (hV s st)
 cases s with
 |one a=>exact yl (a_ (w0 _ rfl) bd rfl)
 |two k a b=>
  have hk:k∈LD:=h.1
  have hk:=i8 hk
  rcases hk with rfl|rfl|rfl|rfl<;>exact qO #[12] #[12]
 |neg s=>exact qO (a_ (w0 _ rfl) bd rfl) (a_ (w0 _ rfl) bd rfl)
 |bnd k a s=>
  have hk:k∈PU:=h.1
  have hk:=il hk
  rcases hk with rfl|rfl<;>exact qO #[12] #[12]
 |jn k s t=>
  have hk:k∈JN:=h.1
  have hk:=kW hk
  rcases hk with rfl|rfl<;>exact qO #[12] #[12]
theorem LJ(hn:n<=100):∀(s:Stm) (k:Nat),s.ok->s.dp<=k->k<=40->∀st:List al,qo k [s.w,.int (n:Nat)] st=.ok (.int (wy n s:Nat)) st:=by
 intro s
 induction s with
 |one a=>
  intro k hs hd hk st
  obtain⟨k,rfl⟩:∃j,k=j+1:=⟨k-1,by simp only[Stm.dp]at hd;omega⟩
  refine bX (body:=w5 (qo k)) (N:=3) ?_
  exact aF (a9 (a_ kv bd (hV _ st))) (bD (aR (bc kn (iF hs st) rfl)) (be bd ⟨_,_,rfl,rfl,rfl⟩))
 |two q a b=>
  intro k hs hd hk st
  obtain⟨k,rfl⟩:∃j,k=j+1:=⟨k-1,by simp only[Stm.dp]at hd;omega⟩
  refine bX (body:=w5 (qo k)) (N:=3) ?_
  exact aF (a9 (a_ kv bd (hV _ st))) (bD (aR (bc kn (iF hs st) rfl)) (be bd ⟨_,_,rfl,rfl,rfl⟩))
 |neg s ih=>
  intro k hs hd hk st
  obtain⟨k,rfl⟩:∃j,k=j+1:=⟨k-1,by simp only[Stm.dp]at hd;omega⟩
  refine bX (body:=w5 (qo k)) (N:=3) ?_
  refine aF (a9 (a_ kv bd (hV _ st))) (aQ (aR (bc kn (iF hs st) rfl)) (aU (bD #[6] (be (bc (ak kx kn) (ih k hs (by simp only[Stm.dp]at hd;omega) #[0] st) rfl) ⟨_,_,rfl,rfl,rfl⟩))))
 |bnd q a s ih=>
  intro k hs hd hk st
  obtain⟨k,rfl⟩:∃j,k=j+1:=⟨k-1,by simp only[Stm.dp]at hd;omega⟩
  refine bX (body:=w5 (qo k)) (N:=3) ?_
  have hp:=iF hs st
  obtain⟨hq,ha,hs'⟩:=hs
  have hd':s.dp<=k:=by simp only[Stm.dp]at hd;omega
  have e1:=ih k hs' hd' #[0] st
  have hm:=LI ha hn st
  have hq:=il hq
  rcases hq with rfl|rfl<;>exact aF (a9 (a_ kv bd (hV _ st))) (aQ (aR (bc kn hp rfl)) (aU (aQ #[6] (aU (aQ #[6] (aU (bI (a_ (bc (ak kx kn) e1 rfl) (bc (ak kx kn) hm rfl) (CO (IU hn #[0]) (IV hn))) ⟨_,_,rfl,rfl,rfl⟩)))))))
 |jn q s t ih1 ih2=>
  intro k hs hd hk st
  obtain⟨k,rfl⟩:∃j,k=j+1:=⟨k-1,by have:=s.dp_pos;simp only[Stm.dp]at hd;omega⟩
  refine bX (body:=w5 (qo k)) (N:=3) ?_
  have hp:=iF hs st
  obtain⟨hq,hs1,Bp⟩:=hs
  have p1:=s.dp_pos
  have p2:=t.dp_pos
  simp only[Stm.dp]at hd
  have e1:=ih1 k hs1 #[0] #[0] st
  have e2:=ih2 k Bp #[0] #[0] st
  have hq:=kW hq
  rcases hq with rfl|rfl<;>exact aF (a9 (a_ kv bd (hV _ st))) (aQ (aR (bc kn hp rfl)) (aU (aQ #[6] (aU (bD #[6] (be (a_ (bc (ak kx kn) e1 rfl) (bc (ak kx kn) e2 rfl) gz) ⟨_,_,rfl,rfl,rfl⟩))))))
theorem IW(hn:n<=100):∀(s:Stm) (k:Nat),s.ok->s.dp<=k->k<=40->∀st:List al,qp k [s.w,.int (n:Nat)] st=.ok (.int (wy n s:Nat)) st:=by
 intro s
 induction s with
 |one a=>
  intro k hs hd hk st
  obtain⟨k,rfl⟩:∃j,k=j+1:=⟨k-1,by simp only[Stm.dp]at hd;omega⟩
  refine bX (body:=xb (qp k)) (N:=2) ?_
  have w0:∀ρ:cv,ρ[0]?=some (some (Stm.one a).w)->e2 bH (af 0) (eI 0) ρ st=.ok (.str PR) st:=fun ρ hρ=>a_ (dB hρ) bd (hV _ st)
  exact aQ (aR #[12]) (aU (aQ (gN (aR #[12]) (aR #[12])) (aU (aQ (gN (aR #[12]) (aR #[12])) (aU (bI bd ⟨_,_,rfl,rfl,rfl⟩))))))
 |two q a b=>
  intro k hs hd hk st
  obtain⟨k,rfl⟩:∃j,k=j+1:=⟨k-1,by simp only[Stm.dp]at hd;omega⟩
  refine bX (body:=xb (qp k)) (N:=2) ?_
  have w0:∀ρ:cv,ρ[0]?=some (some (Stm.two q a b).w)->e2 bH (af 0) (eI 0) ρ st=.ok (.str q) st:=fun ρ hρ=>a_ (dB hρ) bd (hV _ st)
  have hq:q∈LD:=hs.1
  have hq:=i8 hq
  rcases hq with rfl|rfl|rfl|rfl<;>exact aQ (aR #[12]) (aU (aQ (gN (aR #[12]) (aR #[12])) (aU (aQ (gN (aR #[12]) (aR #[12])) (aU (bI bd ⟨_,_,rfl,rfl,rfl⟩))))))
 |neg s ih=>
  intro k hs hd hk st
  obtain⟨k,rfl⟩:∃j,k=j+1:=⟨k-1,by simp only[Stm.dp]at hd;omega⟩
  refine bX (body:=xb (qp k)) (N:=2) ?_
  exact bD (aR (a_ (a_ kv bd (hV _ st)) bd rfl)) (be (bc (ak kx kn) (ih k hs (by simp only[Stm.dp]at hd;omega) #[0] st) rfl) ⟨_,_,rfl,rfl,rfl⟩)
 |bnd q a s ih=>
  intro k hs hd hk st
  obtain⟨k,rfl⟩:∃j,k=j+1:=⟨k-1,by simp only[Stm.dp]at hd;omega⟩
  refine bX (body:=xb (qp k)) (N:=2) ?_
  have w0:∀ρ:cv,ρ[0]?=some (some (Stm.bnd q a s).w)->e2 bH (af 0) (eI 0) ρ st=.ok (.str q) st:=fun ρ hρ=>a_ (dB hρ) bd (hV _ st)
  obtain⟨hq,ha,hs'⟩:=hs
  have hd':s.dp<=k:=by simp only[Stm.dp]at hd;omega
  have e1:=ih k hs' hd' #[0] st
  have hb:∃b:Bool,Bz (da (e2 fQ #[10] (eC (.str [115,111,109,101])))) (da (e2 fQ #[10] (eC (.str [97,108,108])))) [some (Stm.bnd q a s).w,some (.int (n:Nat))] st=.ok true st/\Bz (da (e2 fQ #[10] (eC (.str [97,110,100])))) (da (e2 fQ #[10] (eC (.str [111,114])))) [some (Stm.bnd q a s).w,some (.int (n:Nat))] st=.ok false st/\da (e2 fQ #[10] (eC (.str [110,111,116]))) [some (Stm.bnd q a s).w,some (.int (n:Nat))] st=.ok false st:=by
   have hq:=il hq
   rcases hq with rfl|rfl
   ·exact⟨true,rW (aR #[12]),gN (aR #[12]) (aR #[12]),aR #[12]⟩
   ·exact⟨true,gN (aR #[12]) (aR #[12]),gN (aR #[12]) (aR #[12]),aR #[12]⟩
  obtain⟨_,b1,b2,b3⟩:=hb
  refine aQ b3 (aU (aQ b2 (aU (bD b1 ?_))))
  have hin:da (e2 (mR false) #[15] (eC (.str LC))) [some (Stm.bnd q a s).w,some (.int (n:Nat))] st=.ok (decide (a∈LC)) st:=aR (a_ kx bd vz)
  have hwy:wy n (.bnd q a s)=AA a n*wy n s:=nF _ _
  rw[hwy]
  have hc:AA a n<2^9000:=IV hn
  unfold AA at hc ⊢
  by_cases h1:a∈LC
  ·rw[aN h1]at hin
   rw[aC h1]at hc ⊢
   have hmx:(if (n:Int)>1 then(n:Int)else 1)=((max n 1:Nat):Int):=by split<;>omega
   have om:=MB (p:=1) (q:=(n:Int)) (st:=st)
   rw[hmx]at om
   exact kI (bD hin (be (a_ (cg (ak bd kn) om) (bc (ak kx kn) e1 rfl) (CO hc (IU hn #[0]))) ⟨_,_,rfl,rfl,rfl⟩))
  ·rw[aI h1]at hin
   rw[aJ h1]at hc ⊢
   exact kI (aQ hin (aU (be (a_ (a_ bd kv (tK hn)) (bc (ak kx kn) e1 rfl) (CO hc (IU hn #[0]))) ⟨_,_,rfl,rfl,rfl⟩)))
 |jn q s t ih1 ih2=>
  intro k hs hd hk st
  obtain⟨k,rfl⟩:∃j,k=j+1:=⟨k-1,by have:=s.dp_pos;simp only[Stm.dp]at hd;omega⟩
  refine bX (body:=xb (qp k)) (N:=2) ?_
  have w0:∀ρ:cv,ρ[0]?=some (some (Stm.jn q s t).w)->e2 bH (af 0) (eI 0) ρ st=.ok (.str q) st:=fun ρ hρ=>a_ (dB hρ) bd (hV _ st)
  obtain⟨hq,hs1,Bp⟩:=hs
  have p1:=s.dp_pos
  have p2:=t.dp_pos
  simp only[Stm.dp]at hd
  have e1:=ih1 k hs1 #[0] #[0] st
  have e2:=ih2 k Bp #[0] #[0] st
  have hq:=kW hq
  rcases hq with rfl|rfl
  ·exact aQ (aR #[12]) (aU (bD (rW (aR #[12])) (be (a_ (bc (ak kx kn) e1 rfl) (bc (ak kx kn) e2 rfl) gz) ⟨_,_,rfl,rfl,rfl⟩)))
  ·exact aQ (aR #[12]) (aU (bD (gN (aR #[12]) (aR #[12])) (be (a_ (bc (ak kx kn) e1 rfl) (bc (ak kx kn) e2 rfl) gz) ⟨_,_,rfl,rfl,rfl⟩)))
def V1:Nat->List Nat
 |0=>[105,110]
 |1=>[111,110,101]
 |2=>[108,101,102,116]
 |3=>[114,105,103,104,116]
 |_=>[98,101,108,111,119]
def o9(k a b:Nat):W:=if k=1 then .tup [.str (V1 1),.str [a]]else .tup [.str (V1 k),.str [a],.str [b]]
def vD(k a b:Nat):Nat:=if k=1 then a else b
theorem LK(m:Nat):Builtin.bitAnd (m:Int) 1=((m%2:Nat):Int):=by
 unfold Builtin.bitAnd
 rw[aN #[0],aN #[0]]
 show((((m:Int).toNat &&& 1:Nat)):Int)=_
 rw[bu,Nat.and_one_is_mod]
theorem LM:oF (.int (m:Nat)) (.int 1) st=.ok (.int ((m%2:Nat):Int)) st:=by
 rw[<- LK];exact fj trivial
theorem P2{a:Nat}:zF (.int (a:Nat)) (.int (c:Nat)) st=.ok (.int ((a/2^c:Nat):Int)) st:=by
 have:=fj (C:=fun(_ j:Int)=>0<=j) (f:=fun i j=>i/2^j.toNat) (p:=(a:Int)) (q:=(c:Int)) (st:=st) #[0]
 rw[show zF (.int (a:Nat)) (.int (c:Nat)) st=_ from this,bu]
 simp
theorem P3{x c:Nat}(st:List al)(h1:fa ρ st=.ok (.int (x:Nat)) st)(h2:fb ρ st=.ok (.int (c:Nat)) st) :
  e2 fQ (e2 oF (e2 zF fa fb) (eI 1)) (eI 1) ρ st=.ok (.bl (decide (x/2^c%2=1))) st:=by
 refine a_ (a_ (a_ h1 h2 P2) bd LM) bd (jh ?_)
 by_cases h:x/2^c%2=1
 ·rw[h];rfl
 ·rw[aI h,bz];omega
theorem TH{k:Nat}(hk:k<5):k=0\/k=1\/k=2\/k=3\/k=4:=by omega
theorem P4(y q:Nat):decide (y/2^q%2=1)=bt y q:=(f_).symm
def addS(k:Nat)(lk:List #[3])(us:List Nat)(q:Nat):Nat:=match k with
 |2=>(match lx lk q with|none=>0|some t=>2^t)
 |3=>(match ly lk q with|none=>0|some t=>2^t)
 |_=>us.getD q 0
section
variable{ps:List Pl}{sz:List Nat}{lk:List #[3]}{us:List Nat}
abbrev Vn:FS:=fD (da (e2 fQ (e2 oF (e2 zF (af 5) (af 7)) (eI 1)) (eI 1))) (fD (da (e2 fQ #[10] (eC (.str [98,101,108,111,119])))) (b6 6 (e2 p_ (af 6) (e2 bH (af 2) (af 7)))) (fD (bnd (da (e2 fQ #[10] (eC (.str [108,101,102,116])))) (da (iB (e2 bH (e2 bH (af 1) (af 7)) (eI 0))))) (b6 6 (e2 p_ (af 6) (e2 oE (eI 1) (e2 bH (e2 bH (af 1) (af 7)) (eI 0))))) (fD (bnd (da (e2 fQ #[10] (eC (.str [114,105,103,104,116])))) (da (iB (e2 bH (e2 bH (af 1) (af 7)) (eI 1))))) (b6 6 (e2 p_ (af 6) (e2 oE (eI 1) (e2 bH (e2 bH (af 1) (af 7)) (eI 1))))) b_))) b_
theorem TJ(h:Gr ps S sz lk)(hl:ps.length<=100)(vZ:us.length=ps.length){k a b pl pu y z:Nat}(hk:k=2\/k=3\/k=4)(j':st[pl]?=some (.lst (lk.map kr)))(Q5:st[pu]?=some (.lst (nW us)))(hq:q<ps.length){o3 o4:Option W} :
  Vn [some (o9 k a b),some (.loc pl),some (.loc pu),o3,o4,some (.int (y:Nat)),some (.int (z:Nat)),some (.int (q:Int))] st=.nx [some (o9 k a b),some (.loc pl),some (.loc pu),o3,o4,some (.int (y:Nat)),some (.int ((if bt y q=true then z ||| addS k lk us q else z:Nat):Int)),some (.int (q:Int))] st:=by
 obtain⟨l1,l2,_⟩:=h.ok
 have tbq:=P3 (x:=y) (c:=q) st (fa:=af 5) (fb:=af 7) (ρ:=[some (o9 k a b),some (.loc pl),some (.loc pu),o3,o4,some (.int (y:Nat)),some (.int (z:Nat)),some (.int (q:Int))]) kv kv
 rw[P4]at tbq
 cases hb:bt y q with
 |false=>
  rw[hb]at tbq
  rw[aJ #[1]]
  exact fz (aR tbq) rfl
 |true=>
  rw[hb]at tbq
  rw[aC rfl]
  obtain⟨x,hx⟩:∃x,lk[q]?=some x:=⟨_,aq #[0]⟩
  have hxe:lk.getD q (none,none)=x:=gO hx
  obtain⟨lx1,lx2⟩:=h.lk hx
  have hlq:bH (.loc pl) (.int (q:Int)) st=.ok (kr x) st:=gW (br j') (fK (by rw[aG,hx];rfl))
  refine gc (aR tbq) ?_
  rcases hk with rfl|rfl|rfl
  ·have l0:∀(ρ:cv),ρ[1]?=some (some (.loc pl))->ρ[7]?=some (some (.int (q:Int)))->e2 bH (e2 bH (af 1) (af 7)) (eI 0) ρ st=.ok (oW x.1) st:=fun ρ h1 h7=>a_ (a_ (dB h1) (dB h7) hlq) bd rfl
   refine fz rfl ?_
   have ha:addS 2 lk us q=match x.1 with|none=>0|some t=>2^t:=by show(match lx lk q with|none=>0|some t=>2^t)=_;rw[show lx lk q=x.1 by show(lk.getD q _).1=_;rw[hxe]]
   rw[ha]
   cases hx1:x.1 with
   |none=>
    rw[hx1]at l0
    refine fz (fy rfl (s9 (l0 _ rfl rfl))) (fz (jO rfl) ?_)
    show RS.nx _ _=_
    rw[show z ||| 0=z from Nat.or_zero z]
   |some t=>
    rw[hx1]at l0
    have ht:=lx1 t hx1
    exact gc (fy rfl (sZ (l0 _ rfl rfl))) (a9 (a_ kv (a_ bd (l0 _ rfl rfl) (tK #[0])) xg))
  ·have l0:∀(ρ:cv),ρ[1]?=some (some (.loc pl))->ρ[7]?=some (some (.int (q:Int)))->e2 bH (e2 bH (af 1) (af 7)) (eI 1) ρ st=.ok (oW x.2) st:=fun ρ h1 h7=>a_ (a_ (dB h1) (dB h7) hlq) bd rfl
   refine fz rfl (fz (jO rfl) ?_)
   have ha:addS 3 lk us q=match x.2 with|none=>0|some t=>2^t:=by show(match ly lk q with|none=>0|some t=>2^t)=_;rw[show ly lk q=x.2 by show(lk.getD q _).2=_;rw[hxe]]
   rw[ha]
   cases hx1:x.2 with
   |none=>
    rw[hx1]at l0
    refine fz (fy rfl (s9 (l0 _ rfl rfl))) ?_
    show RS.nx _ _=_
    rw[show z ||| 0=z from Nat.or_zero z]
   |some t=>
    rw[hx1]at l0
    have ht:=lx2 t hx1
    exact gc (fy rfl (sZ (l0 _ rfl rfl))) (a9 (a_ kv (a_ bd (l0 _ rfl rfl) (tK #[0])) xg))
  ·have hg:us[q]?=some (us.getD q 0):=by rw[aT,aq #[0]];rfl
   exact gc rfl (a9 (a_ kv (a_ kv kv (Nj Q5 hg)) xg))
def AD(k x y z:Nat):Bool:=if k=1 then decide (x≠0)&&decide (x &&& (x-1)=0)else if k=0 then decide (x &&& y=x)else decide (x &&& z=x)
theorem CP{P:Nat->Nat->Prop}(hM:IJ kvs P){pd:Nat}(hc:st[pd]?=some (.dct kvs))(hi:ρ[i]?=some (some (.loc pd)))(he:fe ρ st=.ok (.str [c]) st):∃x:Nat,(∀j,bt x j=true↔P c j)/\na (af i) fe (eI 0) ρ st=.ok (.int (x:Nat)) st:=by
 obtain⟨x,h1,h2⟩:=hM c
 refine⟨x,h2,?_⟩
 have hd:ko st (.loc pd)=some (pd,kvs):=by simp only[ko,hc]
 unfold na
 rw[dB hi]
 simp only[R.bind_ok,hd]
 rw[he]
 simp only[R.bind_ok,eC]
 rw[hd]
 show R.ok ((kR kvs (DK.s [c])).getD (.int 0)) _=_
 rw[h1]
theorem xj(h:Gr ps S sz lk)(hl:ps.length<=100)(vZ:us.length=ps.length){k a b pl pu pd:Nat}(hk:k<5){P:Nat->Nat->Prop}(hM:IJ kvs P)(j':st[pl]?=some (.lst (lk.map kr)))(Q5:st[pu]?=some (.lst (nW us)))(Q6:st[pd]?=some (.dct kvs)) :
  ∃x y z:Nat,(∀j,bt x j=true↔P a j)/\(∀j,bt y j=true↔P (vD k a b) j)/\(∀j,bt z j=true↔∃q,q<ps.length/\bt y q=true/\bt (addS k lk us q) j=true)/\t0 [o9 k a b,.loc pl,.loc pu,.loc pd] st=.ok (.bl (AD k x y z)) st:=by
 obtain⟨l1,l2,_⟩:=h.ok
 have e1:∀ρ:cv,ρ[0]?=some (some (o9 k a b))->e2 bH (af 0) (eI 1) ρ st=.ok (.str [a]) st:=fun ρ h0=>by
  obtain rfl|rfl|rfl|rfl|rfl:=TH hk<;>exact a_ (dB h0) bd rfl
 obtain⟨x,hx,ex⟩:=CP hM Q6 (i:=3) (ρ:=[some (o9 k a b),some (.loc pl),some (.loc pu),some (.loc pd),none,none,none,none]) rfl (e1 _ rfl)
 obtain⟨y,hy,_⟩:=CP hM Q6 (c:=vD k a b) (i:=3) (ρ:=[some (o9 k a b),some (.loc pl),some (.loc pu),some (.loc pd),some (.int (x:Nat)),none,none,none]) rfl (fe:=eC (.str [vD k a b])) rfl
 by_cases hk1:k=1
 ·subst hk1
  have exz:∃z:Nat,∀j,bt z j=true↔∃q,q<ps.length/\bt y q=true/\bt (addS 1 lk us q) j=true:=by
   have:∀n,∃z:Nat,∀j,bt z j=true↔∃q,q<n/\bt y q=true/\bt (addS 1 lk us q) j=true:=fun n=>by
    induction n with
    |zero=>exact⟨0,fun j=>⟨fun z=>(by rw[show bt 0 j=false from dP j]at z;cases z),fun⟨q,h,_⟩=>absurd h (by omega)⟩⟩
    |succ n ih=>
     obtain⟨z,hz⟩:=ih
     refine⟨if bt y n=true then z ||| addS 1 lk us n else z,fun j=>?_⟩
     by_cases e:bt y n=true
     ·rw[aC e,xh,d_,hz j]
      constructor
      ·rintro(⟨q,a,b⟩|a)
       ·exact⟨q,by omega,b⟩
       ·exact⟨n,by omega,e,a⟩
      ·rintro⟨q,a,b⟩
       by_cases eq:q=n
       ·subst eq;exact .inr b.2
       ·exact .inl ⟨q,by omega,b⟩
     ·rw[aJ e,hz j]
      constructor
      ·rintro⟨q,a,b⟩;exact⟨q,by omega,b⟩
      ·rintro⟨q,a,b⟩
       by_cases eq:q=n
       ·subst eq;exact absurd b.1 e
       ·exact⟨q,by omega,b⟩
   exact this _
  obtain⟨z,hz⟩:=exz
  refine⟨x,y,z,hx,hy,hz,?_⟩
  refine bX (N:=8) (body:=DM) ?_
  refine aF (a9 ex) (bD rfl ?_)
  have hn:e2 B8 (af 4) (eI 0) [some (o9 1 a b),some (.loc pl),some (.loc pu),some (.loc pd),some (.int (x:Nat)),none,none,none] st=.ok (.bl (decide (x≠0))) st:=a_ kv bd (Mz (by
   by_cases e:x=0
   ·subst e;rfl
   ·rw[aN e,fY,bz];omega))
  show ju _ (aX (cK _) _ _ _)
  unfold AD
  rw[aC rfl]
  by_cases e:x=0
  ·rw[aI (show ¬ x≠0 by simpa using e)]at hn ⊢
   exact be (rX hn) ⟨_,_,rfl,rfl,rfl⟩
  ·rw[aN (show x≠0 from e)]at hn ⊢
   have hs:wc (.int (x:Nat)) (.int 1) st=.ok (.int ((x-1:Nat):Int)) st:=by
    show R.ok (W.int ((x:Int)-1)) st=_
    rw[show(x:Int)-1=((x-1:Nat):Int) by omega]
   refine be (lM hn (a_ (a_ kv (a_ kv bd hs) IH) bd (jh (k:=decide (x &&& (x-1)=0)) ?_))) ⟨_,_,rfl,by rw[jQ],rfl⟩
   by_cases e:x &&& (x-1)=0
   ·rw[e];rfl
   ·rw[aI e,bz];omega
 ·have hlb:vD k a b=b:=by unfold vD;rw[aJ hk1]
  rw[hlb]at hy
  have e2':∀ρ:cv,ρ[0]?=some (some (o9 k a b))->e2 bH (af 0) (eI 2) ρ st=.ok (.str [b]) st:=fun ρ h0=>by
   obtain rfl|rfl|rfl|rfl|rfl:=TH hk
   ·exact a_ (dB h0) bd rfl
   ·exact absurd rfl hk1
   ·exact a_ (dB h0) bd rfl
   ·exact a_ (dB h0) bd rfl
   ·exact a_ (dB h0) bd rfl
  obtain⟨y',hy',ey⟩:=CP hM Q6 (i:=3) (ρ:=[some (o9 k a b),some (.loc pl),some (.loc pu),some (.loc pd),some (.int (x:Nat)),none,none,none]) rfl (e2' _ rfl)
  have hyy:y'=y:=j8 fun j=>by rw[cF];exact(hy' j).trans (hy j).symm
  subst hyy
  have ie:∀(z:Nat) (o7:Option W),e2 fQ (e2 oF (af 4) (af 6)) (af 4) [some (o9 k a b),some (.loc pl),some (.loc pu),some (.loc pd),some (.int (x:Nat)),some (.int (y':Nat)),some (.int (z:Nat)),o7] st=.ok (.bl (decide (x &&& z=x))) st:=fun z o7=>a_ (a_ kv kv IH) kv (jh (by
   by_cases e:x &&& z=x
   ·rw[e,aN rfl];simp
   ·rw[aI e,bz];omega))
  have walk:(k=2\/k=3\/k=4)->∃z:Nat,(∀j,bt z j=true↔∃q,q<ps.length/\bt y' q=true/\bt (addS k lk us q) j=true)/\∃o7:Option W,i' (dM (ah (cr eW #[16]) aK)) (g8 7) Vn [some (o9 k a b),some (.loc pl),some (.loc pu),some (.loc pd),some (.int (x:Nat)),some (.int (y':Nat)),some (.int ((0:Nat):Int)),none] st=.nx [some (o9 k a b),some (.loc pl),some (.loc pu),some (.loc pd),some (.int (x:Nat)),some (.int (y':Nat)),some (.int (z:Nat)),o7] st:=fun hk'=>by
   have dU:eW [.loc pl] st=.ok (.int ((ps.length:Nat):Int)) st:=by
    have:=jD (br j')
    rw[az,l2]at this;exact this
   obtain⟨ρ2,s2,e,z,o7,hρ,hs,hz⟩:=rV (f:=g8 7) (body:=Vn) (ck:=none) (fun i ρ s=>∃(z:Nat) (o7:Option W),ρ=[some (o9 k a b),some (.loc pl),some (.loc pu),some (.loc pd),some (.int (x:Nat)),some (.int (y':Nat)),some (.int (z:Nat)),o7]/\s=st/\∀j,bt z j=true↔∃q,q<i/\bt y' q=true/\bt (addS k lk us q) j=true)
    (ws:=fx 0 ps.length) (ρ:=[some (o9 k a b),some (.loc pl),some (.loc pu),some (.loc pd),some (.int (x:Nat)),some (.int (y':Nat)),some (.int ((0:Nat):Int)),none]) (st:=st) 0
    ⟨0,none,rfl,rfl,fun j=>⟨fun z=>(by rw[show bt 0 j=false from dP j]at z;cases z),fun⟨q,h,_⟩=>absurd h #[0]⟩⟩ (fun _ _ _ _=>trivial) (fun i w ρ s hw hI=>by
     rw[dy]at hI ⊢
     obtain⟨z,o7,rfl,rfl,hz⟩:=hI
     obtain⟨hi,rfl⟩:=ik hw
     rw[d7]
     refine⟨_,_,_,rfl,TJ h hl vZ hk' j' Q5 hi,_,_,rfl,rfl,fun j=>?_⟩
     by_cases e:bt y' i=true
     ·rw[aC e,xh,d_,hz j]
      constructor
      ·rintro(⟨q,a,b⟩|a)
       ·exact⟨q,by omega,b⟩
       ·exact⟨i,by omega,e,a⟩
      ·rintro⟨q,a,b⟩
       by_cases eq:q=i
       ·subst eq;exact .inr b.2
       ·exact .inl ⟨q,by omega,b⟩
     ·rw[aJ e,hz j]
      constructor
      ·rintro⟨q,a,b⟩;exact⟨q,by omega,b⟩
      ·rintro⟨q,a,b⟩
       by_cases eq:q=i
       ·subst eq;exact absurd b.1 e
       ·exact⟨q,by omega,b⟩)
   rw[hρ,hs]at e
   rw[dy,fJ]at hz
   refine⟨z,hz,o7,?_⟩
   have hr:=gX (fs:=ah (cr eW #[16]) aK) (ρ:=[some (o9 k a b),some (.loc pl),some (.loc pu),some (.loc pd),some (.int (x:Nat)),some (.int (y':Nat)),some (.int ((0:Nat):Int)),none]) (st:=st) (q:=((ps.length:Nat):Int)) (st1:=st) (ak (cg kn dU) ba) #[0]
   rw[bu]at hr
   exact(ux hr).trans e
  by_cases hk0:k=0
  ·subst hk0
   obtain⟨z,hz⟩:∃z:Nat,∀j,bt z j=true↔∃q,q<ps.length/\bt y' q=true/\bt (addS 0 lk us q) j=true:=by
    have:∀n,∃z:Nat,∀j,bt z j=true↔∃q,q<n/\bt y' q=true/\bt (addS 0 lk us q) j=true:=fun n=>by
     induction n with
     |zero=>exact⟨0,fun j=>⟨fun z=>(by rw[show bt 0 j=false from dP j]at z;cases z),fun⟨q,h,_⟩=>absurd h (by omega)⟩⟩
     |succ n ih=>
      obtain⟨z,hz⟩:=ih
      refine⟨if bt y' n=true then z ||| addS 0 lk us n else z,fun j=>?_⟩
      by_cases e:bt y' n=true
      ·rw[aC e,xh,d_,hz j]
       constructor
       ·rintro(⟨q,a,b⟩|a)
        ·exact⟨q,by omega,b⟩
        ·exact⟨n,by omega,e,a⟩
       ·rintro⟨q,a,b⟩
        by_cases eq:q=n
        ·subst eq;exact .inr b.2
        ·exact .inl ⟨q,by omega,b⟩
      ·rw[aJ e,hz j]
       constructor
       ·rintro⟨q,a,b⟩;exact⟨q,by omega,b⟩
       ·rintro⟨q,a,b⟩
        by_cases eq:q=n
        ·subst eq;exact absurd b.1 e
        ·exact⟨q,by omega,b⟩
    exact this _
   refine⟨x,y',z,hx,by rw[hlb];exact hy',hz,?_⟩
   refine bX (N:=8) (body:=DM) ?_
   exact aF (a9 ex) (aQ rfl (aU (aF (a9 ey) (aF (a9 kv) (aQ rfl (aU (bI (ie y' none) ⟨_,_,rfl,rfl,rfl⟩)))))))
  ·have hk':k=2\/k=3\/k=4:=by omega
   obtain⟨z,hz,o7,ew⟩:=walk hk'
   refine⟨x,y',z,hx,by rw[hlb];exact hy',hz,?_⟩
   refine bX (N:=8) (body:=DM) ?_
   have ht:AD k x y' z=decide (x &&& z=x):=by unfold AD;rw[aJ hk1,aJ hk0]
   rw[ht]
   rcases hk' with rfl|rfl|rfl
   ·exact aF (a9 ex) (aQ rfl (aU (aF (a9 ey) (aF (a9 kv) (bD rfl (aF (vj (a9 bd) |>.trans ew) (bI (ie z o7) ⟨_,_,rfl,rfl,rfl⟩)))))))
   ·exact aF (a9 ex) (aQ rfl (aU (aF (a9 ey) (aF (a9 kv) (bD rfl (aF (vj (a9 bd) |>.trans ew) (bI (ie z o7) ⟨_,_,rfl,rfl,rfl⟩)))))))
   ·exact aF (a9 ex) (aQ rfl (aU (aF (a9 ey) (aF (a9 kv) (bD rfl (aF (vj (a9 bd) |>.trans ew) (bI (ie z o7) ⟨_,_,rfl,rfl,rfl⟩)))))))
end
section
variable{f:FG}
theorem D1{ρ0:cv}(hc:jd st ck)(F:α->W)(T:α->Bool)(Y:α->W):∀(L:List α) (gg:List W),(∀a∈L,∃ρ',f (F a) ρ0=some ρ'/\t ρ' st=.ok (T a) st/\(T a=true->el ρ' st=.ok (Y a) st)) ->
  nN f t el ck ρ0 (L.map F) gg st=.ok (gg++(L.filter T).map Y) st
 |[],gg,_=>by rw[kD];unfold nN;rw[aC hc];simp
 |a::L,gg,h=>by
  obtain⟨ρ',e1,e2,e3⟩:=h a #[18]
  have ih:=fun gg=>D1 hc F T Y L gg fun w' hw'=>h w' (by simp[hw'])
  rw[aW]
  unfold nN
  rw[aC hc,e1]
  simp only[e2]
  cases hT:T a with
  |true=>
   simp only[e3 hT]
   rw[ih]
   simp[jJ,hT]
  |false=>
   simp only
   rw[ih]
   simp[jJ,hT]
theorem D2(L:List α)(F:α->W)(T:α->Bool)(Y:α->W)(h:fi ρ st=.ok (L.map F,ck) st1)(hl:L.length<=1000000)(hc:jd st1 ck)
  (hs:∀a∈L,∃ρ',f (F a) (va cap ρ)=some ρ'/\t ρ' st1=.ok (T a) st1/\(T a=true->el ρ' st1=.ok (Y a) st1)):gj cap fi f t el ρ st=.ok (.loc st1.length) (st1++[.lst ((L.filter T).map Y)]):=by
 have hl':(L.map F).length<=kN:=by rw[az];exact hl
 unfold gj
 rw[h]
 simp only[R.bind_ok]
 rw[aC hl',D1 hc F T Y L [] hs]
 simp only[R.bind_ok,iT,nJ]
 rw[aC]
 rw[az]
 exact aH (cI _ _) hl
theorem lR(L:List α)(F:α->W)(Y:α->W)(h:fi ρ st=.ok (L.map F,ck) st1)(hl:L.length<=1000000)(hc:jd st1 ck)
  (hs:∀a∈L,∃ρ',f (F a) (va cap ρ)=some ρ'/\el ρ' st1=.ok (Y a) st1):gj cap fi f m9 el ρ st=.ok (.loc st1.length) (st1++[.lst (L.map Y)]):=by
 have:=D2 (fi:=fi) (f:=f) (t:=m9) (el:=el) (cap:=cap) L F (fun _=>true) Y h hl hc fun w hw=>by
  obtain⟨ρ',e1,e2⟩:=hs w hw
  exact⟨ρ',e1,rfl,fun _=>e2⟩
 rw[iz.mpr (fun _ _=>rfl)]at this
 exact this
theorem D3:∀l:List Bool,wf (l.map W.bl)=some l
 |[]=>rfl
 |b::l=>by simp only[aW,wf,D3 l,n4]
theorem IX{l:List Bool}(h:lstOf st n=some (l.map W.bl)):ye [.loc n] st=.ok (.bl (l.all id)) st:=by
 unfold ye
 simp only[h,dY,D3]
end
def AP(ps:List Pl)(c j:Nat):Bool:=decide (c∈uF ps j)
theorem o_{ps:List Pl}(h:AP ps c j=true):j<ps.length:=by
 have h:c∈uF ps j:=hZ h
 unfold uF at h
 cases e:ps[j]? with
 |none=>rw[e]at h;simp at h
 |some p=>exact(aj.mp e).1
theorem xk{ps:List Pl}{p:Pl}(h:ps[j]?=some p)(c:Nat):AP ps c j=decide (c∈p.m):=by unfold AP uF;rw[h];rfl
def wl(ps:List Pl)(c:Nat):List Nat:=(List.range ps.length).filter (AP ps c)
theorem lS{ps:List Pl}:j∈wl ps c↔AP ps c j=true:=by
 unfold wl
 rw[dk,df]
 exact⟨fun h=>h.2,fun h=>⟨o_ h,h⟩⟩
theorem P5(l:List Nat)(n:Nat):undWs n (nW l)=true:=by
 unfold nW
 induction l with
 |nil=>rfl
 |cons x r ih=>simp[undWs,W.und,ih]
section
variable{ps:List Pl}{sz:List Nat}{lk:List #[3]}
theorem vE(hn:ps.length<=100)(c:Nat)(st:List al):tY [dC ps,.str [c]] st=.ok (.tup (nW (wl ps c))) st:=by
 have hc:=D2 (fi:=mf (ah (af 0) aK)) (f:=Ka 2 (g9 (g8 0) (g9 (g8 1) rO))) (t:=da (e2 (mR false) (af 2) (e2 bH (af 1) (eI 1)))) (el:=af 0) (cap:=[none,none,some 1]) (ρ:=[some (dC ps),some (.str [c])]) (st:=st) (st1:=st) (ck:=none) (List.range ps.length) (fun i=>W.tup [.int (i:Nat),(ps.map Pl.w).getD i .non]) (AP ps c) (fun i=>.int (i:Nat))
  (by
   have:=CM (fs:=ah (af 0) aK) (ρ:=[some (dC ps),some (.str [c])]) (st:=st) (st1:=st) (ws:=ps.map Pl.w) kn
   unfold km at this
   rw[az]at this
   exact this) (by rw[cE];omega) trivial fun i hi=>by
  rw[df]at hi
  obtain⟨p,hp⟩:∃p,ps[i]?=some p:=⟨_,aq hi⟩
  have e:(ps.map Pl.w).getD i .non=p.w:=gO (by rw[aG,hp];rfl)
  rw[e]
  refine⟨[some (.int (i:Nat)),some p.w,some (.str [c])],rfl,?_,fun _=>dB rfl⟩
  rw[xk hp]
  exact aR (a_ kv (a_ kv bd (Lx p st)) vz)
 refine e_ (bI (cg (ak hc ba) (qP (br bP))) ⟨_,_,rfl,rfl,_,rfl⟩) ?_
 simp only[undWs,W.und,iL]
 exact P5 (wl ps c) _
def Uu(ps:List Pl)(o:Option Nat)(c:Nat):Bool:=match o with
 |none=>false
 |some q=>AP ps c q
theorem vF{o:Option Nat}(ho:∀q,o=some q->q<ps.length)(c:Nat)(st:List al):nP [dC ps,oW o,.str [c]] st=.ok (.bl (Uu ps o c)) st:=by
 refine bX ?_
 cases o with
 |none=>exact bI (rX (jg kv rfl)) ⟨_,_,rfl,rfl,rfl⟩
 |some q=>
  obtain⟨p,hp⟩:∃p,ps[q]?=some p:=⟨_,aq (ho q rfl)⟩
  refine bI (lM (jg kv rfl) (a_ kv (a_ (a_ kv kv (DS hp st)) bd (Lx p st)) vz)) ⟨_,_,rfl,?_,rfl⟩
  show W.bl _=W.bl (AP ps c q)
  rw[xk hp]
def Kb(A B:List (Option Nat))(p:Nat):Option Nat:=match A.getD p none with
 |some u=>some u
 |none=>B.getD p none
theorem TK{A:List (Option Nat)}{ua ub p:Nat}(hA:st[ua]?=some (.lst (A.map oW)))(hB:st[ub]?=some (.lst (B.map oW)))(lA:p<A.length)(lB:p<B.length):Ip [.tup [.loc ua,.loc ub],.int (p:Nat)] st=.ok (oW (Kb A B p)) st:=by
 have ia:bH (.loc ua) (.int (p:Nat)) st=.ok (oW (A.getD p none)) st:=gW (br hA) (fK (by rw[aG,jZ none lA];rfl))
 have ib:bH (.loc ub) (.int (p:Nat)) st=.ok (oW (B.getD p none)) st:=gW (br hB) (fK (by rw[aG,jZ none lB];rfl))
 refine bX ?_
 unfold Kb
 cases h:A.getD p none with
 |none=>
  rw[h]at ia
  exact bI (vm (aR (jg (a_ kx kv ia) rfl)) (a_ kx kv ib)) ⟨_,_,rfl,rfl,rfl⟩
 |some u=>
  rw[h]at ia
  exact bI (vk (aR (jg (a_ kx kv ia) rfl)) (a_ kx kv ia)) ⟨_,_,rfl,rfl,rfl⟩
def IY(lk:List #[3])(u j:Nat):Prop:=lx lk u=some j\/ly lk u=some j
theorem sf(h:Gr ps S sz lk){u:Nat}(hu:u<ps.length)(hc:IY lk u j):lo sz u<=lo sz j/\lo sz j<=j/\j<u:=by
 have b:=yJ h hu
 rcases hc with hc|hc
 ·exact b.bx j hc
 ·exact b.by' j hc
theorem xn(h:Gr ps S sz lk){u v:Nat}(hv:v<ps.length)(Ww:u<v)(h1:IY lk u j)(h2:IY lk v j):False:=by
 obtain⟨a1,a2,a3⟩:=sf h #[0] h1
 obtain⟨b1,b2,b3⟩:=sf h hv h2
 have b:=yJ h hv
 have key:∀t,lo sz t<=u->u<=t->t<v->lo sz t<=j/\j<=t:=fun t c1 c2 c3=>by
  have:=Nk h t #[0] u c1 c2
  omega
 rcases b.cov u #[0] Ww with⟨t,e,c1,c2⟩|⟨t,e,c1,c2⟩
 ·have c3:=(b.bx t e).2.2
  obtain⟨k1,k2⟩:=key t c1 c2 c3
  rcases h2 with h2|h2
  ·have:=h2.symm.trans e;cases this;omega
  ·exact b.dis t j e h2 j k1 k2 b2 (ay _)
 ·have c3:=(b.by' t e).2.2
  obtain⟨k1,k2⟩:=key t c1 c2 c3
  rcases h2 with h2|h2
  ·exact b.dis j t h2 e j b2 (ay _) k1 k2
  ·have:=h2.symm.trans e;cases this;omega
theorem vG(h:Gr ps S sz lk){u v:Nat}(hu:u<ps.length)(hv:v<ps.length)(h1:IY lk u j)(h2:IY lk v j):u=v:=by
 rcases jp u v with c|c|c
 ·exact(xn h hv c h1 h2).elim
 ·exact c
 ·exact(xn h hu c h2 h1).elim
theorem D4(h:Gr ps S sz lk):∀q,q<ps.length->lo sz q<=j->j<q->∃u,IY lk u j/\(u=q\/(lo sz q<=u/\u<q)):=by
 intro q
 induction q using Nat.strongRecOn with
 |_ q ih=>
  intro hq h1 h2
  have b:=yJ h hq
  have key:∀t,(lx lk q=some t\/ly lk q=some t)->lo sz q<=lo sz t->t<q->lo sz t<=j->j<=t->∃u,IY lk u j/\(u=q\/(lo sz q<=u/\u<q)):=fun t e c0 c1 c2 c3=>by
   by_cases ej:j=t
   ·subst ej;exact⟨q,e,.inl rfl⟩
   ·obtain⟨u,hu,hu2⟩:=ih t c1 #[0] c2 #[0]
    refine⟨u,hu,.inr ?_⟩
    have:=sf h hq (show IY lk q t from e)
    rcases hu2 with rfl|hu2<;>omega
  rcases b.cov j h1 h2 with⟨t,e,c1,c2⟩|⟨t,e,c1,c2⟩
  ·have:=b.bx t e;exact key t (.inl e) this.1 this.2.2 c1 c2
  ·have:=b.by' t e;exact key t (.inr e) this.1 this.2.2 c1 c2
theorem getD_some{l:List (Option α)}{p:Nat}{u:α}(h:l.getD p none=some u):l[p]?=some (some u):=by
 rw[aT]at h
 cases e:l[p]? with
 |none=>rw[e]at h;cases h
 |some x=>rw[e]at h;simp only[Option.getD_some]at h;rw[h]
theorem P6{A:List (Option Nat)}(hU:Up lk Prod.fst ps.length A){u:Nat}(e:A.getD j none=some u):lx lk u=some j:=by
 obtain⟨x,hx,hf⟩:=hU.1 j u (getD_some e)
 show(lk.getD u _).1=_
 rw[gO hx];exact hf
theorem P7(hU:Up lk Prod.snd ps.length B){u:Nat}(e:B.getD j none=some u):ly lk u=some j:=by
 obtain⟨x,hx,hf⟩:=hU.1 j u (getD_some e)
 show(lk.getD u _).2=_
 rw[gO hx];exact hf
theorem D5(h:Gr ps S sz lk){u:Nat}(hu:u<ps.length):lk[u]?=some (lk.getD u (none,none)):=by
 rw[aT,aq (by have:=h.ok.2.1;omega)];rfl
theorem Nn(h:Gr ps S sz lk){A:List (Option Nat)}(hU:Up lk Prod.fst ps.length A){u:Nat}(hu:u<ps.length)(e:lx lk u=some j):∃v,A.getD j none=some v:=by
 obtain⟨v,hv⟩:=hU.2 u _ j hu (D5 h hu) e
 exact⟨v,gO hv⟩
theorem No(h:Gr ps S sz lk){A:List (Option Nat)}(hU:Up lk Prod.snd ps.length A){u:Nat}(hu:u<ps.length)(e:ly lk u=some j):∃v,A.getD j none=some v:=by
 obtain⟨v,hv⟩:=hU.2 u _ j hu (D5 h hu) e
 exact⟨v,gO hv⟩
theorem xo(h:Gr ps S sz lk){u:Nat}(e:IY lk u j):u<ps.length:=by
 have hl:=h.ok.2.1
 rcases d5 u ps.length with c|c
 ·exact c
 ·exfalso
  have:lk.getD u (none,none)=(none,none):=by rw[aT,bq #[0]];rfl
  rcases e with e|e
  ·have e:(lk.getD u (none,none)).1=some j:=e
   rw[this]at e;cases e
  ·have e:(lk.getD u (none,none)).2=some j:=e
   rw[this]at e;cases e
theorem AE{A:List (Option Nat)}(hA:Up lk Prod.fst ps.length A)(hB:Up lk Prod.snd ps.length B){u:Nat}(e:Kb A B j=some u):IY lk u j:=by
 unfold Kb at e
 cases hc:A.getD j none with
 |some v=>rw[hc]at e;simp only at e;cases e;exact .inl (P6 hA hc)
 |none=>rw[hc]at e;exact .inr (P7 hB e)
theorem IZ(h:Gr ps S sz lk){A:List (Option Nat)}(hA:Up lk Prod.fst ps.length A)(hB:Up lk Prod.snd ps.length B){u:Nat}(e:Kb A B j=none)(hu:IY lk u j):False:=by
 have hl:=xo h hu
 unfold Kb at e
 rcases hu with hu|hu
 ·obtain⟨v,hv⟩:=Nn h hA hl hu
  rw[hv]at e;cases e
 ·obtain⟨v,hv⟩:=No h hB hl hu
  cases hc:A.getD j none with
  |some v=>rw[hc]at e;cases e
  |none=>rw[hc,hv]at e;cases e
def D6(n:Nat)(sz:List Nat)(B:Nat->Bool)(j:Nat):Prop:=∃q,q<n/\B q=true/\lo sz q<=j/\j<q
theorem I_(h:Gr ps S sz lk){A:List (Option Nat)}(hA:Up lk Prod.fst ps.length A)(hB:Up lk Prod.snd ps.length B)(e:Kb A B j=none)(X:Nat->Bool):¬ D6 ps.length sz X j:=fun zq=>by
 obtain⟨q,hq,_,h1,h2⟩:=zq
 obtain⟨u,hu,_⟩:=D4 h q hq h1 h2
 exact IZ h hA hB e hu
theorem Ja(h:Gr ps S sz lk){A:List (Option Nat)}(hA:Up lk Prod.fst ps.length A)(hB:Up lk Prod.snd ps.length B){u:Nat}(e:Kb A B j=some u)(X:Nat->Bool):D6 ps.length sz X j↔D6 ps.length sz X u\/X u=true:=by
 have hu:=AE hA hB e
 have hl:=xo h hu
 have hb:=sf h hl hu
 constructor
 ·rintro⟨q,hq,hX,h1,h2⟩
  obtain⟨v,hv,hv2⟩:=D4 h q hq h1 h2
  have:u=v:=vG h hl (xo h hv) hu hv
  subst this
  rcases hv2 with rfl|hv2
  ·exact .inr hX
  ·exact .inl ⟨q,hq,hX,hv2⟩
 ·rintro(⟨q,hq,hX,h1,h2⟩|hX)
  ·have:=Nk h q hq u h1 #[0]
   exact⟨q,hq,hX,by omega,by omega⟩
  ·exact⟨u,hl,hX,by omega,by omega⟩
open Classical in
theorem Jb(h:Gr ps S sz lk)(hn:ps.length<=100){A:List (Option Nat)}(hA:Up lk Prod.fst ps.length A)(hB:Up lk Prod.snd ps.length B)(lA:A.length=ps.length)(lB:B.length=ps.length){ua ub:Nat}(a b:Nat)(ca:st[ua]?=some (.lst (A.map oW)))(cb:st[ub]?=some (.lst (B.map oW))) :
  Ak [dC ps,.tup [.loc ua,.loc ub],.str [a],.str [b]] st=.ok (.bl (decide (∀j,j<ps.length->AP ps a j=true->D6 ps.length sz (AP ps b) j))) st:=by
 refine e_ (N:=7) (body:=M4) (ws:=[dC ps,.tup [.loc ua,.loc ub],.str [a],.str [b]]) ?_ rfl
 have e0:gj [none] (dz (af 0)) (g8 0) m9 (eC (.bl false)) [some (dC ps),some (.tup [.loc ua,.loc ub]),some (.str [a]),some (.str [b]),none,none,none] st=.ok #[2] (st++[.lst ((List.replicate ps.length false).map W.bl)]):=by
  have:=lR (fi:=dz (af 0)) (f:=g8 0) (el:=eC (.bl false)) (cap:=[none]) (ρ:=[some (dC ps),some (.tup [.loc ua,.loc ub]),some (.str [a]),some (.str [b]),none,none,none]) (st:=st) (st1:=st) (ck:=none) ps Pl.w (fun _=>.bl false) (kA kv) #[0] trivial fun p _=>⟨[some p.w],rfl,rfl⟩
  rw[this]
  congr 3
  rw[List.map_replicate,List.map_const']
 refine aF (a9 e0) ?_
 have hdn:ve (ah (e2 wc (cr eW (ah (af 0) aK)) (eI 1)) (ah (oK (eI 1)) (ah (oK (eI 1)) aK))) [some (dC ps),some (.tup [.loc ua,.loc ub]),some (.str [a]),some (.str [b]),some #[2],none,none] (st++[.lst ((List.replicate ps.length false).map W.bl)])=.ok (tR ((ps.length:Int)-1) ps.length,none) (st++[.lst ((List.replicate ps.length false).map W.bl)]):=by
  have:=PP (fs:=ah (e2 wc (cr eW (ah (af 0) aK)) (eI 1)) (ah (oK (eI 1)) (ah (oK (eI 1)) aK))) (ρ:=[some (dC ps),some (.tup [.loc ua,.loc ub]),some (.str [a]),some (.str [b]),some #[2],none,none]) (st:=st++[.lst ((List.replicate ps.length false).map W.bl)]) (i:=(ps.length:Int)-1) (j:=-1) (ak (a_ (cg kn (kS ps _)) bd (fj trivial)) (ak (oO bd) (ak (oO bd) ba))) #[0]
  rw[show((ps.length:Int)-1 - -1).toNat=ps.length by omega]at this
  exact this
 refine fA (fun i ρ s=>∃(l:List Bool) (o5 o6:Option W),ρ=[some (dC ps),some (.tup [.loc ua,.loc ub]),some (.str [a]),some (.str [b]),some #[2],o5,o6]/\s=st++[.lst (l.map W.bl)]/\l.length=ps.length/\∀j,ps.length<=j+i->j<ps.length->l[j]?=some (decide (D6 ps.length sz (AP ps b) j)))
  hdn ⟨_,none,none,rfl,rfl,og,fun j h1 h2=>absurd h1 #[0]⟩ (fun _ _ _ _=>trivial) ?_ ?_
 ·rintro i w ρ s hw ⟨l,o5,o6,rfl,rfl,hl,hI⟩
  obtain⟨hi,rfl⟩:i<ps.length/\w=.int (((ps.length-1-i:Nat)):Int):=by
   unfold tR at hw
   rw[aG]at hw
   have hi:i<ps.length:=by
    rcases d5 i ps.length with c|c
    ·exact c
    ·rw[bq (by simpa using c)]at hw;cases hw
   rw[cU hi]at hw
   simp only[n4,l6]at hw
   exact⟨hi,by rw[<- hw];congr 1;omega⟩
  obtain⟨j,hj⟩:∃j,j=ps.length-1-i:=⟨_,rfl⟩
  rw[<- hj]
  have hjn:j<ps.length:=by omega
  have ca':=cH (x:=[al.lst (l.map W.bl)]) ca
  have cb':=cH (x:=[al.lst (l.map W.bl)]) cb
  have hc:(st++[al.lst (l.map W.bl)])[st.length]?=some (.lst (l.map W.bl)):=bP
  have eu:=TK ca' cb' (p:=j) #[0] #[0]
  refine⟨_,rfl,aF (a9 (bc (ak kv kn) eu rfl)) ?_⟩
  have ev:qG (iB (af 6)) (J_ (e2 bH (af 4) (af 6)) (bS 3 nP (ah (af 0) (ah (af 6) (ah (af 3) aK))))) [some (dC ps),some (.tup [.loc ua,.loc ub]),some (.str [a]),some (.str [b]),some #[2],some (.int (j:Int)),some (oW (Kb A B j))] (st++[al.lst (l.map W.bl)])=.ok (.bl (decide (D6 ps.length sz (AP ps b) j))) (st++[al.lst (l.map W.bl)]):=by
   cases hu:Kb A B j with
   |none=>
    rw[aI (I_ h hA hB hu _)]
    exact rX (jg kv rfl)
   |some u=>
    have pY:=AE hA hB hu
    have hl':=xo h pY
    have hlt:=(sf h hl' pY).2.2
    have hbs:=Ja h hA hB hu (AP ps b)
    have hlu:=hI u #[0] hl'
    have ix:bH #[2] (.int (u:Int)) (st++[al.lst (l.map W.bl)])=.ok (.bl (decide (D6 ps.length sz (AP ps b) u))) (st++[al.lst (l.map W.bl)]):=gW (br hc) (fK (by rw[aG,hlu];rfl))
    have eb:=vF (ps:=ps) (o:=some u) (fun q e=>by cases e;exact hl') b (st++[al.lst (l.map W.bl)])
    by_cases hb:D6 ps.length sz (AP ps b) u
    ·rw[aN hb]at ix
     rw[aN (hbs.mpr (.inl hb))]
     exact lM (jg kv rfl) (yl (a_ kv kv ix))
    ·rw[aI hb]at ix
     have e2:decide (D6 ps.length sz (AP ps b) j)=AP ps b u:=by
      rw[cF,bG,hbs]
      exact⟨fun z=>z.resolve_left hb,.inr⟩
     rw[e2]
     exact lM (jg kv rfl) (qO (a_ kv kv ix) (bc (ak kv (ak kv kn)) eb rfl))
  have hjl:j<(l.map W.bl).length:=by rw[az,hl];exact hjn
  refine db (oP ev kv kv (CK hc hjl)) ⟨_,_,rfl,l.set j (decide (D6 ps.length sz (AP ps b) j)),_,_,rfl,?_,by rw[ke];exact hl,fun q h1 h2=>?_⟩
  ·rw[dN,sD];rfl
  ·by_cases e:j=q
   ·subst e;exact bQ #[0]
   ·rw[ce e];exact hI q #[0] h2
 ·rintro ρ s ⟨l,o5,o6,rfl,rfl,hl,hI⟩
  rw[show(tR ((ps.length:Int)-1) ps.length,(none:Option (Nat×List W))).1.length=ps.length by unfold tR;simp]at hI
  have hc:(st++[al.lst (l.map W.bl)])[st.length]?=some (.lst (l.map W.bl)):=bP
  have eb:=vE hn a (st++[al.lst (l.map W.bl)])
  have ec:=lR (fi:=dz (bS 2 tY (ah (af 0) (ah (af 2) aK)))) (f:=g8 0) (el:=e2 bH (af 1) (af 0)) (cap:=[none,some 4]) (ρ:=[some (dC ps),some (.tup [.loc ua,.loc ub]),some (.str [a]),some (.str [b]),some #[2],o5,o6]) (st:=st++[al.lst (l.map W.bl)]) (st1:=st++[al.lst (l.map W.bl)]) (ck:=none) (wl ps a) (fun j=>W.int (j:Nat)) (fun j=>.bl (decide (D6 ps.length sz (AP ps b) j))) (kA (bc (ak kv kn) eb rfl)) (aH (cI _ _) (by rw[cE];omega)) trivial fun j hj=>by
   have hj':=o_ (lS.mp hj)
   refine⟨[some (.int (j:Nat)),some #[2]],rfl,a_ kv kv (gW (br hc) (fK ?_))⟩
   rw[aG,hI j #[0] hj'];rfl
  have el:lstOf (st++[al.lst (l.map W.bl)]++[al.lst ((wl ps a).map fun j=>W.bl (decide (D6 ps.length sz (AP ps b) j)))]) (st++[al.lst (l.map W.bl)]).length=some (((wl ps a).map fun j=>decide (D6 ps.length sz (AP ps b) j)).map W.bl):=by rw[br bP,bp];rfl
  refine bI (cg (ak ec ba) (IX el)) ⟨_,_,rfl,?_,_,aM _ _ _⟩
  congr 1
  rw[cF,bG,gF]
  simp only[b8,id]
  constructor
  ·intro hh j hj hj2
   have:=hh _ ⟨j,lS.mpr hj2,rfl⟩
   exact hZ this
  ·rintro hh x ⟨j,hj,rfl⟩
   exact aN (hh j (o_ (lS.mp hj)) (lS.mp hj))
end
def RV(n:Nat)(sz:List Nat)(lk:List #[3])(B:Nat->Bool)(k:List Nat)(j:Nat):Prop:=
 if k=[105,110]then B j=true else if k=[108,101,102,116]then ∃q,q<n/\B q=true/\lx lk q=some j else if k=[114,105,103,104,116]then ∃q,q<n/\B q=true/\ly lk q=some j else D6 n sz B j
open Classical in
def Q3(n:Nat)(sz:List Nat)(lk:List #[3])(A:Nat->Nat->Bool):Stm->Bool
 |.one a=>decide (vX (A a) 0 n=1)
 |.two k a b=>decide (∀j,j<n->A a j=true->RV n sz lk (A b) k j)
 |_=>false
section
variable{ps:List Pl}{sz:List Nat}{lk:List #[3]}
theorem LN(ps:List Pl)(a:Nat):(wl ps a).length=vX (AP ps a) 0 ps.length:=by
 unfold wl vX
 rw[<- List.countP_eq_length_filter,List.range_eq_range']
theorem D7{a:Nat}{T:Nat->Bool}{X:Nat->Prop}(h:∀j,j<ps.length->AP ps a j=true->(T j=true↔X j)):((wl ps a).map T).all id=true↔∀j,j<ps.length->AP ps a j=true->X j:=by
 rw[gF]
 simp only[b8,id]
 constructor
 ·intro hh j hj hj2
  exact(h j hj hj2).mp (hh _ ⟨j,lS.mpr hj2,rfl⟩)
 ·rintro hh x ⟨j,hj,rfl⟩
  have h2:=lS.mp hj
  exact(h j (o_ h2) h2).mpr (hh j (o_ h2) h2)
open Classical in
theorem AF(h:Gr ps S sz lk)(hn:ps.length<=100){A:List (Option Nat)}(hA:Up lk Prod.fst ps.length A)(hB:Up lk Prod.snd ps.length B)(lA:A.length=ps.length)(lB:B.length=ps.length){ua ub:Nat}(ca:st[ua]?=some (.lst (A.map oW)))(cb:st[ub]?=some (.lst (B.map oW))){s:Stm}(hs:s.ok)(hp:s.pl=true) :
  Al [s.w,dC ps,.tup [.loc ua,.loc ub]] st=.ok (.bl (Q3 ps.length sz lk (AP ps) s)) st:=by
 refine e_ (N:=6) (body:=M5) (ws:=[s.w,dC ps,.tup [.loc ua,.loc ub]]) ?_ rfl
 have lb:∀a,(wl ps a).length<=1000000:=fun a=>aH (cI _ _) (by rw[cE];omega)
 cases s with
 |one a=>
  have eb:=vE hn a st
  refine aF (a9 (a_ kv bd (hV (.one a) st))) (aF (a9 (bc (ak kv (ak kx ba)) eb rfl)) (bD #[6] (be (a_ (cg kn Cp) bd (jh rfl)) ⟨_,_,rfl,?_,[],(cC _).symm⟩)))
  congr 1
  rw[nW,az,LN]
  show(_==(1:Int))=decide (vX (AP ps a) 0 ps.length=1)
  rw[cF,dL,bG]
  omega
 |two k a b=>
  have eb:=vE hn a st
  have hk:=i8 hs.1
  have i1:∀(ρ:cv) (s:List al),ρ[0]?=some (some (Stm.two k a b).w)->e2 bH (af 0) (eI 1) ρ s=.ok (.str [a]) s:=fun ρ s hρ=>a_ (dB hρ) bd ox
  refine aF (a9 (a_ kv bd (hV (.two k a b) st))) (aF (a9 (bc (ak kv (ak (i1 _ _ rfl) ba)) eb rfl)) ?_)
  show ju _ (aX _ _ [some (Stm.two k a b).w,some (dC ps),some (.tup [.loc ua,.loc ub]),some (.str k),some (.tup (nW (wl ps a))),none] st)
  have hpv:Q3 ps.length sz lk (AP ps) (.two k a b)=decide (∀j,j<ps.length->AP ps a j=true->RV ps.length sz lk (AP ps b) k j):=rfl
  rw[hpv]
  have side:∀(Q:List (Option Nat)) (uq:Nat) (f:Nat->Option Nat),st[uq]?=some (.lst (Q.map oW))->Q.length=ps.length->(∀j u,Q.getD j none=some u->f u=some j/\u<ps.length)->(∀j u,u<ps.length->f u=some j->∃v,Q.getD j none=some v)->(∀u v j,f u=some j->f v=some j->u<ps.length->v<ps.length->u=v)->RV ps.length sz lk (AP ps b) k=(fun j=>∃q,q<ps.length/\AP ps b q=true/\f q=some j) ->
    ju (BB fun w' bF=>w'=W.bl (decide (∀j,j<ps.length->AP ps a j=true->RV ps.length sz lk (AP ps b) k j))/\∃x,bF=st++x) (cK (cr ye (ah (gj [none,some 1,some 5,some 0] (dz (af 4)) (g8 0) m9 (bS 3 nP (ah (af 1) (ah (e2 bH (af 2) (af 0)) (ah (e2 bH (af 3) (eI 2)) aK))))) aK)) [some (Stm.two k a b).w,some (dC ps),some (.tup [.loc ua,.loc ub]),some (.str k),some (.tup (nW (wl ps a))),some (.loc uq)] st):=fun Q uq f cq lq f1 f2 f3 hR=>by
   have ec:=lR (fi:=dz (af 4)) (f:=g8 0) (el:=bS 3 nP (ah (af 1) (ah (e2 bH (af 2) (af 0)) (ah (e2 bH (af 3) (eI 2)) aK)))) (cap:=[none,some 1,some 5,some 0]) (ρ:=[some (Stm.two k a b).w,some (dC ps),some (.tup [.loc ua,.loc ub]),some (.str k),some (.tup (nW (wl ps a))),some (.loc uq)]) (st:=st) (st1:=st) (ck:=none) (wl ps a) (fun j=>W.int (j:Nat)) (fun j=>.bl (Uu ps (Q.getD j none) b)) (kA kv) (lb a) trivial fun j hj=>by
    have hj':=o_ (lS.mp hj)
    have ix:bH (.loc uq) (.int (j:Nat)) st=.ok (oW (Q.getD j none)) st:=gW (br cq) (fK (by rw[aG,jZ none #[0]];rfl))
    exact⟨[some (.int (j:Nat)),some (dC ps),some (.loc uq),some (Stm.two k a b).w],rfl,bc (ak kv (ak (a_ kv kv ix) (ak kx ba))) (vF (fun q e=>(f1 j q e).2) b st) rfl⟩
   have el:lstOf (st++[al.lst ((wl ps a).map fun j=>W.bl (Uu ps (Q.getD j none) b))]) st.length=some (((wl ps a).map fun j=>Uu ps (Q.getD j none) b).map W.bl):=by rw[br bP,bp];rfl
   refine bI (cg (ak ec ba) (IX el)) ⟨_,_,rfl,?_,_,rfl⟩
   congr 1
   rw[cF,bG]
   refine D7 fun j hj hj2=>?_
   rw[hR]
   show _↔∃q,q<ps.length/\AP ps b q=true/\f q=some j
   cases hq:Q.getD j none with
   |none=>
    refine⟨fun z=>Bool.noConfusion z,fun⟨q,q1,q2,q3⟩=>?_⟩
    obtain⟨v,hv⟩:=f2 j q q1 q3
    rw[hv]at hq;cases hq
   |some u=>
    obtain⟨g1,g2⟩:=f1 j u hq
    refine⟨fun z=>⟨u,g2,z,g1⟩,fun⟨q,q1,q2,q3⟩=>?_⟩
    rw[f3 q u j q3 g1 q1 g2]at q2
    exact q2
  rcases hk with rfl|rfl|rfl|rfl
  ·have ec:=lR (fi:=dz (af 4)) (f:=g8 0) (el:=bS 3 nP (ah (af 1) (ah (af 0) (ah (e2 bH (af 2) (eI 2)) aK)))) (cap:=[none,some 1,some 0]) (ρ:=[some (Stm.two [105,110] a b).w,some (dC ps),some (.tup [.loc ua,.loc ub]),some (.str [105,110]),some (.tup (nW (wl ps a))),none]) (st:=st) (st1:=st) (ck:=none) (wl ps a) (fun j=>W.int (j:Nat)) (fun j=>.bl (AP ps b j)) (kA kv) (lb a) trivial fun j hj=>by
    have hj':=o_ (lS.mp hj)
    exact⟨[some (.int (j:Nat)),some (dC ps),some (Stm.two [105,110] a b).w],rfl,bc (ak kv (ak kv (ak kx ba))) (vF (o:=some j) (fun q e=>by cases e;exact hj') b st) rfl⟩
   have el:lstOf (st++[al.lst ((wl ps a).map fun j=>W.bl (AP ps b j))]) st.length=some (((wl ps a).map fun j=>AP ps b j).map W.bl):=by rw[br bP,bp];rfl
   refine aQ #[6] (aU (bD #[6] (be (cg (ak ec ba) (IX el)) ⟨_,_,rfl,?_,_,rfl⟩)))
   congr 1
   rw[cF,bG]
   refine D7 fun j hj hj2=>?_
   unfold RV
   rw[aC rfl]
  ·refine aQ #[6] (aU (aQ #[6] (aU (aQ #[6] (aU (aF (a9 (vk #[6] kx)) ?_))))))
   exact side A ua (lx lk) ca lA (fun j u e=>⟨P6 hA e,xo h (.inl (P6 hA e))⟩) (fun j u hu e=>Nn h hA hu e) (fun u v j e1 e2 hu hv=>vG h hu hv (.inl e1) (.inl e2)) (by funext j;unfold RV;rw[aJ #[1],aC rfl])
  ·refine aQ #[6] (aU (aQ #[6] (aU (aQ #[6] (aU (aF (a9 (vm #[6] kx)) ?_))))))
   exact side B ub (ly lk) cb lB (fun j u e=>⟨P7 hB e,xo h (.inr (P7 hB e))⟩) (fun j u hu e=>No h hB hu e) (fun u v j e1 e2 hu hv=>vG h hu hv (.inr e1) (.inr e2)) (by funext j;unfold RV;rw[aJ #[1],aJ #[1],aC rfl])
  ·have e4:=Jb h hn hA hB lA lB a b ca cb
   refine aQ #[6] (aU (aQ #[6] (aU (bD #[6] (be (bc (ak kv (ak kv (ak kx (ak kx ba)))) e4 rfl) ⟨_,_,rfl,?_,[],(cC _).symm⟩)))))
   congr 1
 |neg s=>cases hp
 |bnd k a s=>cases hp
 |jn k s t=>cases hp
open Classical in
theorem xp(h:Gr ps S sz lk)(hn:ps.length<=100){us:List Nat}(vZ:us.length=ps.length)(Fp:∀k,k<ps.length->TC sz (fun k=>us.getD k 0) k){A:Nat->Nat->Bool}(hA:∀c j,A c j=true->j<ps.length){pl pu pd:Nat}(hM:IJ kvs (fun c j=>A c j=true))(j':st[pl]?=some (.lst (lk.map kr)))(Q5:st[pu]?=some (.lst (nW us)))(Q6:st[pd]?=some (.dct kvs)){s:Stm}(hs:s.ok)(hp:s.pl=true) :
  t0 [s.w,.loc pl,.loc pu,.loc pd] st=.ok (.bl (Q3 ps.length sz lk A s)) st:=by
 cases s with
 |one a=>
  obtain⟨x,y,z,hx,hy,hz,e⟩:=xj h hn vZ (k:=1) (a:=a) (b:=0) #[1] hM j' Q5 Q6
  have e:t0 [(Stm.one a).w,.loc pl,.loc pu,.loc pd] st=.ok (.bl (decide (x≠0)&&decide (x &&& (x-1)=0))) st:=e
  rw[e,IF (n:=ps.length) (A:=A a) fun j=>(hx j).trans ⟨fun z=>⟨hA a j z,z⟩,fun z=>z.2⟩]
  rfl
 |two k a b=>
  have ie:∀(k':Nat),k'<5->k'≠1->(Stm.two k a b).w=o9 k' a b->(∀x y z:Nat,(∀j,bt x j=true↔A a j=true)->(∀j,bt y j=true↔A b j=true)->(∀j,bt z j=true↔∃q,q<ps.length/\bt y q=true/\bt (addS k' lk us q) j=true)->(AD k' x y z=true↔∀j,j<ps.length->A a j=true->RV ps.length sz lk (A b) k j))->t0 [(Stm.two k a b).w,.loc pl,.loc pu,.loc pd] st=.ok (.bl (Q3 ps.length sz lk A (.two k a b))) st:=fun k' hk5 hk1 hw hh=>by
   obtain⟨x,y,z,hx,hy,hz,e⟩:=xj h hn vZ (k:=k') (a:=a) (b:=b) hk5 hM j' Q5 Q6
   rw[hw,e]
   congr 2
   show _=decide (∀j,j<ps.length->A a j=true->RV ps.length sz lk (A b) k j)
   rw[cF,bG]
   rw[show vD k' a b=b by unfold vD;rw[aJ hk1]]at hy
   exact hh x y z hx hy hz
  have sub:∀(x z:Nat) (X:Nat->Prop),(∀j,bt x j=true↔A a j=true)->(∀j,j<ps.length->(bt z j=true↔X j))->(decide (x &&& z=x)=true↔∀j,j<ps.length->A a j=true->X j):=fun x z X hx hz=>by
   rw[bG,IE]
   exact⟨fun hh j hj ha=>(hz j hj).mp (hh j ((hx j).mpr ha)),fun hh j hj=>(hz j (hA a j ((hx j).mp hj))).mpr (hh j (hA a j ((hx j).mp hj)) ((hx j).mp hj))⟩
  rcases i8 hs.1 with rfl|rfl|rfl|rfl
  ·refine ie 0 #[1] #[1] rfl fun x y z hx hy hz=>?_
   show decide (x &&& y=x)=true↔_
   refine sub x y _ hx fun j hj=>?_
   unfold RV
   rw[aC rfl]
   exact hy j
  ·refine ie 2 #[1] #[1] rfl fun x y z hx hy hz=>?_
   show decide (x &&& z=x)=true↔_
   refine sub x z _ hx fun j hj=>?_
   unfold RV
   rw[aJ #[1],aC rfl,hz j]
   refine sF fun q=>n5 fun hq=>and_congr (hy q) ?_
   show bt (match lx lk q with|none=>0|some t=>2^t) j=true↔lx lk q=some j
   cases lx lk q with
   |none=>exact⟨fun z=>(by rw[show bt 0 j=false from dP j]at z;cases z),fun z=>by cases z⟩
   |some t=>simp only;rw[oY,bG,l6]
  ·refine ie 3 #[1] #[1] rfl fun x y z hx hy hz=>?_
   show decide (x &&& z=x)=true↔_
   refine sub x z _ hx fun j hj=>?_
   unfold RV
   rw[aJ #[1],aJ #[1],aC rfl,hz j]
   refine sF fun q=>n5 fun hq=>and_congr (hy q) ?_
   show bt (match ly lk q with|none=>0|some t=>2^t) j=true↔ly lk q=some j
   cases ly lk q with
   |none=>exact⟨fun z=>(by rw[show bt 0 j=false from dP j]at z;cases z),fun z=>by cases z⟩
   |some t=>simp only;rw[oY,bG,l6]
  ·refine ie 4 #[1] #[1] rfl fun x y z hx hy hz=>?_
   show decide (x &&& z=x)=true↔_
   refine sub x z _ hx fun j hj=>?_
   unfold RV
   rw[aJ #[1],aJ #[1],aJ #[1],hz j]
   refine sF fun q=>n5 fun hq=>and_congr (hy q) ?_
   exact Fp q hq j
 |neg s=>cases hp
 |bnd k a s=>cases hp
 |jn k s t=>cases hp
end
def LO(c x j:Nat)(p:Pl):Pl:=⟨p.b,if bt x j=true then eZ ((p.m.filter fun d=>d != c)++[c])else p.m.filter fun d=>d != c⟩
def y_(ps:List Pl)(c x:Nat):List Pl:=ps.mapIdx fun j p=>LO c x j p
def eG(A:Nat->Nat->Bool)(c x:Nat):Nat->Nat->Bool:=fun d j=>if d=c then bt x j else A d j
def CQ(ps:List Pl):Prop:=∀p∈ps,p.m.length<=60/\∀d∈p.m,d∈LL
section
variable{ps:List Pl}{sz:List Nat}{lk:List #[3]}
theorem sg(ps:List Pl)(c x:Nat):(y_ ps c x).length=ps.length:=List.length_mapIdx
theorem yM{p:Pl}(h:ps[j]?=some p)(c x:Nat):(y_ ps c x)[j]?=some (LO c x j p):=by
 unfold y_;rw[List.getElem?_mapIdx,h];rfl
theorem D8(c x j:Nat)(p:Pl)(d:Nat):d∈(LO c x j p).m↔if d=c then bt x j=true else d∈p.m:=by
 unfold LO
 simp only
 by_cases hb:bt x j=true
 ·rw[aC hb,e5,bg,dk,aV]
  by_cases e:d=c
  ·rw[aC e];exact⟨fun _=>hb,fun _=>.inr e⟩
  ·rw[aJ e];exact⟨fun z=>(z.resolve_right e).1,fun z=>.inl ⟨z,by simpa using e⟩⟩
 ·rw[aJ hb,dk]
  by_cases e:d=c
  ·rw[aC e];exact⟨fun z=>absurd z.2 (by simp[e]),fun z=>absurd z hb⟩
  ·rw[aJ e];exact⟨fun z=>z.1,fun z=>⟨z,by simpa using e⟩⟩
theorem P8{x:Nat}(hx:∀j,bt x j=true->j<ps.length):AP (y_ ps c x)=eG (AP ps) c x:=by
 funext d j
 unfold eG
 cases hp:ps[j]? with
 |some p=>
  rw[xk (yM hp c x),xk hp,cF,bG,D8]
  by_cases e:d=c
  ·rw[aC e,aC e]
  ·rw[aJ e,aJ e,bG]
 |none=>
  have hj:ps.length<=j:=iq.mp hp
  have h1:AP (y_ ps c x) d j=false:=by
   cases e:AP (y_ ps c x) d j with
   |false=>rfl
   |true=>have:=o_ e;rw[sg]at this;omega
  have h2:AP ps d j=false:=by
   cases e:AP ps d j with
   |false=>rfl
   |true=>have:=o_ e;omega
  have h3:bt x j=false:=by
   cases e:bt x j with
   |false=>rfl
   |true=>have:=hx j e;omega
  rw[h1,h2,h3]
  split<;>rfl
theorem P9(h:CQ ps)(hc:c∈LL)(x:Nat):CQ (y_ ps c x):=fun p hp=>by
 obtain⟨j,hj⟩:=eX hp
 have hjl:j<ps.length:=by have:=(aj.mp hj).1;rw[sg]at this;exact this
 rw[yM (aq hjl)]at hj
 cases hj
 obtain⟨g1,g2⟩:=h _ (dw hjl)
 have hin:∀d∈(LO c x j ps[j]).m,d∈LL:=fun d hd=>by
  rw[D8]at hd
  by_cases e:d=c
  ·rw[e];exact hc
  ·rw[aJ e]at hd;exact g2 d hd
 refine⟨?_,hin⟩
 unfold LO at hin ⊢
 simp only at hin ⊢
 by_cases hb:bt x j=true
 ·rw[aC hb]at hin ⊢
  have:(eZ ((ps[j].m.filter fun d=>d != c)++[c])).length<=LL.length:=gZ ((jW _).imp fun h=>aY h) hin
  exact aH this #[1]
 ·rw[aJ hb]
  exact aH (cI _ _) g1
theorem Gr.same(h:Gr ps S sz lk):∀{qs:List Pl},qs.map Pl.b=ps.map Pl.b->Gr qs S sz lk:=by
 induction h with
 |nil=>intro qs e;cases qs with
  |nil=>exact .nil
  |cons q r=>simp at e
 |@snoc ps S S' sz lk b k m x hg hs ih=>
  intro qs e
  have hl:qs.length=ps.length+1:=by have:=iJ List.length e;simpa using this
  obtain⟨rs,q,rfl⟩:=se (h:=qs) #[0]
  rw[b7,b7]at e
  have e1:=List.append_inj_left' e rfl
  have e2:=List.append_inj_right' e rfl
  simp only[aW,kD,List.cons.injEq,and_true]at e2
  have hg':=ih e1
  obtain⟨qb,qm⟩:=q
  simp only at e2
  subst e2
  refine .snoc hg' ?_
  have:rs.length=ps.length:=by simpa using hl
  rw[this];exact hs
theorem P_(h:Gr ps S sz lk)(c x:Nat):Gr (y_ ps c x) S sz lk:=h.same (by
 refine d6 fun j=>?_
 rw[aG,aG]
 cases hp:ps[j]? with
 |none=>rw[bq (by rw[sg];exact iq.mp hp)]
 |some p=>rw[yM hp];rfl)
theorem Jc(h:q<ps.length)(st:List al):Iq [dC ps,.int q] st=.ok .non st:=by
 refine Hc (N:=2) (ws:=[dC ps,.int q]) (body:=Tq) ?_
 exact lN (gN (aR (a_ kv bd (gA (aI #[0])))) (aR (a_ kv (cg kn (kS ps st)) (gA (aI #[0]))))) (db ng ⟨_,_,rfl,[],(cC _).symm⟩)
theorem pW(l:List Nat):kM [] (l.map fun c=>[c])=l:=by
 rw[mz]
 induction l with
 |nil=>rfl
 |cons a r ih=>simp only[aW,lY,ih];rfl
theorem Jd(hl:l.length<4000)(h:∀c∈l,c∈LL)(st:List al):Ik [.str l] st=.ok (.str (eZ l)) st:=by
 have hs:(eZ l).length<64:=by
  have:(eZ l).length<=LL.length:=gZ ((jW l).imp fun h=>aY h) fun c hc=>h c (e5.mp hc)
  have e:LL.length=52:=by decide
  omega
 have e1:iD (af 0) [some (.str l)] st=.ok #[2] (st++[.lst (dG (eZ l))]):=by
  unfold iD
  rw[dB (w:=.str l) rfl]
  simp only[R.bind_ok,rQ,dY]
  rw[aC ⟨hl,hs⟩]
 have hj:=vo (sep:=[]) (ls:=(eZ l).map fun c=>[c]) (st:=st++[.lst (dG (eZ l))]) (n:=st.length) (br (by rw[bP];unfold dG;rw[bp];rfl)) (by
  rw[mG];show _<=1000000;simp;omega)
 rw[pW]at hj
 exact e_ (bI (zX bd rfl (ak e1 ba) hj) ⟨_,_,rfl,rfl,_,rfl⟩) rfl
theorem D9(h:st[n]?=some (.dct kvs)):ko st (.loc n)=some (n,kvs):=by simp only[ko,h]
theorem Je(h:st[n]?=some (.dct kvs)):zS st (.loc n)=some (n,kvs):=by simp only[zS,h]
theorem TL{q:Nat}{b:Bool}(h:st[n]?=some (.dct kvs))(hb:(kR kvs (.i q)).isSome=b):E6 false (.int q) (.loc n) st=.ok (.bl b) st:=by
 rw[<- hb];simp only[E6,D9 h,qj];rfl
theorem P'{v:W}(h:st[n]?=some (.dct kvs))(hl:kvs.length<kN):mD (.loc n) (.int q) v st=some (st.set n (.dct (kz kvs (.i q) v))):=by
 simp only[mD,Je h,qj];rw[aC hl]
theorem CT(hn:ps.length<=100)(hg:CQ ps)(hc:c∈LL){L:List Nat}{x:Nat}(hL:∀q,q∈L↔q<ps.length/\bt x q=true)(V_:L.length<=1000)(st:List al):w4 [dC ps,.str [c],.tup (nW L)] st=.ok (dC (y_ ps c x)) st:=by
 refine e_ (N:=8) (body:=M1) (ws:=[dC ps,.str [c],.tup (nW L)]) ?_ (by simp only[undWs,iL];exact CI _ _)
 refine aF (a9 (w:=.loc st.length) (st1:=st++[.dct []]) rfl) ?_
 refine fA (fun i ρ s=>∃(kvs:List (DK×W)) (o4:Option W),ρ=[some (dC ps),some (.str [c]),some (.tup (nW L)),some #[2],o4,none,none,none]/\s=st++[.dct kvs]/\kvs.length<=i/\i<=L.length/\∀q:Nat,(kR kvs (.i q)).isSome=decide (q∈L.take i))
  (kA (st1:=st++[.dct []]) kv) ⟨[],none,rfl,rfl,ay _,bU _,fun q=>by rw[pH];rfl⟩ (fun _ _ _ _=>trivial) ?_ ?_
 ·rintro i w ρ s hw ⟨kvs,o4,rfl,rfl,hk,hi,hd⟩
  obtain⟨q,hq,rfl⟩:∃q,L[i]?=some q/\w=.int (q:Nat):=by
   have hw:(nW L)[i]?=some w:=hw
   simp only[nW,aG,b9]at hw
   obtain⟨q,h1,rfl⟩:=hw
   exact⟨q,h1,rfl⟩
  have hi':i<L.length:=(aj.mp hq).1
  have hqn:=((hL q).mp (bC hq)).1
  have dI:(st++[al.dct kvs])[st.length]?=some (.dct kvs):=bP
  refine⟨_,rfl,aF (gy (bc (ak kv kn) (Jc hqn _) rfl)) (db (oP bd kv kv (P' dI (by show _<1000000;omega))) ⟨_,_,rfl,kz kvs (.i q) (.bl true),_,rfl,dN _ _ _,?_,by omega,fun q'=>?_⟩)⟩
  ·have:=vB (kvs:=kvs) (k:=.i q) (v:=.bl true);omega
  ·rw[vA,pT hq]
   by_cases e:q'=q
   ·subst e;rw[aC rfl];simp
   ·rw[aJ (fun z=>e (by injection z with z;omega)),hd q']
    rw[cF,bG,bG,bg,aV]
    exact⟨.inl,fun z=>z.resolve_right e⟩
 ·rintro ρ s ⟨kvs,o4,rfl,rfl,hk,hi,hd⟩
  rw[show(nW L,(none:Option (Nat×List W))).1.length=L.length by simp[nW],eN]at hd
  refine aF (a9 (oN ba #[1])) ?_
  rw[aM,show(st++[al.dct kvs]).length=st.length+1 by simp]
  refine fA (fun i ρ s=>∃(o4 o6 o7:Option W),ρ=[some (dC ps),some (.str [c]),some (.tup (nW L)),some #[2],o4,some #[22],o6,o7]/\s=st++[.dct kvs,.lst (((y_ ps c x).take i).map Pl.w)])
   (CM (st1:=st++[.dct kvs,.lst []]) (ws:=ps.map Pl.w) kn) ⟨o4,none,none,rfl,by rw[pH];rfl⟩ (fun _ _ _ _=>trivial) ?_ ?_
  ·rintro i w ρ s hw ⟨o4,o6,o7,rfl,rfl⟩
   obtain⟨y,hy,rfl⟩:=pM hw
   obtain⟨p,hp,rfl⟩:∃p,ps[i]?=some p/\y=p.w:=by
    simp only[aG,b9]at hy
    obtain⟨p,h1,rfl⟩:=hy
    exact⟨p,h1,rfl⟩
   obtain⟨g1,g2⟩:=hg p (bC hp)
   have hip:i<ps.length:=(aj.mp hp).1
   obtain⟨s,hs⟩:∃s,s=st++[al.dct kvs,.lst (((y_ ps c x).take i).map Pl.w)]:=⟨_,rfl⟩
   rw[<- hs]
   have um:s[st.length]?=some (.dct kvs):=by rw[hs,dA];rfl
   have vY:s[st.length+1]?=some (.lst (((y_ ps c x).take i).map Pl.w)):=by rw[hs,iP];rfl
   refine⟨_,rfl,aF (a9 (OW (a_ kv bd (Lx p s)) kv (by show _<=1000000;omega))) ?_⟩
   have hin:=TL (q:=i) um (hd i)
   have hfl:(p.m.filter fun d=>d != c).length<=60:=aH (cI _ _) g1
   have ho:=Jd (l:=(p.m.filter fun d=>d != c)++[c]) (by simp;omega) (fun d hd=>by
    rcases bg.mp hd with z|z
    ·exact g2 d (dk.mp z).1
    ·rw[aV.mp z];exact hc) s
   have hsm:((((y_ ps c x).take i).map Pl.w)).length<kN:=by rw[az];have:=List.length_take_le i (y_ ps c x);show _<1000000;omega
   have ie:∀m:List Nat,(LO c x i p)=⟨p.b,m⟩->ju (FB fun ρ bF=>∃(o4 o6 o7:Option W),ρ=[some (dC ps),some (.str [c]),some (.tup (nW L)),some #[2],o4,some #[22],o6,o7]/\bF=st++[.dct kvs,.lst (((y_ ps c x).take (i+1)).map Pl.w)]) (eO (lJ bO (af 5) (ah (fP (ah (e2 bH (af 6) (eI 0)) (ah (af 7) aK))) aK)) [some (dC ps),some (.str [c]),some (.tup (nW L)),some #[2],some (.int (i:Int)),some #[22],some p.w,some (.str m)] s):=fun m hm=>by
    refine db (gy (ir kv (dR vY) (ak (dO (ak (a_ kv bd (PK p s)) kn) (ax rfl)) ba) (jY vY hsm))) ⟨_,_,rfl,_,_,_,rfl,?_⟩
    rw[hs,gu,pT (yM hp c x),b7,hm]
    rfl
   by_cases hb:bt x i=true
   ·rw[aN ((hL i).mpr ⟨hip,hb⟩)]at hin
    refine bD (aR (a_ kv kv hin)) (aF (a9 (bc (ak (a_ kv kv (vn (by show _<=1000000;simp;omega))) ba) ho rfl)) (ie _ ?_))
    unfold LO;rw[aC hb]
   ·rw[aI (fun z=>hb ((hL i).mp z).2)]at hin
    refine aQ (aR (a_ kv kv hin)) (aU (ie _ ?_))
    unfold LO;rw[aJ hb]
  ·rintro ρ s ⟨o4,o6,o7,rfl,rfl⟩
   rw[show(km (ps.map Pl.w),(none:Option (Nat×List W))).1.length=ps.length by rw[sQ,az],dv (by rw[sg];exact ay _)]
   have vY:(st++[al.dct kvs,.lst ((y_ ps c x).map Pl.w)])[st.length+1]?=some (.lst ((y_ ps c x).map Pl.w)):=by rw[iP];rfl
   exact bI (cg kn (qP (br vY))) ⟨_,_,rfl,rfl,_,rfl⟩
end
def kJ(c n:Nat):List Nat:=if c∈LC then(List.range n).map fun i=>2^i else List.range (2^n)
theorem Jf{x:Nat}(h:x∈kJ c n)(j:Nat)(hj:bt x j=true):j<n:=by
 unfold kJ at h
 split at h
 ·obtain⟨i,hi,rfl⟩:=b8.mp h
  rw[oY,bG]at hj
  subst hj;exact df.mp hi
 ·have:=df.mp h
  rcases d5 j n with q|q
  ·exact q
  ·rw[show bt x j=false from fC (aS this (dQ #[1] q))]at hj;cases hj
def Jg(n:Nat)(X:List Nat)(CL:List (List Nat)):Prop:=CL.length=X.length/\∀(i:Nat) (L:List Nat),CL[i]?=some L->L.length<=n/\∀q,q∈L↔q<n/\bt (X.getD i 0) q=true
abbrev BC(L:List Nat):W:=.tup (nW L)
theorem Fj{CL:List (List Nat)}(h:Jg m (List.range (2^m)) CL):Jg (m+1) (List.range (2^(m+1))) (CL++CL.map fun L=>L++[m]):=by
 obtain⟨hl,hb⟩:=h
 rw[cE]at hl
 have rg:∀k i,i<2^k->(List.range (2^k)).getD i 0=i:=fun k i hi=>gO (cU hi)
 have hp:2^(m+1)=2^m+2^m:=by rw[kG];omega
 refine⟨by rw[aE,az,cE];omega,fun i L hL=>?_⟩
 by_cases hi:i<2^m
 ·rw[bj #[0]]at hL
  obtain⟨h1,h2⟩:=hb i L hL
  refine⟨by omega,fun q=>?_⟩
  rw[rg _ _ #[0]]
  rw[rg _ _ hi]at h2
  rw[h2 q]
  refine⟨fun z=>⟨by omega,z.2⟩,fun z=>⟨?_,z.2⟩⟩
  rcases d5 q m with c|c
  ·exact c
  ·have:bt i q=false:=fC (aS hi (dQ #[1] c))
   rw[this]at z;exact absurd z.2 #[1]
 ·rw[dg #[0],hl,aG,b9]at hL
  obtain⟨L',hL',rfl⟩:=hL
  have hi':i-2^m<2^m:=by have:=(aj.mp hL').1;omega
  obtain⟨h1,h2⟩:=hb _ L' hL'
  rw[rg _ _ hi']at h2
  refine⟨by simp;omega,fun q=>?_⟩
  rw[rg _ _ #[0],bg,aV,h2 q]
  have ei:i=2^m+(i-2^m):=by omega
  rw[ei,show 2^m+(i-2^m)-2^m=i-2^m by omega]
  generalize i-2^m=y at hi'
  rcases jp q m with c|c|c
  ·rw[show bt (2^m+y) q=bt y q from lu c y]
   exact⟨fun z=>⟨by omega,(z.resolve_right #[0]).2⟩,fun z=>.inl ⟨c,z.2⟩⟩
  ·subst c
   rw[show bt (2^q+y) q=!(bt y q)from lv y q,show bt y q=false from fC hi']
   exact⟨fun _=>⟨by omega,rfl⟩,fun _=>.inr rfl⟩
  ·exact⟨fun z=>#[0],fun z=>absurd z.1 #[0]⟩
theorem CU(hc:c∈LL)(hn:n<=100)(hm:AA c n<=4096)(st:List al):∃(p:Nat) (y:List al) (CL:List (List Nat)),Jg n (kJ c n) CL/\(st++y)[p]?=some (.lst (CL.map BC))/\Aj [.str [c],.int (n:Nat)] st=.ok (.loc p) (st++y):=by
 suffices hh:ju (BB fun w bF=>∃j x,w=.loc (st.length+j)/\bF=st++x/\∃CL,Jg n (kJ c n) CL/\(st++x)[st.length+j]?=some (.lst (CL.map BC))) (M3 ([W.str [c],.int (n:Nat)].map some++List.replicate (4-2) none) st) by
  obtain⟨j,x,⟨CL,h1,h2⟩,e⟩:=rZ hh
  exact⟨_,x,CL,h1,h2,e⟩
 have hs:=AC hc st
 unfold kJ
 unfold AA at hm
 by_cases h1:c∈LC
 ·rw[aN h1]at hs
  rw[aC h1]
  have ec:=lR (fi:=dM #[16]) (f:=g8 0) (el:=fP (ah (af 0) aK)) (cap:=[none]) (ρ:=[some (.str [c]),some (.int (n:Nat)),none,none]) (st:=st) (st1:=st) (ck:=none) (List.range n) (fun i=>W.int (0+((i:Nat):Int))) (fun i=>BC [i])
   (by
    have:=gX (fs:=ah (af 1) aK) (ρ:=[some (.str [c]),some (.int (n:Nat)),none,none]) (st:=st) (st1:=st) (q:=(n:Int)) kn #[0]
    rw[bu]at this
    exact this) (by rw[cE];omega) trivial fun i hi=>⟨[some (.int (0+(i:Int)))],rfl,by
     rw[d7]
     exact dO kn (ax rfl)⟩
  refine bD (aR (bc kn hs rfl)) (be ec ⟨_,_,rfl,0,_,rfl,rfl,(List.range n).map fun i=>[i],⟨by simp,fun i L hL=>?_⟩,?_⟩)
  ·rw[aG,b9]at hL
   obtain⟨k,hk,rfl⟩:=hL
   have hi:i<n:=by have:=(aj.mp hk).1;rwa[cE]at this
   rw[cU hi]at hk
   cases hk
   refine⟨by simp;omega,fun q=>?_⟩
   rw[aV,gO (x:=2^i) (by rw[aG,cU hi];rfl),oY,bG]
   exact⟨fun e=>⟨by omega,e.symm⟩,fun e=>e.2.symm⟩
  ·rw[bp];exact bP
 ·rw[aI h1]at hs
  rw[aJ h1]at hm ⊢
  refine aQ (aR (bc kn hs rfl)) (aU (aF (a9 (oN (ak (dO ba #[1]) ba) #[1])) ?_))
  refine fA (fun m ρ s=>∃(p:Nat) (y:List al) (CL:List (List Nat)) (o3:Option W),ρ=[some (.str [c]),some (.int (n:Nat)),some (.loc p),o3]/\s=st++y/\st.length<=p/\s[p]?=some (.lst (CL.map BC))/\m<=n/\Jg m (List.range (2^m)) CL)
   (gX (q:=(n:Int)) (st1:=st++[.lst [.tup []]]) kn #[0]) ⟨st.length,[.lst [.tup []]],[[]],none,rfl,rfl,ay _,bP,bU _,rfl,fun i L hL=>?_⟩ (fun _ _ _ _=>trivial) ?_ ?_
  ·have hi:i<1:=(aj.mp hL).1
   obtain rfl:i=0:=by omega
   cases hL
   exact⟨ay _,fun q=>⟨fun z=>(by cases z),fun z=>absurd z.1 #[0]⟩⟩
  ·rintro m w ρ s hw ⟨p,y,CL,o3,rfl,rfl,hp,dI,hmn,hB⟩
   obtain⟨hm',rfl⟩:=ik hw
   rw[bu]at hm'
   rw[d7]
   have h2:2^(m+1)<=2^n:=dQ #[1] hm'
   have hCL:CL.length=2^m:=by have:=hB.1;rwa[cE]at this
   have Qq:2^(m+1)=2^m+2^m:=by rw[kG];omega
   have ec:=lR (fi:=dz (af 2)) (f:=g8 0) (el:=e2 e7 (af 0) (fP #[16])) (cap:=[none,some 3]) (ρ:=[some (.str [c]),some (.int (n:Nat)),some (.loc p),some (.int (m:Int))]) (st:=st++y) (st1:=st++y) (ck:=some (p,CL.map BC)) CL BC (fun L=>BC (L++[m])) (pR kv (br dI)) #[0] (br dI) fun L hL=>by
    obtain⟨i,hi⟩:=eX hL
    have V_:=(hB.2 i L hi).1
    refine⟨[some (BC L),some (.int (m:Int))],rfl,?_⟩
    have:=Cq (ws:=nW L) (xs:=[.int (m:Int)]) (st:=st++y) (by show _<=1000000;simp[nW];omega)
    rw[show nW L++[W.int (m:Int)]=nW (L++[m]) by simp[nW]]at this
    exact a_ kv (dO kn (ax rfl)) this
   have hc1:=cH (x:=[al.lst (CL.map fun L=>BC (L++[m]))]) dI
   have hc2:(st++y++[al.lst (CL.map fun L=>BC (L++[m]))])[(st++y).length]?=some (.lst (CL.map fun L=>BC (L++[m]))):=bP
   have ea:=OQ hc1 hc2 (by show _<=1000000;simp;omega)
   refine⟨_,rfl,db (a9 (a_ kv ec ea)) ⟨_,_,rfl,_,_,CL++CL.map (fun L=>L++[m]),_,rfl,by rw[aM,aM],by rw[aE,aE];omega,?_,hm',Fj hB⟩⟩
   rw[b7,bp]
   exact bP
  ·rintro ρ s ⟨p,y,CL,o3,rfl,rfl,hp,dI,hmn,hB⟩
   rw[show(fx 0 (n:Int).toNat,(none:Option (Nat×List W))).1.length=n by simp[fJ]]at hB
   refine bI kv ⟨_,_,rfl,p-st.length,y,by rw[show st.length+(p-st.length)=p by omega],rfl,CL,hB,?_⟩
   rw[show st.length+(p-st.length)=p by omega];exact dI
theorem AG{f:FG}(I:cv->List al->Prop)(J:List al->Prop)(B:Nat->Bool)(v:W):∀(ws:List W) (ρ:cv) (st:List al) (i0:Nat),I ρ st->(∀ρ st,I ρ st->jd st ck) ->
  (∀i w ρ st,ws[i]?=some w->I ρ st->∃ρ',f w ρ=some ρ'/\((B (i0+i)=true/\∃cT,body ρ' st=.rt v cT/\J cT)\/(B (i0+i)=false/\∃ρ2 cT,body ρ' st=.nx ρ2 cT/\I ρ2 cT))) ->
  (∃i cT,i<ws.length/\B (i0+i)=true/\n6 f body ck ws ρ st=.rt v cT/\J cT)\/(∃ρ2 cT,n6 f body ck ws ρ st=.nx ρ2 cT/\I ρ2 cT/\∀i,i<ws.length->B (i0+i)=false)
 |[],ρ,st,i0,h0,hc,hs=>.inr ⟨ρ,st,by unfold n6;rw[aC (hc _ _ h0)],h0,fun i hi=>absurd hi (by simp)⟩
 |w::ws,ρ,st,i0,h0,hc,hs=>by
  obtain⟨ρ',e1,h⟩:=hs 0 w ρ st rfl h0
  rcases h with⟨hb,cT,e2,hj⟩|⟨hb,ρ2,cT,e2,hI⟩
  ·refine .inl ⟨0,cT,by simp,hb,?_,hj⟩
   unfold n6
   rw[aC (hc _ _ h0),e1]
   simp only[e2]
  ·have e:n6 f body ck (w::ws) ρ st=n6 f body ck ws ρ2 cT:=by
    conv=>lhs;unfold n6
    rw[aC (hc _ _ h0),e1]
    simp only[e2]
   rw[e]
   rcases AG I J B v ws ρ2 cT (i0+1) hI hc (fun i w ρ st hw hI=>by
    have:=hs (i+1) w ρ st (by simpa using hw) hI
    rw[show i0+(i+1)=i0+1+i by omega]at this
    exact this)with⟨i,s3,hi,hb3,e3,hj3⟩|⟨ρ3,s3,e3,hI3,hb3⟩
   ·exact .inl ⟨i+1,s3,by simp;omega,by rw[show i0+(i+1)=i0+1+i by omega];exact hb3,e3,hj3⟩
   ·refine .inr ⟨ρ3,s3,e3,hI3,fun i hi=>?_⟩
    cases i with
    |zero=>exact hb
    |succ i=>rw[show i0+(i+1)=i0+1+i by omega];exact hb3 i (by simp at hi;omega)
theorem AH{P:RS->Prop}{gb:FS}{f:FG}{k:E3}(I:cv->List al->Prop)(J:List al->Prop)(B:Nat->Bool)(v:W)(h:fi ρ st=.ok k st1)(h0:I ρ st1)(hc:∀ρ st,I ρ st->jd st k.2)
  (hs:∀i w ρ st,k.1[i]?=some w->I ρ st->∃ρ',f w ρ=some ρ'/\((B i=true/\∃cT,body ρ' st=.rt v cT/\J cT)\/(B i=false/\∃ρ2 cT,body ρ' st=.nx ρ2 cT/\I ρ2 cT)))
  (h1:∀i cT,i<k.1.length->B i=true->J cT->P (.rt v cT)) (h2:∀ρ2 cT,(∀i,i<k.1.length->B i=false)->I ρ2 cT->ju P (gb ρ2 cT)):ju P (aX (i' fi f body) gb ρ st):=by
 have hx:=ux (f:=f) (body:=body) h
 rcases AG I J B v k.1 ρ st1 0 h0 hc (fun i w ρ st hw hI=>by rw[dy];exact hs i w ρ st hw hI)with⟨i,s3,hi,hb3,e3,hj3⟩|⟨ρ3,s3,e3,hI3,hb3⟩
 ·rw[dy]at hb3
  rw[Co (hx.trans e3)]
  exact h1 i s3 hi hb3 hj3
 ·exact aF (hx.trans e3) (h2 ρ3 s3 (fun i hi=>by have:=hb3 i hi;rwa[dy]at this) hI3)
def tv(n:Nat)(sz:List Nat)(lk:List #[3]):Stm->(Nat->Nat->Bool)->Bool
 |.one a,A=>Q3 n sz lk A (.one a)
 |.two k a b,A=>Q3 n sz lk A (.two k a b)
 |.neg s,A=>!tv n sz lk s A
 |.jn k s t,A=>if k=[97,110,100]then tv n sz lk s A&&tv n sz lk t A else tv n sz lk s A||tv n sz lk t A
 |.bnd k c s,A=>if k=[115,111,109,101]then(kJ c n).any fun x=>tv n sz lk s (eG A c x)else(kJ c n).all fun x=>tv n sz lk s (eG A c x)
theorem Qa{T:Nat->Bool}(hi:i<l.length)(h:T (l.getD i 0)=true):l.any T=true:=io.mpr ⟨_,bC (jZ 0 hi),h⟩
theorem Qb{T:Nat->Bool}(h:∀i,i<l.length->T (l.getD i 0)=false):l.any T=false:=by
 rw[lV]
 intro x hx
 obtain⟨i,hi⟩:=eX hx
 have:=h i (aj.mp hi).1
 rw[gO hi]at this
 rw[this];decide
theorem Qc{T:Nat->Bool}(hi:i<l.length)(h:T (l.getD i 0)=false):l.all T=false:=by
 rw[List.all_eq_false]
 exact⟨_,bC (jZ 0 hi),by rw[h];decide⟩
theorem Qd{T:Nat->Bool}(h:∀i,i<l.length->T (l.getD i 0)=true):l.all T=true:=by
 rw[gF]
 intro x hx
 obtain⟨i,hi⟩:=eX hx
 have:=h i (aj.mp hi).1
 rwa[gO hi]at this
theorem D_(hi:i<(kJ c n).length):(kJ c n).getD i 0∈kJ c n:=bC (jZ 0 hi)
theorem Jh(n:Nat)(sz:List Nat)(lk:List #[3]){k:List Nat}(hk:k∈PU)(c:Nat)(s:Stm)(A:Nat->Nat->Bool) :
  (∀i,i<(kJ c n).length->(tv n sz lk s (eG A c ((kJ c n).getD i 0))==decide (k=[115,111,109,101]))=true->tv n sz lk (.bnd k c s) A=decide (k=[115,111,109,101]))/\((∀i,i<(kJ c n).length->(tv n sz lk s (eG A c ((kJ c n).getD i 0))==decide (k=[115,111,109,101]))=false)->tv n sz lk (.bnd k c s) A=!decide (k=[115,111,109,101])):=by
 have e:tv n sz lk (.bnd k c s) A=if k=[115,111,109,101]then(kJ c n).any (fun x=>tv n sz lk s (eG A c x))else(kJ c n).all fun x=>tv n sz lk s (eG A c x):=rfl
 rw[e]
 generalize tv n sz lk s=T at *
 rcases il hk with rfl|rfl
 ·rw[aC rfl,aN rfl]
  refine⟨fun i hi h=>Qa hi (by rw[dL]at h;exact h),fun h=>Qb fun i hi=>by have:=h i hi;rw[bz]at this;exact Bool.eq_false_iff.mpr this⟩
 ·rw[aJ #[1],aI #[1]]
  refine⟨fun i hi h=>Qc hi (by rw[dL]at h;exact h),fun h=>Qd fun i hi=>by have:=h i hi;rw[bz]at this;exact Bool.ne_false_iff.mp this⟩
section
variable{sz:List Nat}{lk:List #[3]}
theorem LP(hn:n<=100){A:List (Option Nat)}(hA:Up lk Prod.fst n A)(hB:Up lk Prod.snd n B)(lA:A.length=n)(lB:B.length=n){ua ub:Nat}:∀(s:Stm) (k:Nat) (ps:List Pl) (st:List al),s.ok->2*s.dp<=k->wy n s<=4096->Gr ps S sz lk->ps.length=n->CQ ps->st[ua]?=some (.lst (A.map oW))->st[ub]?=some (.lst (B.map oW)) ->
  oV k [s.w,dC ps,.tup [.loc ua,.loc ub]] st=.ok (.bl (tv n sz lk s (AP ps))) st:=by
 intro s
 induction s with
 |one a=>
  intro k ps st hs hd hw hg hl hG ca cb
  obtain⟨k,rfl⟩:∃j,k=j+1:=⟨k-1,by simp only[Stm.dp]at hd;omega⟩
  refine bX (N:=4) (body:=w6 (tZ k) (oV k)) ?_
  subst hl
  exact aF (a9 (a_ kv bd (hV _ st))) (bD (aR (bc kn (iF hs st) rfl)) (be (bc (ak kv (ak kv kn)) (AF hg hn hA hB lA lB ca cb hs rfl) rfl) ⟨_,_,rfl,rfl,rfl⟩))
 |two q a b=>
  intro k ps st hs hd hw hg hl hG ca cb
  obtain⟨k,rfl⟩:∃j,k=j+1:=⟨k-1,by simp only[Stm.dp]at hd;omega⟩
  refine bX (N:=4) (body:=w6 (tZ k) (oV k)) ?_
  subst hl
  exact aF (a9 (a_ kv bd (hV _ st))) (bD (aR (bc kn (iF hs st) rfl)) (be (bc (ak kv (ak kv kn)) (AF hg hn hA hB lA lB ca cb hs rfl) rfl) ⟨_,_,rfl,rfl,rfl⟩))
 |neg s ih=>
  intro k ps st hs hd hw hg hl hG ca cb
  obtain⟨k,rfl⟩:∃j,k=j+1:=⟨k-1,by simp only[Stm.dp]at hd;omega⟩
  refine bX (N:=4) (body:=w6 (tZ k) (oV k)) ?_
  have e1:=ih k ps st hs (by simp only[Stm.dp]at hd;omega) hw hg hl hG ca cb
  exact aF (a9 (a_ kv bd (hV _ st))) (aQ (aR (bc kn (iF hs st) rfl)) (aU (bD #[6] (be (zW (bc (ak kx (ak kv kn)) e1 rfl) rfl) ⟨_,_,rfl,rfl,rfl⟩))))
 |jn q s t ih1 ih2=>
  intro k ps st hs hd hw hg hl hG ca cb
  have p1:=s.dp_pos
  have p2:=t.dp_pos
  simp only[Stm.dp]at hd
  simp only[wy]at hw
  obtain⟨k,rfl⟩:∃j,k=j+1:=⟨k-1,by omega⟩
  refine bX (N:=4) (body:=w6 (tZ k) (oV k)) ?_
  have hp:=iF hs st
  obtain⟨hq,hs1,Bp⟩:=hs
  have e1:=ih1 k ps st hs1 #[0] #[0] hg hl hG ca cb
  have e2:=ih2 k ps st Bp #[0] #[0] hg hl hG ca cb
  refine aF (a9 (a_ kv bd (hV _ st))) (aQ (aR (bc kn hp rfl)) (aU ?_))
  unfold tv
  rcases kW hq with rfl|rfl
  ·rw[aC rfl]
   refine aQ #[6] (aU (bD #[6] ?_))
   cases h1:tv n sz lk s (AP ps)with
   |true=>
    rw[h1]at e1
    exact be (lM (bc (ak kx (ak kv kn)) e1 rfl) (bc (ak kx (ak kv kn)) e2 rfl)) ⟨_,_,rfl,by rw[jQ],rfl⟩
   |false=>
    rw[h1]at e1
    exact be (rX (bc (ak kx (ak kv kn)) e1 rfl)) ⟨_,_,rfl,by rw[k6],rfl⟩
  ·rw[aJ #[1]]
   refine aQ #[6] (aU (aQ #[6] (aU (bD #[6] ?_))))
   cases h1:tv n sz lk s (AP ps)with
   |true=>
    rw[h1]at e1
    exact be (yl (bc (ak kx (ak kv kn)) e1 rfl)) ⟨_,_,rfl,by rw[sw],rfl⟩
   |false=>
    rw[h1]at e1
    exact be (qO (bc (ak kx (ak kv kn)) e1 rfl) (bc (ak kx (ak kv kn)) e2 rfl)) ⟨_,_,rfl,by rw[mx],rfl⟩
 |bnd q c s ih=>
  intro k ps st hs hd hw hg hl hG ca cb
  have p1:=s.dp_pos
  simp only[Stm.dp]at hd
  simp only[wy]at hw
  obtain⟨k,rfl⟩:∃j,k=j+2:=⟨k-2,by omega⟩
  have hp:=iF hs st
  obtain⟨hq,hc,hs'⟩:=hs
  have hws:wy n s<=4096:=aH (mQ _ (yL c n)) hw
  have hcn:AA c n<=4096:=aH (nG _ (vC n s)) hw
  have eb:tZ (k+1) [(Stm.bnd q c s).w,dC ps,.tup [.loc ua,.loc ub]] st=.ok (.bl (tv n sz lk (.bnd q c s) (AP ps))) st:=by
   refine e_ (N:=5) (body:=M6 (tZ k) (oV k)) (ws:=[(Stm.bnd q c s).w,dC ps,.tup [.loc ua,.loc ub]]) ?_ rfl
   obtain⟨b,hb⟩:∃b,b=decide (q=[115,111,109,101]):=⟨_,rfl⟩
   have tbd:=Jh n sz lk hq c s (AP ps)
   rw[<- hb]at tbd
   have e0:∀ρ:cv,ρ[0]?=some (some (Stm.bnd q c s).w)->e2 fQ #[10] (eC (.str [115,111,109,101])) ρ st=.ok (.bl b) st:=fun ρ hρ=>a_ (a_ (dB hρ) bd (hV _ st)) bd (qk (by rw[hb,cF,dL,bG];rfl))
   refine aF (a9 (e0 _ rfl)) ?_
   obtain⟨p,y,CL,hB',dI,ec⟩:=CU hc hn hcn st
   obtain⟨s1,hs1⟩:∃s1,s1=st++y:=⟨_,rfl⟩
   rw[<- hs1]at dI ec
   have ca':s1[ua]?=some (.lst (A.map oW)):=by rw[hs1];exact cH ca
   have cb':s1[ub]?=some (.lst (B.map oW)):=by rw[hs1];exact cH cb
   have hln:eW [dC ps] st=.ok (.int (n:Nat)) st:=by rw[<- hl];exact kS ps st
   refine AH (k:=(CL.map BC,some (p,CL.map BC))) (fun ρ s2=>∃o4:Option W,ρ=[some (Stm.bnd q c s).w,some (dC ps),some (.tup [.loc ua,.loc ub]),some (.bl b),o4]/\s1=s2) (fun s2=>s1=s2) (fun i=>tv n sz lk s (eG (AP ps) c ((kJ c n).getD i 0))==b) (.bl b)
    (pR (st1:=s1) (bc (ak kx (ak (cg kn hln) ba)) ec rfl) (br dI)) ⟨none,rfl,rfl⟩ (fun ρ s2 zq=>by obtain⟨_,_,e⟩:=zq;rw[<- e];exact br dI) ?_ ?_ ?_
   ·rintro i w ρ s2 hw ⟨o4,rfl,rfl⟩
    obtain⟨L,hL,rfl⟩:∃L,CL[i]?=some L/\w=BC L:=by
     have hw:(CL.map BC)[i]?=some w:=hw
     simp only[aG,b9]at hw
     obtain⟨L,h1,rfl⟩:=hw
     exact⟨L,h1,rfl⟩
    obtain⟨V_,hLb⟩:=hB'.2 i L hL
    have hi:i<(kJ c n).length:=by have:=(aj.mp hL).1;rw[hB'.1]at this;exact this
    have hlt:=Jf (D_ hi)
    have hLb':∀q,q∈L↔q<ps.length/\bt ((kJ c n).getD i 0) q=true:=by rw[hl];exact hLb
    have ed:=CT #[0] hG hc hLb' #[0] s1
    have eg:=ih k (y_ ps c ((kJ c n).getD i 0)) s1 hs' #[0] hws (P_ hg _ _) (by rw[sg];exact hl) (P9 hG hc _) ca' cb'
    rw[P8 (by rw[hl];exact hlt)]at eg
    have et:da (e2 fQ (bS 3 (oV k) (ah #[20] (ah (bS 3 w4 (ah (af 1) (ah #[15] (ah (af 4) aK)))) (ah (af 2) aK)))) (af 3)) [some (Stm.bnd q c s).w,some (dC ps),some (.tup [.loc ua,.loc ub]),some (.bl b),some (BC L)] s1=.ok (tv n sz lk s (eG (AP ps) c ((kJ c n).getD i 0))==b) s1:=aR (a_ (bc (ak kx (ak (bc (ak kv (ak kx kn)) ed rfl) kn)) eg rfl) kv (MA rfl))
    refine⟨_,rfl,?_⟩
    cases QQ:(tv n sz lk s (eG (AP ps) c ((kJ c n).getD i 0))==b)with
    |true=>rw[QQ]at et;exact .inl ⟨rfl,s1,gc et (zY kv),rfl⟩
    |false=>rw[QQ]at et;exact .inr ⟨rfl,_,s1,fz et ng,_,rfl,rfl⟩
   ·intro i s2 hi hbi hJ
    rw[az,hB'.1]at hi
    exact⟨_,_,rfl,by rw[tbd.1 i hi hbi],y,by rw[<- hJ,hs1]⟩
   ·rintro ρ s2 hno ⟨o4,rfl,rfl⟩
    rw[az,hB'.1]at hno
    exact bI (zW kv rfl) ⟨_,_,rfl,by rw[tbd.2 hno],y,hs1⟩
  refine bX (N:=4) (body:=w6 (tZ (k+1)) (oV (k+1))) ?_
  refine aF (a9 (a_ kv bd (hV _ st))) (aQ (aR (bc kn hp rfl)) (aU ?_))
  rcases il hq with rfl|rfl<;>exact aQ #[6] (aU (aQ #[6] (aU (aQ #[6] (aU (bI (bc (ak kv (ak kv kn)) eb rfl) ⟨_,_,rfl,rfl,rfl⟩))))))
end
theorem TM{p q b:Bool}(h:(!(p==q))=b):B8 (.bl p) (.bl q) st=.ok (.bl b) st:=by rw[<- h];rfl
theorem LQ{A:Nat->Nat->Bool}(h:IJ kvs (fun c j=>A c j=true))(c x:Nat):IJ (kz kvs (.s [c]) (.int (x:Nat))) (fun d j=>eG A c x d j=true):=fun d=>by
 rw[vA]
 unfold eG
 by_cases e:d=c
 ·subst e
  rw[aC rfl]
  refine⟨x,rfl,fun j=>?_⟩
  show _↔(if d=d then bt x j else A d j)=true
  rw[aC rfl]
 ·rw[aJ (fun z=>e (by injection z with z;exact(List.cons.inj z).1))]
  obtain⟨y,h1,h2⟩:=h d
  refine⟨y,h1,fun j=>?_⟩
  show _↔(if d=c then bt x j else A d j)=true
  rw[aJ e];exact h2 j
theorem LR{c:Nat}{v:W}(h:st[n]?=some (.dct kvs))(hl:kvs.length<kN):mD (.loc n) (.str [c]) v st=some (st.set n (.dct (kz kvs (.s [c]) v))):=by
 simp only[mD,Je h,qj];rw[aC hl]
theorem LS(h:st[n]?=some (.dct kvs))(hl:kvs.length<=1000):qN [.loc n] st=.ok #[2] (st++[.dct kvs]):=by
 simp only[qN,D9 h];rw[aC hl]
theorem Ji(n:Nat):fx 0 n=nW (List.range n):=by
 unfold fx nW
 exact d9 fun k _=>by rw[d7]
section
variable{ps:List Pl}{sz:List Nat}{lk:List #[3]}
theorem Jj(hn:ps.length<=100)(hg:Gr ps S sz lk){us:List Nat}(vZ:us.length=ps.length)(Fp:∀k,k<ps.length->TC sz (fun k=>us.getD k 0) k){pl pu:Nat}:∀(s:Stm) (k:Nat) (A:Nat->Nat->Bool) (kvs:List (DK×W)) (pd:Nat) (st:List al),s.ok->s.dp<=k->wy ps.length s<=4096->(∀c j,A c j=true->j<ps.length)->IJ kvs (fun c j=>A c j=true)->kvs.length+s.dp<=500->st[pl]?=some (.lst (lk.map kr))->st[pu]?=some (.lst (nW us))->st[pd]?=some (.dct kvs) ->
  mE k [s.w,.loc pl,.loc pu,.loc pd] st=.ok (.bl (tv ps.length sz lk s A)) st:=by
 intro s
 induction s with
 |one a=>
  intro k A kvs pd st hs hd hw hA hM hk cl cu cd
  obtain⟨k,rfl⟩:∃j,k=j+1:=⟨k-1,by simp only[Stm.dp]at hd;omega⟩
  refine bX (N:=8) (body:=xc (mE k)) ?_
  have e1:=xp hg hn vZ Fp hA hM cl cu cd hs rfl
  exact aF (a9 (a_ kv bd (hV _ st))) (aQ #[6] (aU (aQ #[6] (aU (aQ #[6] (aU (aQ (gN #[6] #[6]) (aU (bI (bc (ak kv (ak kv (ak kv kn))) e1 rfl) ⟨_,_,rfl,rfl,rfl⟩)))))))))
 |two q a b=>
  intro k A kvs pd st hs hd hw hA hM hk cl cu cd
  obtain⟨k,rfl⟩:∃j,k=j+1:=⟨k-1,by simp only[Stm.dp]at hd;omega⟩
  refine bX (N:=8) (body:=xc (mE k)) ?_
  have e1:=xp hg hn vZ Fp hA hM cl cu cd hs rfl
  refine aF (a9 (a_ kv bd (hV _ st))) ?_
  rcases i8 hs.1 with rfl|rfl|rfl|rfl<;>exact(aQ #[6] (aU (aQ #[6] (aU (aQ #[6] (aU (aQ (gN #[6] #[6]) (aU (bI (bc (ak kv (ak kv (ak kv kn))) e1 rfl) ⟨_,_,rfl,rfl,rfl⟩)))))))))
 |neg s ih=>
  intro k A kvs pd st hs hd hw hA hM hk cl cu cd
  simp only[Stm.dp]at hd hk
  obtain⟨k,rfl⟩:∃j,k=j+1:=⟨k-1,by omega⟩
  refine bX (N:=8) (body:=xc (mE k)) ?_
  have e1:=ih k A kvs pd st hs #[0] hw hA hM #[0] cl cu cd
  exact aF (a9 (a_ kv bd (hV _ st))) (bD #[6] (be (zW (bc (ak kx (ak kv (ak kv kn))) e1 rfl) rfl) ⟨_,_,rfl,rfl,rfl⟩))
 |jn q s t ih1 ih2=>
  intro k A kvs pd st hs hd hw hA hM hk cl cu cd
  have p1:=s.dp_pos
  have p2:=t.dp_pos
  simp only[Stm.dp]at hd hk
  simp only[wy]at hw
  obtain⟨k,rfl⟩:∃j,k=j+1:=⟨k-1,by omega⟩
  refine bX (N:=8) (body:=xc (mE k)) ?_
  obtain⟨hq,hs1,Bp⟩:=hs
  have e1:=ih1 k A kvs pd st hs1 #[0] #[0] hA hM #[0] cl cu cd
  have e2:=ih2 k A kvs pd st Bp #[0] #[0] hA hM #[0] cl cu cd
  refine aF (a9 (a_ kv bd (hV _ st))) ?_
  have et:tv ps.length sz lk (.jn q s t) A=if q=[97,110,100]then tv ps.length sz lk s A&&tv ps.length sz lk t A else tv ps.length sz lk s A||tv ps.length sz lk t A:=rfl
  rw[et]
  rcases kW hq with rfl|rfl
  ·rw[aC rfl]
   refine aQ #[6] (aU (bD #[6] ?_))
   cases h1:tv ps.length sz lk s A with
   |true=>
    rw[h1]at e1
    exact be (lM (bc (ak kx (ak kv (ak kv kn))) e1 rfl) (bc (ak kx (ak kv (ak kv kn))) e2 rfl)) ⟨_,_,rfl,by rw[jQ],rfl⟩
   |false=>
    rw[h1]at e1
    exact be (rX (bc (ak kx (ak kv (ak kv kn))) e1 rfl)) ⟨_,_,rfl,by rw[k6],rfl⟩
  ·rw[aJ #[1]]
   refine aQ #[6] (aU (aQ #[6] (aU (bD #[6] ?_))))
   cases h1:tv ps.length sz lk s A with
   |true=>
    rw[h1]at e1
    exact be (yl (bc (ak kx (ak kv (ak kv kn))) e1 rfl)) ⟨_,_,rfl,by rw[sw],rfl⟩
   |false=>
    rw[h1]at e1
    exact be (qO (bc (ak kx (ak kv (ak kv kn))) e1 rfl) (bc (ak kx (ak kv (ak kv kn))) e2 rfl)) ⟨_,_,rfl,by rw[mx],rfl⟩
 |bnd q c s ih=>
  intro k A kvs pd st hs hd hw hA hM hk cl cu cd
  have p1:=s.dp_pos
  simp only[Stm.dp]at hd hk
  simp only[wy]at hw
  obtain⟨k,rfl⟩:∃j,k=j+1:=⟨k-1,by omega⟩
  obtain⟨hq,hc,hs'⟩:=hs
  have hws:wy ps.length s<=4096:=aH (mQ _ (yL c _)) hw
  have hcn:AA c ps.length<=4096:=aH (nG _ (vC _ s)) hw
  refine e_ (N:=8) (body:=xc (mE k)) (ws:=[(Stm.bnd q c s).w,.loc pl,.loc pu,.loc pd]) ?_ rfl
  obtain⟨b,hb⟩:∃b,b=decide (q=[115,111,109,101]):=⟨_,rfl⟩
  have tbd:=Jh ps.length sz lk hq c s A
  rw[<- hb]at tbd
  have eS:∀(ρ:cv) (s2:List al),ρ[4]?=some (some (.str q))->e2 fQ (af 4) (eC (.str [115,111,109,101])) ρ s2=.ok (.bl b) s2:=fun ρ s2 hρ=>a_ (dB hρ) bd (qk (by rw[hb,cF,dL,bG]))
  have eL:∀(ρ:cv) (s2:List al),ρ[4]?=some (some (.str q))->e2 fQ (af 4) (eC (.str [97,108,108])) ρ s2=.ok (.bl (!b)) s2:=fun ρ s2 hρ=>a_ (dB hρ) bd (qk (by rcases il hq with rfl|rfl<;>rw[hb]<;>decide))
  refine aF (a9 (a_ kv bd (hV _ st))) ?_
  show ju _ (aX _ _ [some (Stm.bnd q c s).w,some (.loc pl),some (.loc pu),some (.loc pd),some (.str q),none,none,none] st)
  have hor:Bz (da (e2 fQ (af 4) (eC (.str [115,111,109,101])))) (da (e2 fQ (af 4) (eC (.str [97,108,108])))) [some (Stm.bnd q c s).w,some (.loc pl),some (.loc pu),some (.loc pd),some (.str q),none,none,none] st=.ok true st:=by
   have a1:=eS [some (Stm.bnd q c s).w,some (.loc pl),some (.loc pu),some (.loc pd),some (.str q),none,none,none] st rfl
   have a2:=eL [some (Stm.bnd q c s).w,some (.loc pl),some (.loc pu),some (.loc pd),some (.str q),none,none,none] st rfl
   cases b with
   |true=>exact rW (aR a1)
   |false=>exact gN (aR a1) (aR a2)
  have h3:∀z:List Nat,z=[110,111,116]\/z=[97,110,100]\/z=[111,114]->da (e2 fQ (af 4) (eC (.str z))) [some (Stm.bnd q c s).w,some (.loc pl),some (.loc pu),some (.loc pd),some (.str q),none,none,none] st=.ok false st:=fun z hz=>aR (a_ kv bd (qk (by rcases il hq with rfl|rfl<;>rcases hz with rfl|rfl|rfl<;>decide)))
  refine aQ (h3 _ (.inl rfl)) (aU (aQ (h3 _ (.inr (.inl rfl))) (aU (aQ (h3 _ (.inr (.inr rfl))) (aU (bD hor (kI ?_)))))))
  have hll:eW [.loc pl] st=.ok (.int ((ps.length:Nat):Int)) st:=by
   have:=jD (br cl)
   rw[az,hg.ok.2.1]at this;exact this
  have hin:da (e2 (mR false) #[15] (eC (.str LC))) [some (Stm.bnd q c s).w,some (.loc pl),some (.loc pu),some (.loc pd),some (.str q),none,none,none] st=.ok (decide (c∈LC)) st:=aR (a_ kx bd vz)
  refine yo (fun ρ s2=>ρ=[some (Stm.bnd q c s).w,some (.loc pl),some (.loc pu),some (.loc pd),some (.str q),some #[2],none,none]/\s2=st++[.lst (nW (kJ c ps.length))]) ?_ ?_
  ·unfold kJ
   by_cases h1:c∈LC
   ·rw[aN h1]at hin
    rw[aC h1]
    have ec:=lR (fi:=dM (ah (cr eW #[16]) aK)) (f:=g8 0) (el:=e2 oE (eI 1) (af 0)) (cap:=[none]) (ρ:=[some (Stm.bnd q c s).w,some (.loc pl),some (.loc pu),some (.loc pd),some (.str q),none,none,none]) (st:=st) (st1:=st) (ck:=none) (List.range ps.length) (fun i=>W.int (0+((i:Nat):Int))) (fun i=>W.int ((2^i:Nat):Int))
     (by
      have:=gX (fs:=ah (cr eW #[16]) aK) (ρ:=[some (Stm.bnd q c s).w,some (.loc pl),some (.loc pu),some (.loc pd),some (.str q),none,none,none]) (st:=st) (st1:=st) (q:=(ps.length:Int)) (ak (cg kn hll) ba) #[0]
      rw[bu]at this
      exact this) (by rw[cE];omega) trivial fun i hi=>⟨[some (.int (0+(i:Int)))],rfl,by
       rw[d7]
       exact a_ bd kv (tK (by have:=df.mp hi;omega))⟩
    refine nO hin (db (IB ec rfl) ⟨_,_,rfl,rfl,?_⟩)
    rw[nW,bp];rfl
   ·rw[aI h1]at hin
    rw[aJ h1]
    unfold AA at hcn
    rw[aJ h1]at hcn
    have el:vi [.int ((2^ps.length:Nat):Int)] st=.ok #[2] (st++[.lst (nW (List.range (2^ps.length)))]):=by
     unfold vi
     simp only
     rw[aC ⟨Int.natCast_nonneg _,Int.ofNat_le.mpr (aH hcn (by decide:4096<=1000000))⟩,bu,Ji]
    exact lN hin (db (a9 (cg (ak (a_ bd (cg kn hll) (tK hn)) ba) el)) ⟨_,_,rfl,rfl,rfl⟩)
  rintro ρ s2 ⟨rfl,rfl⟩
  have dI:∀y,(st++(al.lst (nW (kJ c ps.length))::y))[st.length]?=some (.lst (nW (kJ c ps.length))):=fun y=>by rw[dA];rfl
  refine kI (AH (k:=(nW (kJ c ps.length),some (st.length,nW (kJ c ps.length)))) (fun ρ s2=>∃(o6 o7:Option W) (y:List al),ρ=[some (Stm.bnd q c s).w,some (.loc pl),some (.loc pu),some (.loc pd),some (.str q),some #[2],o6,o7]/\s2=st++(.lst (nW (kJ c ps.length))::y)) (fun s2=>∃y,s2=st++y) (fun i=>tv ps.length sz lk s (eG A c ((kJ c ps.length).getD i 0))==b) (.bl b)
    (pR kv (br (dI []))) ⟨none,none,[],rfl,rfl⟩ (fun ρ s2 zq=>by obtain⟨_,_,y,_,e⟩:=zq;rw[e];exact br (dI y)) ?_ ?_ ?_)
  ·rintro i w ρ s2 hw ⟨o6,o7,y,rfl,rfl⟩
   obtain⟨hi,rfl⟩:i<(kJ c ps.length).length/\w=.int (((kJ c ps.length).getD i 0:Nat):Int):=by
    have hw:(nW (kJ c ps.length))[i]?=some w:=hw
    simp only[nW,aG,b9]at hw
    obtain⟨x,h1,rfl⟩:=hw
    exact⟨(aj.mp h1).1,by rw[gO h1]⟩
   have hlt:=Jf (D_ hi)
   generalize hx:(kJ c ps.length).getD i 0=x at hlt ⊢
   obtain⟨s1,hs1⟩:∃s1,s1=st++(al.lst (nW (kJ c ps.length))::y):=⟨_,rfl⟩
   rw[<- hs1]
   have cd1:s1[pd]?=some (.dct kvs):=by rw[hs1];exact cH cd
   have ed:=LS cd1 #[0]
   have cn:(s1++[al.dct kvs])[s1.length]?=some (.dct kvs):=bP
   have esd:=LR (c:=c) (v:=.int (x:Nat)) cn (by show _<1000000;omega)
   rw[dN]at esd
   have esd:mD (.loc s1.length) (.str [c]) (.int (x:Nat)) (s1++[al.dct kvs])=some (s1++[al.dct (kz kvs (.s [c]) (.int (x:Nat)))]):=esd
   have Uw:=vB (kvs:=kvs) (k:=.s [c]) (v:=.int (x:Nat))
   have cx:∀{p:Nat} {cc:al},st[p]?=some cc->(s1++[al.dct (kz kvs (.s [c]) (.int (x:Nat)))])[p]?=some cc:=fun h=>by rw[hs1];exact cH (cH h)
   have eg:=ih k (eG A c x) (kz kvs (.s [c]) (.int (x:Nat))) s1.length (s1++[al.dct (kz kvs (.s [c]) (.int (x:Nat)))]) hs' #[0] hws (fun d j hj=>by
    unfold eG at hj
    by_cases e:d=c
    ·rw[aC e]at hj;exact hlt j hj
    ·rw[aJ e]at hj;exact hA d j hj) (LQ hM c x) #[0] (cx cl) (cx cu) bP
   have et:da (e2 B8 (bS 4 (mE k) (ah #[20] (ah (af 1) (ah (af 2) (ah (af 7) aK))))) (e2 fQ (af 4) (eC (.str [97,108,108])))) [some (Stm.bnd q c s).w,some (.loc pl),some (.loc pu),some (.loc pd),some (.str q),some #[2],some (.int (x:Nat)),some (.loc s1.length)] (s1++[al.dct (kz kvs (.s [c]) (.int (x:Nat)))])=.ok (tv ps.length sz lk s (eG A c x)==b) (s1++[al.dct (kz kvs (.s [c]) (.int (x:Nat)))]):=
    aR (a_ (bc (ak kx (ak kv (ak kv kn))) eg rfl) (eL _ _ rfl) (TM (by cases tv ps.length sz lk s (eG A c x)<;>cases b<;>rfl)))
   refine⟨_,rfl,?_⟩
   have pre:∀{r:RS},fD (da (e2 B8 (bS 4 (mE k) (ah #[20] (ah (af 1) (ah (af 2) (ah (af 7) aK))))) (e2 fQ (af 4) (eC (.str [97,108,108]))))) (cK (e2 fQ (af 4) (eC (.str [115,111,109,101])))) b_ [some (Stm.bnd q c s).w,some (.loc pl),some (.loc pu),some (.loc pd),some (.str q),some #[2],some (.int (x:Nat)),some (.loc s1.length)] (s1++[al.dct (kz kvs (.s [c]) (.int (x:Nat)))])=r->aX (b6 7 (cr qN (ah (af 3) aK))) (aX (p8 (af 7) #[15] (af 6) mD) (fD (da (e2 B8 (bS 4 (mE k) (ah #[20] (ah (af 1) (ah (af 2) (ah (af 7) aK))))) (e2 fQ (af 4) (eC (.str [97,108,108]))))) (cK (e2 fQ (af 4) (eC (.str [115,111,109,101])))) b_)) [some (Stm.bnd q c s).w,some (.loc pl),some (.loc pu),some (.loc pd),some (.str q),some #[2],some (.int (x:Nat)),o7] s1=r:=fun h=>DF (a9 (cg kn ed)) (DF (oP kv kv kx esd) h)
   cases QQ:(tv ps.length sz lk s (eG A c x)==b)with
   |true=>rw[QQ]at et;exact .inl ⟨rfl,_,pre (gc et (zY (eS _ _ rfl))),_,by rw[hs1,aM]⟩
   |false=>rw[QQ]at et;exact .inr ⟨rfl,_,_,pre (fz et ng),_,_,y++[al.dct (kz kvs (.s [c]) (.int (x:Nat)))],rfl,by rw[hs1,aM];rfl⟩
  ·rintro i s2 hi hbi ⟨y,hy⟩
   have hi:i<(kJ c ps.length).length:=by have hi:i<(nW (kJ c ps.length)).length:=hi;rwa[nW,az]at hi
   exact⟨_,_,rfl,by rw[tbd.1 i hi hbi],y,hy⟩
  ·rintro ρ s2 hno ⟨o6,o7,y,rfl,rfl⟩
   have hno:∀i,i<(kJ c ps.length).length->(tv ps.length sz lk s (eG A c ((kJ c ps.length).getD i 0))==b)=false:=fun i hi=>hno i (by show i<(nW _).length;rw[nW,az];exact hi)
   exact be (eL _ _ rfl) ⟨_,_,rfl,by rw[tbd.2 hno],_,rfl⟩
end
abbrev Vo:W:=.tup [.str [114,101,102,117,115,101,100],.bl true,.bl true,.bl false]
def BD(n:Nat)(sz:List Nat)(lk:List #[3])(s:Stm)(A:Nat->Nat->Bool):W:=if 4096<wy n s then Vo else .bl (tv n sz lk s A)
section
variable{ps:List Pl}{sz:List Nat}{lk:List #[3]}
theorem Jk(hg:Gr ps S sz lk)(hn:ps.length<=100)(hm:∀p∈ps,p.m.length<=4){s:Stm}(hs:s.ok)(hd:s.dp<=20)(st:List al):vx [s.w,dC ps] st=.ok (BD ps.length sz lk s (AP ps)) st:=by
 have ew:=IW hn s 40 hs #[0] #[0] st
 unfold BD
 by_cases h1:4096<wy ps.length s
 ·rw[aC h1]
  refine bX (N:=3) (body:=Iu) (bD (aR (a_ (bc (ak kv (ak (cg kn (kS ps st)) ba)) ew rfl) bd (gA (aN #[0])))) (be (dO (ak bd (ak bd (ak bd (ak bd ba)))) (ax rfl)) ⟨_,_,rfl,rfl,rfl⟩))
 ·rw[aJ h1]
  obtain⟨x,⟨Q,hx⟩,el⟩:=Fe hg #[0] st
  have c1:(st++x)[st.length+1]?=some (.lst (lk.map kr)):=by rw[iP,hx];rfl
  obtain⟨us,vZ,Fp,eu⟩:=IK hg hn c1
  obtain⟨kvs,hkl,hM,eo⟩:=LA hn hm (st++x++[.lst (nW us)])
  have hM':IJ kvs (fun c j=>AP ps c j=true):=fun c=>by
   obtain⟨y,h2,h3⟩:=hM c
   refine⟨y,h2,fun j=>(h3 j).trans ⟨fun z=>aN z.2,fun z=>⟨o_ z,hZ z⟩⟩⟩
  have et:=Jj hn hg vZ Fp s 40 (AP ps) kvs (st++x++[al.lst (nW us)]).length (st++x++[.lst (nW us)]++[.dct kvs]) (pl:=st.length+1) (pu:=(st++x).length) hs #[0] #[0] (fun c j z=>o_ z) hM' #[0] (cH (cH c1)) (cH bP) bP
  refine e_ (N:=3) (body:=Iu) (ws:=[s.w,dC ps]) (aQ (aR (a_ (bc (ak kv (ak (cg kn (kS ps st)) ba)) ew rfl) bd (gA (aI #[0])))) (aU (aF (a9 (bc kn el rfl)) (bI (bc (ak kv (ak kv (ak (bc kn eu rfl) (ak (bc kn eo rfl) ba)))) et rfl) ⟨_,_,rfl,rfl,_,by rw[aM,aM]⟩)))) rfl
theorem Jl(hg:Gr ps S sz lk)(hn:ps.length<=100)(hG:CQ ps){s:Stm}(hs:s.ok)(hd:s.dp<=20)(st:List al):(4096<wy ps.length s->w9 [s.w,dC ps] st=.ex "TooGreat" st)/\(¬ 4096<wy ps.length s->w9 [s.w,dC ps] st=.ok (.bl (tv ps.length sz lk s (AP ps))) st):=by
 have ew:=LJ hn s 40 hs #[0] #[0] st
 constructor
 ·intro h1
  exact Ln (N:=2) (body:=Ir) (ws:=[s.w,dC ps]) (bD (aR (a_ (bc (ak kv (ak (cg kn (kS ps st)) ba)) ew rfl) bd (gA (aN #[0])))) (wg ⟨_,_,rfl,[],(cC _).symm⟩))
 ·intro h1
  obtain⟨A,B,x,a1,a2,a3,a4,a5,a6,eu⟩:=PQ hg #[0] st
  have eg:=LP hn a3 a4 a1 a2 s 40 ps (st++x) hs #[0] #[0] hg rfl hG a5 a6
  exact e_ (N:=2) (body:=Ir) (ws:=[s.w,dC ps]) (aQ (aR (a_ (bc (ak kv (ak (cg kn (kS ps st)) ba)) ew rfl) bd (gA (aI #[0])))) (aU (bI (bc (ak kv (ak kv (ak (bc kn eu rfl) ba))) eg rfl) ⟨_,_,rfl,rfl,_,rfl⟩))) rfl
theorem s_(hg:Gr ps S sz lk)(hn:ps.length<=100)(hG:CQ ps){s:Stm}(hs:s.ok)(hd:s.dp<=20)(st:List al):kq [s.w,dC ps] st=.ok (BD ps.length sz lk s (AP ps)) st:=by
 obtain⟨e1,e2⟩:=Jl hg hn hG hs hd st
 unfold BD
 by_cases h1:4096<wy ps.length s
 ·rw[aC h1]
  have cx:(st++[al.exc "TooGreat"])[st.length]?=some (.exc "TooGreat"):=bP
  exact e_ (N:=4) (body:=Iv) (ws:=[s.w,dC ps]) (aF (a9 bd) (aF (Hg (He (Hd (ak kv kn) (e1 h1) rfl)) #[1] (a9 (dO (ak bd (ak (Hh kv cx rfl) (ak (Hh kv cx rfl) (ak (Hh kv cx rfl) ba)))) (ax rfl)))) (bI kv ⟨_,_,rfl,rfl,_,rfl⟩))) rfl
 ·rw[aJ h1]
  exact e_ (N:=4) (body:=Iv) (ws:=[s.w,dC ps]) (aF (a9 bd) (aF (Hf (a9 (bc (ak kv kn) (e2 h1) rfl))) (bI kv ⟨_,_,rfl,rfl,[],(cC _).symm⟩))) rfl
end
theorem Jm(k:Nat)(st:List al):jv (k+2) [Vo,Vo] st=.ok (.bl true) st:=IM #[1] fun w hw=>by
 simp only[a7,fE,mP]at hw
 rcases hw with rfl|rfl|rfl|rfl
 ·exact IL _ k st
 ·exact pV _ k st
 ·exact pV _ k st
 ·exact pV _ k st
def Fr(c:Nat):Stm->Prop
 |.one a=>c=a
 |.two _ a b=>c=a\/c=b
 |.neg s=>Fr c s
 |.bnd _ a s=>c≠a/\Fr c s
 |.jn _ s t=>Fr c s\/Fr c t
def FC(m:Bool)(k:List Nat):List Nat:=if m=true then(if k=[108,101,102,116]then[114,105,103,104,116]else if k=[114,105,103,104,116]then[108,101,102,116]else k)else k
def mS(r:Nat->Nat)(m:Bool):Stm->Stm
 |.one a=>.one (r a)
 |.two k a b=>.two (FC m k) (r a) (r b)
 |.neg s=>.neg (mS r m s)
 |.bnd k a s=>.bnd k (r a) (mS r m s)
 |.jn k s t=>.jn k (mS r m s) (mS r m t)
theorem vH:∀{s:Stm},s.ok->Fr c s->c∈LL
 |.one a,h,e=>by cases e;exact h
 |.two k a b,h,e=>by rcases e with rfl|rfl;exact h.2.1;exact h.2.2
 |.neg s,h,e=>vH (s:=s) h e
 |.bnd k a s,h,e=>vH (s:=s) h.2.2 e.2
 |.jn k s t,h,e=>e.elim (vH (s:=s) h.2.1) (vH (s:=t) h.2.2)
theorem LU{m:Bool}{k:List Nat}(h:k∈LD):FC m k∈LD:=by
 rcases i8 h with rfl|rfl|rfl|rfl<;>cases m<;>decide
structure Rn(r:Nat->Nat):Prop where
 ll:∀c∈LL,r c∈LL
 inj:∀c∈LL,∀d∈LL,r c=r d->c=d
 sm:∀c∈LL,(r c∈LC↔c∈LC)
theorem xq{r:Nat->Nat}(hr:Rn r)(m:Bool):∀{s:Stm},s.ok->(mS r m s).ok
 |.one a,h=>hr.ll _ h
 |.two k a b,h=>⟨LU h.1,hr.ll _ h.2.1,hr.ll _ h.2.2⟩
 |.neg s,h=>xq hr m (s:=s) h
 |.bnd k a s,h=>⟨h.1,hr.ll _ h.2.1,xq hr m (s:=s) h.2.2⟩
 |.jn k s t,h=>⟨h.1,xq hr m (s:=s) h.2.1,xq hr m (s:=t) h.2.2⟩
theorem xt(r:Nat->Nat)(m:Bool):∀s:Stm,(mS r m s).dp=s.dp
 |.one a=>rfl
 |.two k a b=>rfl
 |.neg s=>by simp only[mS,Stm.dp,xt r m s]
 |.bnd k a s=>by simp only[mS,Stm.dp,xt r m s]
 |.jn k s t=>by simp only[mS,Stm.dp,xt r m s,xt r m t]
theorem AI{r:Nat->Nat}(hr:Rn r)(m:Bool)(n:Nat):∀{s:Stm},s.ok->wy n (mS r m s)=wy n s
 |.one a,h=>rfl
 |.two k a b,h=>rfl
 |.neg s,h=>AI hr m n (s:=s) h
 |.bnd k a s,h=>by
  simp only[mS,wy]
  rw[AI hr m n (s:=s) h.2.2]
  unfold AA
  by_cases e:a∈LC
  ·rw[aC e,aC ((hr.sm a h.2.1).mpr e)]
  ·rw[aJ e,aJ (fun z=>e ((hr.sm a h.2.1).mp z))]
 |.jn k s t,h=>by simp only[mS,wy];rw[AI hr m n (s:=s) h.2.1,AI hr m n (s:=t) h.2.2]
structure Np(n:Nat)(m:Bool)(f g:Nat->Nat)(sz uK:List Nat)(lk tj:List #[3]):Prop where
 fl:∀j,j<n->f j<n
 gl:∀j,j<n->g j<n
 gf:∀j,j<n->g (f j)=j
 fg:∀j,j<n->f (g j)=j
 x:∀q j,q<n->j<n->(lx lk q=some j↔(if m=true then ly tj (f q)else lx tj (f q))=some (f j))
 y:∀q j,q<n->j<n->(ly lk q=some j↔(if m=true then lx tj (f q)else ly tj (f q))=some (f j))
 u:∀q j,q<n->j<n->((lo sz q<=j/\j<q)↔(lo uK (f q)<=f j/\f j<f q))
section
variable{m:Bool}{f g:Nat->Nat}{sz uK:List Nat}{lk:List #[3]}
theorem D'{A:Nat->Bool}:∀{n:Nat},(∃j,j<n/\A j=true/\∀i,i<n->A i=true->i=j)↔vX A 0 n=1:=by
 have z0:∀n,vX A 0 n=0↔∀i,i<n->A i=false:=by
  intro n
  induction n with
  |zero=>exact⟨fun _ i hi=>absurd hi (by omega),fun _=>rfl⟩
  |succ n ih=>
   rw[pU,uE,dy]
   constructor
   ·intro h i hi
    have h1:vX A 0 n=0:=by omega
    rcases d5 i n with q|q
    ·exact ih.mp h1 i q
    ·obtain rfl:i=n:=by omega
     cases e:A i with
     |false=>rfl
     |true=>rw[aC e]at h;omega
   ·intro h
    rw[ih.mpr fun i hi=>h i #[0],aJ (by rw[h n #[0]];decide)]
 intro n
 induction n with
 |zero=>exact⟨fun⟨j,hj,_⟩=>absurd hj (by omega),fun h=>by cases h⟩
 |succ n ih=>
  rw[pU,uE,dy]
  cases e:A n with
  |true=>
   rw[aC rfl]
   constructor
   ·rintro⟨j,hj,h1,h2⟩
    have:=h2 n #[0] e
    rw[(z0 n).mpr fun i hi=>by
     cases e2:A i with
     |false=>rfl
     |true=>have:=h2 i (by omega) e2;omega]
   ·intro h
    have h0:=(z0 n).mp #[0]
    refine⟨n,by omega,e,fun i hi e2=>?_⟩
    rcases d5 i n with q|q
    ·rw[h0 i q]at e2;cases e2
    ·omega
  |false=>
   refine Iff.trans ?_ (ih.trans #[18])
   constructor
   ·rintro⟨j,hj,h1,h2⟩
    refine⟨j,?_,h1,fun i hi=>h2 i #[0]⟩
    rcases d5 j n with q|q
    ·exact q
    ·obtain rfl:j=n:=by omega
     rw[e]at h1;cases h1
   ·rintro⟨j,hj,h1,h2⟩
    refine⟨j,by omega,h1,fun i hi e2=>?_⟩
    rcases d5 i n with q|q
    ·exact h2 i q e2
    ·obtain rfl:i=n:=by omega
     rw[e]at e2;cases e2
theorem LV(h:Np n m f g sz uK lk tj){A B:Nat->Bool}(q5:∀j,j<n->A j=B (f j)):vX A 0 n=1↔vX B 0 n=1:=by
 rw[<- D',<- D']
 constructor
 ·rintro⟨j,hj,h1,h2⟩
  refine⟨f j,h.fl j hj,by rw[<- q5 j hj];exact h1,fun i hi e=>?_⟩
  have:=h2 (g i) (h.gl i hi) (by rw[q5 _ (h.gl i hi),h.fg i hi];exact e)
  rw[<- this,h.fg i hi]
 ·rintro⟨j,hj,h1,h2⟩
  refine⟨g j,h.gl j hj,by rw[q5 _ (h.gl j hj),h.fg j hj];exact h1,fun i hi e=>?_⟩
  have:=h2 (f i) (h.fl i hi) (by rw[<- q5 i hi];exact e)
  rw[<- this,h.gf i hi]
theorem vI(h:Np n m f g sz uK lk tj){A B:Nat->Bool}(q5:∀j,j<n->A j=B (f j)){R R':Nat->Prop}(hR:∀q,q<n->(R q↔R' (f q))):(∃q,q<n/\A q=true/\R q)↔∃q,q<n/\B q=true/\R' q:=by
 constructor
 ·rintro⟨q,hq,h1,h2⟩
  exact⟨f q,h.fl q hq,by rw[<- q5 q hq];exact h1,(hR q hq).mp h2⟩
 ·rintro⟨q,hq,h1,h2⟩
  refine⟨g q,h.gl q hq,by rw[q5 _ (h.gl q hq),h.fg q hq];exact h1,(hR _ (h.gl q hq)).mpr ?_⟩
  rw[h.fg q hq];exact h2
theorem Qe(h:Np n m f g sz uK lk tj){A B:Nat->Bool}(q5:∀j,j<n->A j=B (f j)){k:List Nat}(hk:k∈LD)(hj:j<n):RV n sz lk A k j↔RV n uK tj B (FC m k) (f j):=by
 have ex:=fun q hq=>h.x q j hq hj
 have ey:=fun q hq=>h.y q j hq hj
 have eu:=fun q hq=>h.u q j hq hj
 rcases i8 hk with rfl|rfl|rfl|rfl
 ·have:FC m [105,110]=[105,110]:=by cases m<;>rfl
  rw[this];show A j=true↔B (f j)=true
  rw[q5 j hj]
 ·cases m
  ·exact vI h q5 ex
  ·exact vI h q5 ex
 ·cases m
  ·exact vI h q5 ey
  ·exact vI h q5 ey
 ·have:FC m [98,101,108,111,119]=[98,101,108,111,119]:=by cases m<;>rfl
  rw[this];exact vI h q5 eu
theorem LW(h:Np n m f g sz uK lk tj){A B:Nat->Bool}(q5:∀j,j<n->A j=B (f j)){R R':Nat->Prop}(hR:∀q,q<n->(R q↔R' (f q))):(∀q,q<n->A q=true->R q)↔∀q,q<n->B q=true->R' q:=by
 constructor
 ·intro hh q hq e
  have:=(hR _ (h.gl q hq)).mp (hh (g q) (h.gl q hq) (by rw[q5 _ (h.gl q hq),h.fg q hq];exact e))
  rw[h.fg q hq]at this;exact this
 ·intro hh q hq e
  exact(hR q hq).mpr (hh (f q) (h.fl q hq) (by rw[<- q5 q hq];exact e))
theorem Ea(F:Nat->Bool):∀n:Nat,∃x,x<2^n/\∀j,j<n->bt x j=F j
 |0=>⟨0,by decide,fun j hj=>absurd hj (by omega)⟩
 |n+1=>by
  obtain⟨x,h1,h2⟩:=Ea F n
  cases e:F n with
  |false=>
   refine⟨x,by rw[kG];omega,fun j hj=>?_⟩
   rcases d5 j n with q|q
   ·exact h2 j q
   ·obtain rfl:j=n:=by omega
    rw[e];exact fC h1
  |true=>
   refine⟨2^n+x,by rw[kG];omega,fun j hj=>?_⟩
   rcases d5 j n with q|q
   ·rw[<- h2 j q];exact lu q x
   ·obtain rfl:j=n:=by omega
    rw[e];show Nat.testBit _ _=true
    rw[lv,fC h1];rfl
theorem Eb{d:Nat}(um:d∈LC↔c∈LC){a b:Nat->Nat}(hl:∀j,j<n->a j<n)(h2:∀j,j<n->b j<n)(VH:∀j,j<n->b (a j)=j)(WG:∀j,j<n->a (b j)=j){x:Nat}(hx:x∈kJ c n):∃z∈kJ d n,∀j,j<n->bt z (a j)=bt x j:=by
 unfold kJ at hx ⊢
 by_cases e:c∈LC
 ·rw[aC e]at hx;rw[aC (um.mpr e)]
  obtain⟨i,hi,rfl⟩:=b8.mp hx
  have hi:=df.mp hi
  refine⟨2^a i,b8.mpr ⟨_,df.mpr (hl i hi),rfl⟩,fun j hj=>?_⟩
  rw[oY,oY]
  have:a i=a j↔i=j:=⟨fun z=>by rw[<- VH i hi,z,VH j hj],fun z=>by rw[z]⟩
  simp only[this,eq_comm]
 ·rw[aJ e]at hx;rw[aJ fun z=>e (um.mp z)]
  obtain⟨z,hz,hz2⟩:=Ea (fun j=>bt x (b j)) n
  exact⟨z,df.mpr hz,fun j hj=>by rw[hz2 _ (hl j hj),VH j hj]⟩
theorem LX{l':List Nat}{T T':Nat->Bool}(h1:∀x∈l,∃y∈l',T x=T' y)(h2:∀y∈l',∃x∈l,T x=T' y):l.any T=l'.any T':=by
 rw[cF,io,io]
 constructor
 ·rintro⟨x,hx,e⟩;obtain⟨y,hy,e2⟩:=h1 x hx;exact⟨y,hy,by rw[<- e2];exact e⟩
 ·rintro⟨y,hy,e⟩;obtain⟨x,hx,e2⟩:=h2 y hy;exact⟨x,hx,by rw[e2];exact e⟩
theorem LY{l':List Nat}{T T':Nat->Bool}(h1:∀x∈l,∃y∈l',T x=T' y)(h2:∀y∈l',∃x∈l,T x=T' y):l.all T=l'.all T':=by
 rw[cF,gF,gF]
 constructor
 ·intro hh y hy;obtain⟨x,hx,e2⟩:=h2 y hy;rw[<- e2];exact hh x hx
 ·intro hh x hx;obtain⟨y,hy,e2⟩:=h1 x hx;rw[e2];exact hh y hy
open Classical in
theorem vJ(h:Np n m f g sz uK lk tj){r:Nat->Nat}(hr:Rn r):∀(s:Stm) (A B:Nat->Nat->Bool),s.ok->(∀c,Fr c s->∀j,j<n->A c j=B (r c) (f j))->tv n sz lk s A=tv n uK tj (mS r m s) B
 |.one a,A,B,hs,q5=>by
  show decide _=decide _
  rw[jI]
  exact LV h (q5 a rfl)
 |.two k a b,A,B,hs,q5=>by
  show decide _=decide _
  rw[jI]
  exact LW h (q5 a (.inl rfl)) fun q hq=>Qe h (q5 b (.inr rfl)) hs.1 hq
 |.neg s,A,B,hs,q5=>by
  show(!_)=!_
  rw[vJ h hr s A B hs q5]
 |.jn k s t,A,B,hs,q5=>by
  simp only[tv,mS]
  rw[vJ h hr s A B hs.2.1 fun c hc=>q5 c (.inl hc),vJ h hr t A B hs.2.2 fun c hc=>q5 c (.inr hc)]
 |.bnd k c s,A,B,hs,q5=>by
  have key:∀x z,(∀j,j<n->bt z (f j)=bt x j)->tv n sz lk s (eG A c x)=tv n uK tj (mS r m s) (eG B (r c) z):=fun x z hz=>by
   refine vJ h hr s _ _ hs.2.2 fun d hd j hj=>?_
   unfold eG
   by_cases e:d=c
   ·rw[aC e,aC (by rw[e]),hz j hj]
   ·rw[aJ e,aJ fun q=>e (hr.inj d (vH hs.2.2 hd) c hs.2.1 q)]
    exact q5 d ⟨e,hd⟩ j hj
  have h1:∀x∈kJ c n,∃z∈kJ (r c) n,tv n sz lk s (eG A c x)=tv n uK tj (mS r m s) (eG B (r c) z):=fun x hx=>by
   obtain⟨z,hz,hz2⟩:=Eb (hr.sm c hs.2.1) h.fl h.gl h.gf h.fg hx
   exact⟨z,hz,key x z hz2⟩
  have h2:∀z∈kJ (r c) n,∃x∈kJ c n,tv n sz lk s (eG A c x)=tv n uK tj (mS r m s) (eG B (r c) z):=fun z hz=>by
   obtain⟨x,hx,hx2⟩:=Eb (hr.sm c hs.2.1).symm h.gl h.fl h.fg h.gf hz
   exact⟨x,hx,key x z fun j hj=>by rw[<- hx2 _ (h.fl j hj),h.gf j hj]⟩
  simp only[tv,mS]
  rw[LX h1 h2,LY h1 h2]
end
inductive MT where
 |nil
 |nd (l r:MT) (m:List Nat)
namespace MT
def one:MT->Nat
 |nil=>0
 |nd _ _ _=>1
def size:MT->Nat
 |nil=>0
 |nd l r _=>l.size+r.size+1
def po:MT->List Pl
 |nil=>[]
 |nd l r m=>l.po++r.po++[⟨l.one+2*r.one,m⟩]
def mir:MT->MT
 |nil=>nil
 |nd l r m=>nd r.mir l.mir m
def pi:MT->Nat->Nat
 |nil,j=>j
 |nd l r _,j=>if j<l.size then r.size+l.pi j else if j<l.size+r.size then r.pi (j-l.size)else j
def tp:MT->Nat->Option Nat
 |nil,_=>none
 |nd l r _,o=>some (o+l.size+r.size)
def lkT:MT->Nat->List #[3]
 |nil,_=>[]
 |nd l r _,o=>l.lkT o++r.lkT (o+l.size)++[(l.tp o,r.tp (o+l.size))]
def szT:MT->List Nat
 |nil=>[]
 |nd l r _=>l.szT++r.szT++[l.size+r.size+1]
theorem po_len:∀t:MT,t.po.length=t.size
 |nil=>rfl
 |nd l r m=>by unfold po size;rw[aE,aE,po_len l,po_len r];rfl
theorem gC:∀t:MT,t.szT.length=t.size
 |nil=>rfl
 |nd l r m=>by unfold szT size;rw[aE,aE,gC l,gC r];rfl
theorem gD:∀(t:MT) (o:Nat),(t.lkT o).length=t.size
 |nil,_=>rfl
 |nd l r m,o=>by unfold lkT size;rw[aE,aE,gD l,gD r];rfl
theorem mir_size:∀t:MT,t.mir.size=t.size
 |nil=>rfl
 |nd l r m=>by unfold mir size;rw[mir_size l,mir_size r];omega
theorem uH:∀t:MT,t.mir.mir=t
 |nil=>rfl
 |nd l r m=>by show nd l.mir.mir r.mir.mir m=_;rw[uH l,uH r]
theorem size_nd(l r:MT)(m:List Nat):(nd l r m).size=l.size+r.size+1:=rfl
theorem Ec(l r:MT)(m:List Nat)(j:Nat):(nd l r m).pi j=if j<l.size then r.size+l.pi j else if j<l.size+r.size then r.pi (j-l.size)else j:=rfl
theorem Ed(l r:MT)(m:List Nat)(o:Nat):(nd l r m).tp o=some (o+(nd l r m).size-1):=by
 show some (o+l.size+r.size)=_
 rw[size_nd];congr 1;omega
theorem Vp(l r:MT)(m:List Nat)(o k:Nat):(nd l r m).tp o=some (o+(nd l r m).size+k-1-k):=by
 rw[Ed,size_nd];congr 1;omega
theorem mir_one:∀t:MT,t.mir.one=t.one
 |nil=>rfl
 |nd l r m=>rfl
def cs(S:List Nat):MT->List Nat
 |nil=>S
 |nd l r m=>(nd l r m).size::S
theorem gr:∀(t:MT) {ps:List Pl} {S sz:List Nat} {lk:List #[3]},Gr ps S sz lk->Gr (ps++t.po) (t.cs S) (sz++t.szT) (lk++t.lkT ps.length)
 |nil,ps,S,sz,lk,h=>by
  show Gr (ps++[]) S (sz++[]) (lk++[])
  rw[cC,cC,cC];exact h
 |nd l r m,ps,S,sz,lk,h=>by
  have h1:=gr l h
  have h2:=gr r h1
  rw[aE,po_len]at h2
  unfold po szT lkT
  rw[<- aM,<- aM,<- aM,<- aM,<- aM,<- aM]
  refine .snoc h2 ?_
  rw[aE,aE,po_len,po_len]
  cases l with
  |nil=>
   cases r with
   |nil=>exact .z
   |nd r1 r2 rm=>
    have:=St.r (n:=ps.length+(nil:MT).size+(nd r1 r2 rm).size) (a:=(nd r1 r2 rm).size) (S:=S)
    have e:(none,(nd r1 r2 rm).tp (ps.length+(nil:MT).size))=((none:Option Nat),some (ps.length+(nil:MT).size+(nd r1 r2 rm).size-1)):=by rw[Ed]
    show St _ _ 2 _ _ (none,_)
    rw[e,show(nil:MT).size+(nd r1 r2 rm).size+1=1+(nd r1 r2 rm).size by simp only[size];omega]
    show St _ _ 2 ((nil.size+(nd r1 r2 rm).size+1)::S) _ _
    rw[show(nil:MT).size+(nd r1 r2 rm).size+1=1+(nd r1 r2 rm).size by simp only[size];omega]
    exact this
  |nd l1 l2 lm=>
   cases r with
   |nil=>
    have:=St.l (n:=ps.length+(nd l1 l2 lm).size+(nil:MT).size) (a:=(nd l1 l2 lm).size) (S:=S)
    have e:((nd l1 l2 lm).tp ps.length,(none:Option Nat))=(some (ps.length+(nd l1 l2 lm).size+(nil:MT).size-1),none):=by rw[Ed];rfl
    show St _ _ 1 ((_+1)::S) _ (_,none)
    rw[e,show(nd l1 l2 lm).size+(nil:MT).size+1=1+(nd l1 l2 lm).size by simp only[size];omega]
    exact this
   |nd r1 r2 rm=>
    have:=St.b (n:=ps.length+(nd l1 l2 lm).size+(nd r1 r2 rm).size) (c:=(nd r1 r2 rm).size) (a:=(nd l1 l2 lm).size) (S:=S)
    have e:((nd l1 l2 lm).tp ps.length,(nd r1 r2 rm).tp (ps.length+(nd l1 l2 lm).size))=(some (ps.length+(nd l1 l2 lm).size+(nd r1 r2 rm).size-1-(nd r1 r2 rm).size),some (ps.length+(nd l1 l2 lm).size+(nd r1 r2 rm).size-1)):=by rw[Ed r1,Vp l1 l2 lm _ (nd r1 r2 rm).size]
    show St _ _ 3 ((_+1)::S) _ _
    rw[e,show(nd l1 l2 lm).size+(nd r1 r2 rm).size+1=1+(nd r1 r2 rm).size+(nd l1 l2 lm).size by omega]
    exact this
theorem gr0(t:MT):Gr t.po (t.cs []) t.szT (t.lkT 0):=by
 have:=gr t Gr.nil
 simpa using this
theorem mH:∀(t:MT) (j:Nat),j<t.size->t.pi j<t.size
 |nil,j,h=>absurd h (by simp[size])
 |nd l r m,j,h=>by
  rw[size_nd]at h
  rw[Ec,size_nd]
  by_cases h1:j<l.size
  ·have:=mH l j h1
   rw[aC h1];omega
  ·rw[aJ h1]
   by_cases h2:j<l.size+r.size
   ·have:=mH r (j-l.size) #[0]
    rw[aC h2];omega
   ·rw[aJ h2];omega
theorem xu:∀(t:MT) (j:Nat),j<t.size->t.mir.pi (t.pi j)=j
 |nil,j,h=>absurd h (by simp[size])
 |nd l r m,j,h=>by
  rw[size_nd]at h
  show pi (nd r.mir l.mir m) _=_
  rw[Ec,Ec,mir_size,mir_size]
  by_cases h1:j<l.size
  ·have:=mH l j h1
   rw[aC h1,aJ #[0],aC #[0],cV]
   rw[xu l j h1]
  ·rw[aJ h1]
   by_cases h2:j<l.size+r.size
   ·have:=mH r (j-l.size) #[0]
    rw[aC h2,aC this,xu r _ #[0]];omega
   ·rw[aJ h2,aJ #[0],aJ #[0]]
def Lc:MT->Nat->Nat->Prop
 |nil,_,_=>False
 |nd l r _,q,j=>(q<l.size/\j<l.size/\l.Lc q j)\/(l.size<=q/\q<l.size+r.size/\l.size<=j/\j<l.size+r.size/\r.Lc (q-l.size) (j-l.size))\/(q=l.size+r.size/\0<l.size/\j+1=l.size)
def Rc:MT->Nat->Nat->Prop
 |nil,_,_=>False
 |nd l r _,q,j=>(q<l.size/\j<l.size/\l.Rc q j)\/(l.size<=q/\q<l.size+r.size/\l.size<=j/\j<l.size+r.size/\r.Rc (q-l.size) (j-l.size))\/(q=l.size+r.size/\0<r.size/\j+1=l.size+r.size)
def Bl:MT->Nat->Nat->Prop
 |nil,_,_=>False
 |nd l r _,q,j=>(q<l.size/\j<l.size/\l.Bl q j)\/(l.size<=q/\q<l.size+r.size/\l.size<=j/\j<l.size+r.size/\r.Bl (q-l.size) (j-l.size))\/(q=l.size+r.size/\j<l.size+r.size)
end MT
end P
namespace P
open PySem L2
namespace MT
theorem mI(l r:MT)(m:List Nat)(h:j<(nd l r m).size):(j<l.size/\(nd l r m).pi j=r.size+l.pi j/\l.pi j<l.size)\/(l.size<=j/\j-l.size<r.size/\(nd l r m).pi j=r.pi (j-l.size)/\r.pi (j-l.size)<r.size)\/(j=l.size+r.size/\(nd l r m).pi j=l.size+r.size):=by
 rw[size_nd]at h
 rw[Ec]
 by_cases h1:j<l.size
 ·exact .inl ⟨h1,aC h1,mH l j h1⟩
 ·rw[aJ h1]
  by_cases h2:j<l.size+r.size
  ·exact .inr (.inl ⟨by omega,by omega,aC h2,mH r _ #[0]⟩)
  ·exact .inr (.inr ⟨by omega,by rw[aJ h2];omega⟩)
theorem Qf{t:MT}(h:j<t.size):t.pi j+1=t.size↔j+1=t.size:=by
 cases t with
 |nil=>exact absurd h (by simp[size])
 |nd l r m=>
  rcases mI l r m h with⟨h1,h2,h3⟩|⟨h1,h2,h3,h4⟩|⟨h1,h2⟩
  ·rw[h2,size_nd];omega
  ·rw[h3,size_nd];omega
  ·rw[h2,size_nd];omega
theorem Qg(l r:MT)(m:List Nat)(q j:Nat):(nd l r m).mir.Rc q j↔(q<r.size/\j<r.size/\r.mir.Rc q j)\/(r.size<=q/\q<r.size+l.size/\r.size<=j/\j<r.size+l.size/\l.mir.Rc (q-r.size) (j-r.size))\/(q=r.size+l.size/\0<l.size/\j+1=r.size+l.size):=by
 rw[<- mir_size l,<- mir_size r];exact nH
theorem Qh(l r:MT)(m:List Nat)(q j:Nat):(nd l r m).mir.Bl q j↔(q<r.size/\j<r.size/\r.mir.Bl q j)\/(r.size<=q/\q<r.size+l.size/\r.size<=j/\j<r.size+l.size/\l.mir.Bl (q-r.size) (j-r.size))\/(q=r.size+l.size/\j<r.size+l.size):=by
 rw[<- mir_size l,<- mir_size r];exact nH
theorem TN(l r:MT)(m:List Nat)(q j:Nat):(nd l r m).Lc q j↔(q<l.size/\j<l.size/\l.Lc q j)\/(l.size<=q/\q<l.size+r.size/\l.size<=j/\j<l.size+r.size/\r.Lc (q-l.size) (j-l.size))\/(q=l.size+r.size/\0<l.size/\j+1=l.size):=nH
theorem TQ(l r:MT)(m:List Nat)(q j:Nat):(nd l r m).Bl q j↔(q<l.size/\j<l.size/\l.Bl q j)\/(l.size<=q/\q<l.size+r.size/\l.size<=j/\j<l.size+r.size/\r.Bl (q-l.size) (j-l.size))\/(q=l.size+r.size/\j<l.size+r.size):=nH
theorem AJ:∀(t:MT) (q j:Nat),q<t.size->j<t.size->(t.Lc q j↔t.mir.Rc (t.pi q) (t.pi j))
 |nil,q,j,h,_=>absurd h (by simp[size])
 |nd l r m,q,j,hq,hj=>by
  rw[TN,Qg]
  rcases mI l r m hq with⟨a1,a2,a3⟩|⟨a1,a2,a3,a4⟩|⟨a1,a2⟩<;>rcases mI l r m hj with⟨b1,b2,b3⟩|⟨b1,b2,b3,b4⟩|⟨b1,b2⟩
  ·rw[a2,b2,cV,cV]
   have ih:=AJ l q j a1 b1
   constructor
   ·rintro(⟨_,_,e⟩|⟨e,_⟩|⟨e,_⟩)
    ·exact .inr (.inl ⟨by omega,by omega,by omega,by omega,ih.mp e⟩)
    ·omega
    ·omega
   ·rintro(⟨e,_⟩|⟨_,_,_,_,e⟩|⟨e,_⟩)
    ·omega
    ·exact .inl ⟨a1,b1,ih.mpr e⟩
    ·omega
  ·rw[a2,b3]
   constructor
   ·rintro(⟨_,_,e⟩|⟨e,_⟩|⟨e,_⟩)<;>omega
   ·rintro(⟨e,_⟩|⟨_,_,e,_,_⟩|⟨e,_⟩)<;>omega
  ·rw[a2,b2]
   constructor
   ·rintro(⟨_,_,e⟩|⟨e,_⟩|⟨e,_⟩)<;>omega
   ·rintro(⟨e,_⟩|⟨_,_,_,e,_⟩|⟨e,_⟩)<;>omega
  ·rw[a3,b2]
   constructor
   ·rintro(⟨e,_,_⟩|⟨_,_,e,_⟩|⟨e,_⟩)<;>omega
   ·rintro(⟨_,e,_⟩|⟨e,_,_,_,_⟩|⟨e,_⟩)<;>omega
  ·rw[a3,b3]
   have ih:=AJ r (q-l.size) (j-l.size) a2 b2
   constructor
   ·rintro(⟨e,_⟩|⟨_,_,_,_,e⟩|⟨e,_⟩)
    ·omega
    ·exact .inl ⟨a4,b4,ih.mp e⟩
    ·omega
   ·rintro(⟨_,_,e⟩|⟨e,_⟩|⟨e,_⟩)
    ·exact .inr (.inl ⟨a1,by omega,b1,by omega,ih.mpr e⟩)
    ·omega
    ·omega
  ·rw[a3,b2]
   constructor
   ·rintro(⟨e,_,_⟩|⟨_,_,_,e,_⟩|⟨e,_⟩)<;>omega
   ·rintro(⟨_,e,_⟩|⟨e,_,_,_,_⟩|⟨e,_⟩)<;>omega
  ·rw[a2,b2]
   have ht:=Qf b1
   constructor
   ·rintro(⟨e,_,_⟩|⟨_,e,_⟩|⟨_,e,e2⟩)
    ·omega
    ·omega
    ·exact .inr (.inr ⟨by omega,e,by have:=ht.mpr e2;omega⟩)
   ·rintro(⟨e,_,_⟩|⟨_,e,_⟩|⟨_,e,e2⟩)
    ·omega
    ·omega
    ·exact .inr (.inr ⟨a1,e,ht.mp #[0]⟩)
  ·rw[a2,b3]
   constructor
   ·rintro(⟨e,_,_⟩|⟨_,e,_⟩|⟨_,e,e2⟩)<;>omega
   ·rintro(⟨e,_,_⟩|⟨_,e,_⟩|⟨_,e,e2⟩)<;>omega
  ·rw[a2,b2]
   constructor
   ·rintro(⟨e,_,_⟩|⟨_,e,_⟩|⟨_,e,e2⟩)<;>omega
   ·rintro(⟨e,_,_⟩|⟨_,e,_⟩|⟨_,e,e2⟩)<;>omega
theorem Jn:∀(t:MT) (q j:Nat),q<t.size->j<t.size->(t.Bl q j↔t.mir.Bl (t.pi q) (t.pi j))
 |nil,q,j,h,_=>absurd h (by simp[size])
 |nd l r m,q,j,hq,hj=>by
  rw[TQ,Qh]
  rcases mI l r m hq with⟨a1,a2,a3⟩|⟨a1,a2,a3,a4⟩|⟨a1,a2⟩<;>rcases mI l r m hj with⟨b1,b2,b3⟩|⟨b1,b2,b3,b4⟩|⟨b1,b2⟩
  ·rw[a2,b2,cV,cV]
   have ih:=Jn l q j a1 b1
   constructor
   ·rintro(⟨_,_,e⟩|⟨e,_⟩|⟨e,_⟩)
    ·exact .inr (.inl ⟨by omega,by omega,by omega,by omega,ih.mp e⟩)
    ·omega
    ·omega
   ·rintro(⟨e,_⟩|⟨_,_,_,_,e⟩|⟨e,_⟩)
    ·omega
    ·exact .inl ⟨a1,b1,ih.mpr e⟩
    ·omega
  ·rw[a2,b3]
   constructor
   ·rintro(⟨_,_,e⟩|⟨e,_⟩|⟨e,_⟩)<;>omega
   ·rintro(⟨e,_⟩|⟨_,_,e,_,_⟩|⟨e,_⟩)<;>omega
  ·rw[a2,b2]
   constructor
   ·rintro(⟨_,_,e⟩|⟨e,_⟩|⟨e,_⟩)<;>omega
   ·rintro(⟨e,_⟩|⟨_,_,_,e,_⟩|⟨e,_⟩)<;>omega
  ·rw[a3,b2]
   constructor
   ·rintro(⟨e,_,_⟩|⟨_,_,e,_⟩|⟨e,_⟩)<;>omega
   ·rintro(⟨_,e,_⟩|⟨e,_,_,_,_⟩|⟨e,_⟩)<;>omega
  ·rw[a3,b3]
   have ih:=Jn r (q-l.size) (j-l.size) a2 b2
   constructor
   ·rintro(⟨e,_⟩|⟨_,_,_,_,e⟩|⟨e,_⟩)
    ·omega
    ·exact .inl ⟨a4,b4,ih.mp e⟩
    ·omega
   ·rintro(⟨_,_,e⟩|⟨e,_⟩|⟨e,_⟩)
    ·exact .inr (.inl ⟨a1,by omega,b1,by omega,ih.mpr e⟩)
    ·omega
    ·omega
  ·rw[a3,b2]
   constructor
   ·rintro(⟨e,_,_⟩|⟨_,_,_,e,_⟩|⟨e,_⟩)<;>omega
   ·rintro(⟨_,e,_⟩|⟨e,_,_,_,_⟩|⟨e,_⟩)<;>omega
  ·rw[a2,b2];exact⟨fun _=>.inr (.inr ⟨by omega,by omega⟩),fun _=>.inr (.inr ⟨a1,by omega⟩)⟩
  ·rw[a2,b3];exact⟨fun _=>.inr (.inr ⟨by omega,by omega⟩),fun _=>.inr (.inr ⟨a1,by omega⟩)⟩
  ·rw[a2,b2]
   constructor
   ·rintro(⟨e,_,_⟩|⟨_,e,_⟩|⟨_,e⟩)<;>omega
   ·rintro(⟨e,_,_⟩|⟨_,e,_⟩|⟨_,e⟩)<;>omega
theorem Nq(t:MT)(q j:Nat)(hq:q<t.size)(hj:j<t.size):t.Rc q j↔t.mir.Lc (t.pi q) (t.pi j):=by
 have:=AJ t.mir (t.pi q) (t.pi j) (by rw[mir_size];exact mH t q hq) (by rw[mir_size];exact mH t j hj)
 rw[uH,xu t q hq,xu t j hj]at this
 exact this.symm
end MT
end P
namespace P
open PySem L2
theorem AK{a b:List α}{d:α}(h:q<a.length):(a++b).getD q d=a.getD q d:=by
 rw[aT,bj h,<- aT]
theorem AL{a b:List α}{d:α}(h:a.length<=q):(a++b).getD q d=b.getD (q-a.length) d:=by
 rw[aT,dg h,<- aT]
namespace MT
theorem Nr:∀{t:MT} {q j:Nat},t.Lc q j->j<t.size
 |nd l r m,q,j,h=>by
  rw[size_nd]
  rcases h with⟨_,h,_⟩|⟨_,_,_,h,_⟩|⟨_,_,h⟩<;>omega
theorem Nt:∀{t:MT} {q j:Nat},t.Rc q j->j<t.size
 |nd l r m,q,j,h=>by
  rw[size_nd]
  rcases h with⟨_,h,_⟩|⟨_,_,_,h,_⟩|⟨_,_,h⟩<;>omega
theorem Jo:∀(t:MT) (o i:Nat),t.tp o=some i↔0<t.size/\i+1=o+t.size
 |nil,o,i=>⟨fun h=>(by cases h),fun h=>absurd h.1 (by simp[size])⟩
 |nd l r m,o,i=>by
  show some (o+l.size+r.size)=some i↔_
  rw[size_nd,Option.some_inj];omega
theorem LZ:∀(t:MT) (o q i:Nat),q<t.size->(lx (t.lkT o) q=some i↔∃j,i=o+j/\t.Lc q j)
 |nil,o,q,i,h=>absurd h (by simp[size])
 |nd l r m,o,q,i,h=>by
  rw[size_nd]at h
  show((l.lkT o++r.lkT (o+l.size)++[(l.tp o,r.tp (o+l.size))]).getD q (none,none)).1=some i↔_
  by_cases h1:q<l.size
  ·rw[aM,AK (by rw[gD];exact h1)]
   refine(LZ l o q i h1).trans ⟨fun⟨j,e,z⟩=>⟨j,e,.inl ⟨h1,Nr z,z⟩⟩,?_⟩
   rintro⟨j,e,⟨_,_,z⟩|⟨z,_⟩|⟨z,_⟩⟩
   ·exact⟨j,e,z⟩
   ·omega
   ·omega
  ·by_cases h2:q<l.size+r.size
   ·rw[aM,AL (by rw[gD];omega),AK (by rw[gD,gD];omega),gD]
    refine(LZ r (o+l.size) (q-l.size) i #[0]).trans ⟨fun⟨j,e,z⟩=>⟨l.size+j,by omega,.inr (.inl ⟨by omega,h2,by omega,by have:=Nr z;omega,by rw[cV];exact z⟩)⟩,?_⟩
    rintro⟨j,e,⟨z,_⟩|⟨_,_,z1,_,z⟩|⟨z,_⟩⟩
    ·omega
    ·exact⟨j-l.size,by omega,z⟩
    ·omega
   ·rw[AL (by rw[aE,gD,gD];omega),aE,gD,gD,show q-(l.size+r.size)=0 by omega]
    show l.tp o=some i↔_
    rw[Jo]
    refine⟨fun⟨a,b⟩=>⟨l.size-1,by omega,.inr (.inr ⟨by omega,a,by omega⟩)⟩,?_⟩
    rintro⟨j,e,⟨z,_⟩|⟨_,z,_⟩|⟨_,z,z2⟩⟩
    ·omega
    ·omega
    ·exact⟨z,by omega⟩
theorem L0:∀(t:MT) (o q i:Nat),q<t.size->(ly (t.lkT o) q=some i↔∃j,i=o+j/\t.Rc q j)
 |nil,o,q,i,h=>absurd h (by simp[size])
 |nd l r m,o,q,i,h=>by
  rw[size_nd]at h
  show((l.lkT o++r.lkT (o+l.size)++[(l.tp o,r.tp (o+l.size))]).getD q (none,none)).2=some i↔_
  by_cases h1:q<l.size
  ·rw[aM,AK (by rw[gD];exact h1)]
   refine(L0 l o q i h1).trans ⟨fun⟨j,e,z⟩=>⟨j,e,.inl ⟨h1,Nt z,z⟩⟩,?_⟩
   rintro⟨j,e,⟨_,_,z⟩|⟨z,_⟩|⟨z,_⟩⟩
   ·exact⟨j,e,z⟩
   ·omega
   ·omega
  ·by_cases h2:q<l.size+r.size
   ·rw[aM,AL (by rw[gD];omega),AK (by rw[gD,gD];omega),gD]
    refine(L0 r (o+l.size) (q-l.size) i #[0]).trans ⟨fun⟨j,e,z⟩=>⟨l.size+j,by omega,.inr (.inl ⟨by omega,h2,by omega,by have:=Nt z;omega,by rw[cV];exact z⟩)⟩,?_⟩
    rintro⟨j,e,⟨z,_⟩|⟨_,_,z1,_,z⟩|⟨z,_⟩⟩
    ·omega
    ·exact⟨j-l.size,by omega,z⟩
    ·omega
   ·rw[AL (by rw[aE,gD,gD];omega),aE,gD,gD,show q-(l.size+r.size)=0 by omega]
    show r.tp (o+l.size)=some i↔_
    rw[Jo]
    refine⟨fun⟨a,b⟩=>⟨l.size+r.size-1,by omega,.inr (.inr ⟨by omega,a,by omega⟩)⟩,?_⟩
    rintro⟨j,e,⟨z,_⟩|⟨_,z,_⟩|⟨_,z,z2⟩⟩
    ·omega
    ·omega
    ·exact⟨z,by omega⟩
theorem Jp:∀(t:MT) (q:Nat),q<t.size->t.szT.getD q 0<=q+1
 |nil,q,h=>absurd h (by simp[size])
 |nd l r m,q,h=>by
  rw[size_nd]at h
  show(l.szT++r.szT++[l.size+r.size+1]).getD q 0<=_
  by_cases h1:q<l.size
  ·rw[aM,AK (by rw[gC];exact h1)];exact Jp l q h1
  ·by_cases h2:q<l.size+r.size
   ·rw[aM,AL (by rw[gC];omega),AK (by rw[gC,gC];omega),gC]
    have:=Jp r (q-l.size) #[0];omega
   ·rw[AL (by rw[aE,gC,gC];omega),aE,gC,gC,show q-(l.size+r.size)=0 by omega]
    show l.size+r.size+1<=_;omega
theorem AM:∀(t:MT) (q j:Nat),q<t.size->((lo t.szT q<=j/\j<q)↔t.Bl q j)
 |nil,q,j,h=>absurd h (by simp[size])
 |nd l r m,q,j,h=>by
  rw[size_nd]at h
  unfold lo
  show(q+1-(l.szT++r.szT++[l.size+r.size+1]).getD q 0<=j/\j<q)↔_
  by_cases h1:q<l.size
  ·rw[aM,AK (by rw[gC];exact h1)]
   refine(AM l q j h1).trans ⟨fun z=>.inl ⟨h1,by have:=((AM l q j h1).mpr z).2;omega,z⟩,?_⟩
   rintro(⟨_,_,z⟩|⟨z,_⟩|⟨z,_⟩)
   ·exact z
   ·omega
   ·omega
  ·by_cases h2:q<l.size+r.size
   ·rw[aM,AL (by rw[gC];omega),AK (by rw[gC,gC];omega),gC]
    have hs:=Jp r (q-l.size) #[0]
    have ih:=AM r (q-l.size) (j-l.size) #[0]
    unfold lo at ih
    constructor
    ·intro⟨z1,z2⟩
     have hj:l.size<=j:=by omega
     exact .inr (.inl ⟨by omega,h2,hj,by omega,ih.mp ⟨by omega,by omega⟩⟩)
    ·rintro(⟨z,_⟩|⟨_,_,z1,_,z⟩|⟨z,_⟩)
     ·omega
     ·have:=ih.mpr z;omega
     ·omega
   ·rw[AL (by rw[aE,gC,gC];omega),aE,gC,gC,show q-(l.size+r.size)=0 by omega]
    show(q+1-(l.size+r.size+1)<=j/\j<q)↔_
    constructor
    ·intro⟨z1,z2⟩;exact .inr (.inr ⟨by omega,by omega⟩)
    ·rintro(⟨z,_⟩|⟨_,z,_⟩|⟨_,z⟩)<;>omega
theorem iso(t:MT):Np t.size true t.pi t.mir.pi t.szT t.mir.szT (t.lkT 0) (t.mir.lkT 0) where
 fl:=mH t
 gl:=fun j hj=>by have:=mH t.mir j (by rw[mir_size];exact hj);rwa[mir_size]at this
 gf:=xu t
 fg:=fun j hj=>by have:=xu t.mir j (by rw[mir_size];exact hj);rwa[uH]at this
 x:=fun q j hq hj=>by
  rw[aC rfl,LZ t 0 q j hq,L0 t.mir 0 _ _ (by rw[mir_size];exact mH t q hq)]
  exact⟨fun⟨i,e,z⟩=>⟨t.pi j,by omega,(AJ t q j hq hj).mp (by rw[show j=i by omega];exact z)⟩,fun⟨i,e,z⟩=>⟨j,by omega,(AJ t q j hq hj).mpr (by rw[show t.pi j=i by omega];exact z)⟩⟩
 y:=fun q j hq hj=>by
  rw[aC rfl,L0 t 0 q j hq,LZ t.mir 0 _ _ (by rw[mir_size];exact mH t q hq)]
  exact⟨fun⟨i,e,z⟩=>⟨t.pi j,by omega,(Nq t q j hq hj).mp (by rw[show j=i by omega];exact z)⟩,fun⟨i,e,z⟩=>⟨j,by omega,(Nq t q j hq hj).mpr (by rw[show t.pi j=i by omega];exact z)⟩⟩
 u:=fun q j hq hj=>by
  rw[AM t q j hq,AM t.mir _ _ (by rw[mir_size];exact mH t q hq)]
  exact Jn t q j hq hj
theorem L1{a b:List Pl}(h:j<a.length):uF (a++b) j=uF a j:=by unfold uF;rw[bj h]
theorem L3{a b:List Pl}(h:a.length<=j):uF (a++b) j=uF b (j-a.length):=by unfold uF;rw[dg h]
theorem po_mk:∀(t:MT) (j:Nat),j<t.size->uF t.mir.po (t.pi j)=uF t.po j
 |nil,j,h=>absurd h (by simp[size])
 |nd l r m,j,h=>by
  show uF (r.mir.po++l.mir.po++[⟨r.mir.one+2*l.mir.one,m⟩]) _=uF (l.po++r.po++[⟨l.one+2*r.one,m⟩]) j
  rcases mI l r m h with⟨a1,a2,a3⟩|⟨a1,a2,a3,a4⟩|⟨a1,a2⟩
  ·rw[a2,aM,L3 (by rw[po_len,mir_size];omega),L1 (by rw[po_len,po_len,mir_size,mir_size];omega),aM l.po,L1 (by rw[po_len];exact a1),po_len,mir_size,cV]
   exact po_mk l j a1
  ·rw[a3,aM,L1 (by rw[po_len,mir_size];exact a4),aM l.po,L3 (by rw[po_len];exact a1),L1 (by rw[po_len,po_len];exact a2),po_len]
   exact po_mk r _ a2
  ·rw[a2,L3 (by rw[aE,po_len,po_len,mir_size,mir_size];omega),L3 (by rw[aE,po_len,po_len];omega),aE,aE,po_len,po_len,po_len,po_len,mir_size,mir_size,a1,show l.size+r.size-(r.size+l.size)=0 by omega,Nat.sub_self]
   rfl
end MT
theorem Gr.one{ps:List Pl}{sz:List Nat}{lk:List #[3]}(h:Gr ps S sz lk):∀{Mc:List Pl} {S' uK:List Nat} {tj:List #[3]},Gr Mc S' uK tj->ps=Mc->S=S'/\sz=uK/\lk=tj:=by
 induction h with
 |nil=>
  intro Mc S' uK tj h' e
  cases h' with
  |nil=>exact⟨rfl,rfl,rfl⟩
  |snoc g s=>simp at e
 |@snoc ps S S1 sz lk b k m x g s ih=>
  intro Mc S' uK tj h' e
  cases h' with
  |nil=>simp at e
  |@snoc ps2 S2 S3 sz2 lk2 b2 k2 m2 x2 g2 s2=>
   obtain⟨e1,e2⟩:=List.append_inj' e rfl
   cases e2
   obtain⟨rfl,rfl,rfl⟩:=ih g2 e1
   subst e1
   obtain⟨rfl,rfl,rfl⟩:=s.det s2
   exact⟨rfl,rfl,rfl⟩
end P
namespace P
open PySem L2
def uh:List MT->List Pl
 |[]=>[]
 |t::F=>uh F++t.po
def MT.cns1:MT->List MT->List MT
 |.nil,G=>G
 |.nd l r m,G=>.nd l r m::G
def MT.cns'(l r:MT)(G:List MT):List MT:=r.cns1 (l.cns1 G)
structure FO(qs:List Pl)(F:List MT)(S:List Nat):Prop where
 ps:qs=uh F
 s:S=F.map MT.size
 nn:∀t∈F,t≠.nil
abbrev za(F:List MT):List W:=(F.map fun t=>dC t.mir.po).reverse
theorem AN(t:MT)(F:List MT):za (t::F)=za F++[dC t.mir.po]:=by simp[za]
theorem pb{t:MT}(h:t≠.nil):t.one=1:=by
 cases t with
 |nil=>exact(h rfl).elim
 |nd l r m=>rfl
theorem AO:∀F:List MT,(uh F).length=(F.map MT.size).sum
 |[]=>rfl
 |t::F=>by show(uh F++t.po).length=_;rw[aE,AO F,MT.po_len,aW,jS];omega
theorem FO.len{qs:List Pl}{F:List MT}(h:FO qs F S):F.length<=qs.length:=by
 rw[h.ps,AO]
 have hn:=h.nn
 clear h
 induction F with
 |nil=>simp
 |cons a F ih=>
  have:=ih fun t ht=>hn t (bi _ ht)
  have h1:1<=a.size:=by
   cases a with
   |nil=>exact(hn _ (bY ..) rfl).elim
   |nd l r m=>rw[MT.size_nd];omega
  rw[aW,jS,eM];omega
theorem Qi(l r:MT)(m:List Nat):(MT.nd l r m).mir.po=r.mir.po++l.mir.po++[⟨r.one+2*l.one,m⟩]:=by
 show r.mir.po++l.mir.po++[⟨r.mir.one+2*l.mir.one,m⟩]=_
 rw[MT.mir_one,MT.mir_one]
theorem yN{a:Nat}{qs:List Pl}{F:List MT}(h:FO qs F (a::S)):∃t G,F=t::G/\S=G.map MT.size:=by
 obtain⟨_,h2,_⟩:=h
 cases F with
 |nil=>cases h2
 |cons t G=>rw[aW]at h2;injection h2 with _ h3;exact⟨t,G,rfl,h3⟩
section
variable{ps:List Pl}{sz:List Nat}{lk:List #[3]}
theorem Ee(t:MT)(G:List MT):uh (t.cns1 G)=uh G++t.po:=by
 cases t with
 |nil=>show uh G=uh G++[];rw[cC]
 |nd l r m=>rfl
theorem Ef{t:MT}(h:t≠.nil)(G:List MT):t.cns1 G=t::G:=by
 cases t with
 |nil=>exact(h rfl).elim
 |nd l r m=>rfl
theorem Jq{t x:MT}{G:List MT}(h:x∈G):x∈t.cns1 G:=by
 cases t with
 |nil=>exact h
 |nd l r m=>exact bi _ h
theorem Jr(t:MT)(G:List MT):G.length<=(t.cns1 G).length:=by
 cases t with
 |nil=>exact ay _
 |nd l r m=>exact bB _
theorem AQ(h:Gr ps S sz lk)(hS:S.length<=1)(hn:ps.length<=1000)(st:List al):∃t:MT,ps=t.po/\As [dC ps] st=.ok (dC t.mir.po) st:=by
 suffices hh:ju (BB fun w bF=>(∃x,bF=st++x)/\undWs st.length [w]=true/\∃t:MT,ps=t.po/\w=dC t.mir.po) (Nd ([dC ps].map some++List.replicate (6-1) none) st) by
  obtain⟨w,⟨t,h1,rfl⟩,e⟩:=uz hh
  exact⟨t,h1,e⟩
 have INV:∃I:Nat->cv->List al->Prop,I=(fun i ρ bF=>∃(F:List MT) (S1:List Nat) (o2 o3 o4 o5:Option W) (x:List al),ρ=[some (dC ps),some #[2],o2,o3,o4,o5]/\bF=st++(.lst (za F)::x)/\FO (ps.take i) F S1/\Gr (ps.take i) S1 (sz.take i) (lk.take i)/\i<=ps.length):=⟨_,rfl⟩
 obtain⟨I,hI⟩:=INV
 refine aF (a9 (oN ba #[1])) ?_
 refine fA I (k:=(ps.map Pl.w,none)) (kA kv) (by rw[hI];exact⟨[],[],none,none,none,none,[],rfl,rfl,⟨rfl,rfl,fun t ht=>by cases ht⟩,.nil,bU _⟩) (fun _ _ _ _=>trivial) ?_ ?_
 ·intro i w ρ bF hw hi
  rw[hI]at hi
  obtain⟨F,S1,o2,o3,o4,o5,x,rfl,rfl,hF,hg,hi⟩:=hi
  have hip:i<ps.length:=by have:=(aj.mp hw).1;simpa using this
  obtain⟨S1',S2,p,k,lp,g1,q1,q2,q3,hs,g2⟩:=h.step i hip
  simp only at hw
  rw[aG,q1]at hw
  cases hw
  obtain rfl:=hg.det g1 rfl
  obtain⟨b,m⟩:=p
  refine⟨[some (dC ps),some #[2],some (.int b),some (.str m),o4,o5],rfl,?_⟩
  have Q7:ps.take (i+1)=ps.take i++[⟨b,m⟩]:=by rw[h9,q1];rfl
  have hti:(ps.take i).length=i:=by rw[bE];omega
  have isl:∀A (y:List al),mC (st++(.lst A::y)) #[2]=true:=fun A y=>dR (by rw[dA];rfl)
  have pop:∀(t:MT) (G:List MT) (y:List al),p9 #[2] [] (st++(.lst (za (t::G))::y))=.ok (dC t.mir.po) (st++(.lst (za G)::y)):=fun t G y=>by
   have hc:(st++(al.lst (za (t::G))::y))[st.length]?=some (.lst (za G++[dC t.mir.po])):=by rw[dA,AN];rfl
   rw[zZ hc,dN];rfl
  have ie:∀(l r:MT) (G:List MT) (bb:Nat),r.one+2*l.one=bb->(l.one+2*r.one=b)->([0,2,1,3]:List Nat)[b]?=some bb->S2=(MT.nd l r m::G).map MT.size->FO (ps.take i) (MT.cns' l r G) S1->∀y:List al,
    ju (FB (I (i+1))) (eO (lJ bO (af 1) (ah (e2 e7 (e2 e7 (af 5) (af 4)) (fP (ah (fP (ah (e2 bH (kO (ah (eI 0) (ah (eI 2) (ah (eI 1) (ah (eI 3) aK))))) (af 2)) (ah (af 3) aK))) aK))) aK)) [some (dC ps),some #[2],some (.int b),some (.str m),some (dC l.mir.po),some (dC r.mir.po)] (st++(.lst (za G)::y))):=by
   intro l r G bb e1 e2' e3 e4 hFO y
   have hfl:ps.take i=uh G++l.po++r.po:=by rw[hFO.ps];show uh (r.cns1 (l.cns1 G))=_;rw[Ee,Ee]
   have hln:i=(uh G).length+l.size+r.size:=by rw[<- hti,hfl,aE,aE,MT.po_len,MT.po_len]
   have hGl:G.length<=i:=by
    have h1:=hFO.len
    have h2:G.length<=(MT.cns' l r G).length:=aH (Jr l G) (Jr r _)
    omega
   have hml:∀t:MT,(t.mir.po.map Pl.w).length=t.size:=fun t=>by rw[az,MT.po_len,MT.mir_size]
   have hFO2:FO (ps.take (i+1)) (MT.nd l r m::G) S2:=⟨by rw[Q7,hfl];show _=uh G++(l.po++r.po++[⟨l.one+2*r.one,m⟩]);rw[e2',aM,aM,aM],e4,fun t ht=>by
    rcases a7.mp ht with rfl|z
    ·intro z;cases z
    ·exact hFO.nn t (Jq (Jq z))⟩
   have ix:∀ρ:cv,ρ[2]?=some (some (.int b))->e2 bH (kO (ah (eI 0) (ah (eI 2) (ah (eI 1) (ah (eI 3) aK))))) (af 2) ρ (st++(.lst (za G)::y))=.ok (.int bb) (st++(.lst (za G)::y)++[.lst [.int 0,.int 2,.int 1,.int 3]]):=fun ρ hρ=>
    a_ (oN (ak bd (ak bd (ak bd (ak bd ba)))) (ax rfl)) (dB hρ) (gW (br bP) (fK (by
     show(([0,2,1,3]:List Nat).map fun k=>W.int (k:Nat))[b]?=_
     rw[aG,e3];rfl)))
   have s1e:st++(al.lst (za G)::y)++[al.lst [.int 0,.int 2,.int 1,.int 3]]=st++(al.lst (za G)::(y++[al.lst [.int 0,.int 2,.int 1,.int 3]])):=by simp
   have ap:bO #[2] [dC (MT.nd l r m).mir.po] (st++(al.lst (za G)::y)++[al.lst [.int 0,.int 2,.int 1,.int 3]])=.ok .non (st++(al.lst (za (MT.nd l r m::G))::(y++[al.lst [.int 0,.int 2,.int 1,.int 3]]))):=by
    have hc:(st++(al.lst (za G)::(y++[al.lst [.int 0,.int 2,.int 1,.int 3]])))[st.length]?=some (.lst (za G)):=by rw[dA];rfl
    rw[s1e,jY hc (by rw[List.length_reverse,az];show _<1000000;omega),dN,AN];rfl
   have val:dC (MT.nd l r m).mir.po=.tup (r.mir.po.map Pl.w++l.mir.po.map Pl.w++[.tup [.int bb,.str m]]):=by
    rw[Qi,e1];show W.tup _=_
    rw[b7,b7];rfl
   rw[val]at ap
   have ad1:∀s:List al,e7 (dC r.mir.po) (dC l.mir.po) s=.ok (.tup (r.mir.po.map Pl.w++l.mir.po.map Pl.w)) s:=fun s=>Cq (by rw[aE,hml,hml];show _<=1000000;omega)
   have ad2:∀s:List al,e7 (.tup (r.mir.po.map Pl.w++l.mir.po.map Pl.w)) (.tup [.tup [.int bb,.str m]]) s=.ok (.tup (r.mir.po.map Pl.w++l.mir.po.map Pl.w++[.tup [.int bb,.str m]])) s:=fun s=>Cq (by rw[aE,aE,hml,hml];show _+1<=1000000;omega)
   have ex:=gy (ir (F:=bO) (fo:=af 1) (fs:=ah (e2 e7 (e2 e7 (af 5) (af 4)) (fP (ah (fP (ah (e2 bH (kO (ah (eI 0) (ah (eI 2) (ah (eI 1) (ah (eI 3) aK))))) (af 2)) (ah (af 3) aK))) aK))) aK) (ρ:=[some (dC ps),some #[2],some (.int b),some (.str m),some (dC l.mir.po),some (dC r.mir.po)]) (st:=st++(.lst (za G)::y)) kv (isl _ _) (ak (a_ (a_ kv kv (ad1 _)) (dO (ak (dO (ak (ix _ rfl) kn) (ax rfl)) ba) (ax rfl)) (ad2 _)) ba) ap)
   show FB (I (i+1)) _
   rw[ex,hI]
   exact⟨_,_,rfl,_,S2,_,_,_,_,_,rfl,rfl,hFO2,g2,by omega⟩
  refine aF (a9 (dO ba (ax rfl))) (aF (a9 (dO ba (ax rfl))) ?_)
  cases hs with
  |z=>
   exact aQ (aR (a_ kv bd (gA #[1]))) (aU (aQ (aR (a_ (a_ kv bd (fj #[1])) bd (jh #[1]))) (aU (ie .nil .nil F 0 rfl rfl rfl (by rw[hF.s];rfl) hF x))))
  |@l a S0=>
   obtain⟨t,G,rfl,hG⟩:=yN hF
   have ht:=hF.nn t (bY ..)
   have ha:a=t.size:=by have:=hF.s;rw[aW]at this;injection this
   refine aQ (aR (a_ kv bd (gA #[1]))) (aU (bD (aR (a_ (a_ kv bd (fj #[1])) bd (jh #[1]))) (aF (a9 (ir kv (isl _ _) ba (pop t G x))) (ie t .nil G 2 (by rw[pb ht];rfl) (by rw[pb ht];rfl) rfl (by rw[ha,hG,aW,MT.size_nd];congr 1;show _=t.size+0+1;omega) (by show FO _ (t.cns1 G) _;rw[Ef ht];exact hF) x))))
  |@r a S0=>
   obtain⟨t,G,rfl,hG⟩:=yN hF
   have ht:=hF.nn t (bY ..)
   have ha:a=t.size:=by have:=hF.s;rw[aW]at this;injection this
   refine bD (aR (a_ kv bd (gA #[1]))) (aF (a9 (ir kv (isl _ _) ba (pop t G x))) (aQ (aR (a_ (a_ kv bd (fj #[1])) bd (jh #[1]))) (aU (ie .nil t G 1 (by rw[pb ht];rfl) (by rw[pb ht];rfl) rfl (by rw[ha,hG,aW,MT.size_nd];congr 1;show _=0+t.size+1;omega) (by show FO _ (t.cns1 G) _;rw[Ef ht];exact hF) x))))
  |@b c a S0=>
   obtain⟨t,G1,rfl,hG1⟩:=yN hF
   have ht:=hF.nn t (bY ..)
   have hc:c=t.size:=by have:=hF.s;rw[aW]at this;injection this
   cases G1 with
   |nil=>cases hG1
   |cons u G=>
    have hu:=hF.nn u (bi _ (bY ..))
    rw[aW]at hG1
    injection hG1 with ha hG
    refine bD (aR (a_ kv bd (gA #[1]))) (aF (a9 (ir kv (isl _ _) ba (pop t (u::G) x))) (bD (aR (a_ (a_ kv bd (fj #[1])) bd (jh #[1]))) (aF (a9 (ir kv (isl _ _) ba (pop u G x))) (ie u t G 3 (by rw[pb ht,pb hu]) (by rw[pb ht,pb hu]) rfl (by rw[ha,hG,hc,aW,MT.size_nd];congr 1;omega) (by show FO _ (t.cns1 (u.cns1 G)) _;rw[Ef hu,Ef ht];exact hF) x))))
 ·intro ρ bF hi
  rw[hI]at hi
  obtain⟨F,S1,o2,o3,o4,o5,x,rfl,rfl,hF,hg,_⟩:=hi
  rw[show(ps.map Pl.w,(none:Option (Nat×List W))).1.length=ps.length from az _]at hF hg
  rw[eN]at hF hg
  obtain rfl:=hg.det h rfl
  have hFl:F.length<=1:=by have:=hF.s;rw[this,az]at hS;exact hS
  have hc:∀A:List W,lstOf (st++(al.lst A::x)) st.length=some A:=fun A=>br (by rw[dA];rfl)
  match F,hFl,hF with
  |[],_,hF=>
   exact bD (aR (a_ (cg kn (jD (hc _))) bd (jh #[1]))) (be (dO ba (ax rfl)) ⟨_,_,rfl,⟨_,rfl⟩,rfl,.nil,hF.ps,rfl⟩)
  |[t],_,hF=>
   exact aQ (aR (a_ (cg kn (jD (hc _))) bd (jh rfl))) (aU (bI (a_ kv bd (gW (hc _) rfl)) ⟨_,_,rfl,⟨_,rfl⟩,(by show((dC t.mir.po).und st.length&&true)=true;rw[CI];rfl),t,hF.ps,rfl⟩))
  |_::_::_,hh,_=>simp at hh
end
def nms:Stm->List Nat
 |.one a=>eZ [a]
 |.two _ a b=>eZ [a,b]
 |.neg s=>nms s
 |.bnd _ a s=>(nms s).filter fun d=>d != a
 |.jn _ s t=>eZ (nms s++nms t)
theorem CV:∀s:Stm,(nms s).Pairwise (· < ·)
 |.one _=>jW _
 |.two _ _ _=>jW _
 |.neg s=>CV s
 |.bnd _ _ s=>(CV s).sublist List.filter_sublist
 |.jn _ _ _=>jW _
theorem qU:∀s:Stm,s.ok->∀c∈nms s,c∈LL
 |.one a,h,c,hc=>by
  have:=e5.mp hc
  simp at this;subst this;exact h
 |.two k a b,h,c,hc=>by
  have:=e5.mp hc
  simp only[a7,fE,mP]at this
  rcases this with rfl|rfl
  ·exact h.2.1
  ·exact h.2.2
 |.neg s,h,c,hc=>qU s h c hc
 |.bnd k a s,h,c,hc=>qU s h.2.2 c ((dk.mp hc).1)
 |.jn k s t,h,c,hc=>by
  rcases bg.mp (e5.mp hc)with q|q
  ·exact qU s h.2.1 c q
  ·exact qU t h.2.2 c q
theorem yO(s:Stm)(h:s.ok):(nms s).length<=52:=gZ ((CV s).imp fun h=>aY h) (qU s h)
theorem Vq(x y:W)(ws:List W)(st:List al):bH (.tup (x::y::ws)) (.int 1) st=.ok y st:=tW (fK (q:=1) rfl)
theorem V2(x y z:W)(ws:List W)(st:List al):bH (.tup (x::y::z::ws)) (.int 2) st=.ok z st:=tW (fK (q:=2) rfl)
theorem lT{fe:FE}{w:W}(h:fe ρ st=.ok w st)(hw:rQ w=some l)(hl:l.length<4000)(hL:∀c∈l,c∈LL) :
  BA kj (eC (.str [])) (ah (iD fe) aK) ρ st=.ok (.str (eZ l)) (st++[.lst (dG (eZ l))]):=by
 have hs:(eZ l).length<64:=by
  have:(eZ l).length<=LL.length:=gZ ((jW l).imp fun h=>aY h) fun c hc=>hL c (e5.mp hc)
  have e:LL.length=52:=by decide
  omega
 have e1:iD fe ρ st=.ok #[2] (st++[.lst (dG (eZ l))]):=by
  unfold iD
  rw[h]
  simp only[R.bind_ok,hw,dY]
  rw[aC ⟨hl,hs⟩]
 have hj:=vo (sep:=[]) (ls:=(eZ l).map fun c=>[c]) (st:=st++[.lst (dG (eZ l))]) (n:=st.length) (br (by rw[bP];unfold dG;rw[bp];rfl)) (by
  rw[mG];show _<=1000000;simp;omega)
 rw[pW]at hj
 exact zX bd rfl (ak e1 ba) hj
theorem mJ:∀(s:Stm),s.ok->∀k,s.dp<=k->∀st,mF k [s.w] st=.ok (.str (nms s)) st
 |.one a,h,k+1,hk,st=>by
  refine e_ (N:=1) (ws:=[(Stm.one a).w]) (body:=xf (mF k)) ?_ rfl
  simp only[Stm.w]
  have hj:=lT (fe:=Fz (af 0) (nK (eI 1)) oG) (ρ:=[some (Stm.one a).w]) (st:=st) (w:=.tup [.str [a]]) (l:=[a]) rfl rfl #[18] (fun c hc=>by simp at hc;subst hc;exact h)
  (walk_at "go")
  exact bI hj ⟨_,_,rfl,rfl,_,rfl⟩
 |.two k a b,h,n+1,hk,st=>by
  refine e_ (N:=1) (ws:=[(Stm.two k a b).w]) (body:=xf (mF n)) ?_ rfl
  have:=h.1;simp at this
  have hj:=lT (fe:=Fz (af 0) (nK (eI 1)) oG) (ρ:=[some (Stm.two k a b).w]) (st:=st) (w:=.tup [.str [a],.str [b]]) (l:=[a,b]) rfl rfl #[18] (fun c hc=>by simp at hc;rcases hc with rfl|rfl;exact h.2.1;exact h.2.2)
  simp only[Stm.w]at hj ⊢
  rcases this with rfl|rfl|rfl|rfl<;>(walk_at "go")<;>exact bI hj ⟨_,_,rfl,rfl,_,rfl⟩
 |.neg s,h,n+1,hk,st=>by
  simp only[Stm.dp]at hk
  have ih:=mJ s h n #[0] st
  refine e_ (N:=1) (ws:=[(Stm.neg s).w]) (body:=xf (mF n)) ?_ rfl
  simp only[Stm.w]
  apply bD
  ·(walk_at "tst")
  exact be (bc (ak (a_ kv bd (Vq _ _ _ st)) ba) ih rfl) ⟨_,_,rfl,rfl,[],by simp⟩
 |.bnd k a s,h,n+1,hk,st=>by
  simp only[Stm.dp]at hk
  have ih:=mJ s h.2.2 n #[0] st
  have hl:=yO s h.2.2
  refine e_ (N:=1) (ws:=[(Stm.bnd k a s).w]) (body:=xf (mF n)) ?_ rfl
  have:=h.1;simp at this
  have hc:=yp (cap:=[none,some 0]) (f:=g8 0) (t:=da (e2 B8 (af 0) (e2 bH (af 1) (eI 1)))) (el:=af 0) (ρ:=[some (Stm.bnd k a s).w]) (st:=st) (st1:=st) (ws:=dG (nms s)) (ck:=none)
   (fun w=>match w with|.str [c]=>c != a|_=>false) (fun w=>w)
   (uD (fe:=bS 1 (mF n) (ah #[20] aK)) (bc (ak (a_ kv bd (V2 _ _ _ _ st)) ba) ih rfl)) (by rw[pS];show _<=1000000;omega) trivial fun w hw=>by
    obtain⟨c,_,rfl⟩:=b8.mp hw
    refine⟨_,rfl,aR (a_ kv (a_ kv bd (Vq _ _ _ st)) ?_),fun _=>dB rfl⟩
    show R.ok (W.bl (!([c]==[a]))) st=.ok (.bl (c != a)) st
    congr 2
    rw[cF];simp
  have ef:(dG (nms s)).filter (fun w=>match w with|.str [c]=>c != a|_=>false)=dG ((nms s).filter fun d=>d != a):=by
   unfold dG;rw[nZ];rfl
  rw[sE,ef]at hc
  have hj:=vo (sep:=[]) (ls:=((nms s).filter fun d=>d != a).map fun c=>[c]) (st:=st++[.lst (dG ((nms s).filter fun d=>d != a))]) (n:=st.length) (br (by rw[bP];unfold dG;rw[bp];rfl)) (by
   rw[mG]
   have:=cI (fun d=>d != a) (nms s)
   show _<=1000000;simp;omega)
  rw[pW]at hj
  have hf:=zX (fo:=eC (.str [])) (ρ:=[some (Stm.bnd k a s).w]) bd rfl (ak hc ba) hj
  simp only[Stm.w]at hf ⊢
  rcases this with rfl|rfl<;>(walk_at "go")<;>exact be hf ⟨_,_,rfl,rfl,_,rfl⟩
 |.jn k s t,h,n+1,hk,st=>by
  simp only[Stm.dp]at hk
  have p1:=s.dp_pos
  have p2:=t.dp_pos
  have ih:=mJ s h.2.1 n #[0] st
  have ih2:=mJ t h.2.2 n #[0] st
  have hl:=yO s h.2.1
  have Kf:=yO t h.2.2
  refine e_ (N:=1) (ws:=[(Stm.jn k s t).w]) (body:=xf (mF n)) ?_ rfl
  have:=h.1;simp at this
  have hj:=lT (fe:=e2 e7 (bS 1 (mF n) (ah #[15] aK)) (bS 1 (mF n) (ah #[20] aK))) (ρ:=[some (Stm.jn k s t).w]) (st:=st) (w:=.str (nms s++nms t)) (l:=nms s++nms t)
   (a_ (bc (ak (a_ kv bd (Vq _ _ _ st)) ba) ih rfl) (bc (ak (a_ kv bd (V2 _ _ _ _ st)) ba) ih2 rfl) (vn (by show _<=1000000;omega))) rfl (by rw[aE];omega) (fun c hc=>(bg.mp hc).elim (qU s h.2.1 c) (qU t h.2.2 c))
  simp only[Stm.w]at hj ⊢
  rcases this with rfl|rfl<;>(walk_at "go")<;>exact be hj ⟨_,_,rfl,rfl,_,rfl⟩
 |s,_,0,hk,_=>absurd hk (by have:=s.dp_pos;omega)
theorem vK:∀s:Stm,c∈nms s↔Fr c s
 |.one a=>by unfold nms Fr;rw[e5];simp
 |.two k a b=>by unfold nms Fr;rw[e5];simp
 |.neg s=>vK s
 |.bnd k a s=>by unfold nms Fr;rw[dk,vK s];simp[and_comm]
 |.jn k s t=>by unfold nms Fr;rw[e5,bg,vK s,vK t]
def rb(g h c:Nat):Nat:=if c<=90 then 65+(c-65+g)%26 else 97+(c-97+h)%26
theorem qV:c∈LL↔(65<=c/\c<=90)\/(97<=c/\c<=122):=by
 have k1:∀c∈LL,(65<=c/\c<=90)\/(97<=c/\c<=122):=by decide
 have k2:∀c,c<123->(65<=c/\c<=90)\/(97<=c/\c<=122)->c∈LL:=by decide
 exact⟨k1 c,fun h=>k2 c #[0] h⟩
theorem Js:c∈UC↔65<=c/\c<=90:=by
 have k1:∀c∈UC,65<=c/\c<=90:=by decide
 have k2:∀c,c<91->65<=c/\c<=90->c∈UC:=by decide
 exact⟨k1 c,fun h=>k2 c #[0] h⟩
theorem yP:c∈LC↔97<=c/\c<=122:=by
 have k1:∀c∈LC,97<=c/\c<=122:=by decide
 have k2:∀c,c<123->97<=c/\c<=122->c∈LC:=by decide
 exact⟨k1 c,fun h=>k2 c #[0] h⟩
theorem xw(g h:Nat):Rn (rb g h) where
 ll:=fun c hc=>by
  have hc:=qV.mp hc
  rw[qV];unfold rb;split<;>omega
 inj:=fun c hc d hd e=>by
  have hc:=qV.mp hc
  have hd:=qV.mp hd
  unfold rb at e
  split at e<;>split at e<;>omega
 sm:=fun c hc=>by
  have hc:=qV.mp hc
  rw[yP,yP];unfold rb;split<;>omega
theorem Vr(hc:c∈LL):rb 0 0 c=c:=by
 have hc:=qV.mp hc
 unfold rb;split<;>omega
theorem Qj:∀c∈UC,G0 UC c=((c-65:Nat):Int):=by decide +kernel
theorem Ql:∀c∈LC,G0 LC c=((c-97:Nat):Int):=by decide +kernel
theorem Vs:∀k,k<26->UC[k]?=some (65+k):=by decide
theorem Vt:∀k,k<26->LC[k]?=some (97+k):=by decide
abbrev FD(g h:Nat):W:=.tup [.int (g:Nat),.int (h:Nat)]
theorem xy(hc:c∈LL)(g h:Nat)(st:List al):qr [.str [c],FD g h] st=.ok (.str [rb g h c]) st:=by
 refine bX (N:=4) (body:=Nf) ?_
 by_cases hu:c∈UC
 ·have hin:mR false (.str [c]) (.str UC) st=.ok (.bl true) st:=by rw[vz,aN hu]
  have hf:vh (.str UC) [.str [c]] st=.ok (.int ((c-65:Nat):Int)) st:=by rw[<- Qj c hu];rfl
  have hx:bH (.str UC) (.int ((((c-65:Nat):Int)+(g:Int))%26)) st=.ok (.str [rb g h c]) st:=by
   have e:(((c-65:Nat):Int)+(g:Int))%26=(((c-65+g)%26:Nat):Int):=by omega
   rw[e]
   have hc2:=Js.mp hu
   unfold rb;rw[aC hc2.2]
   exact rY #[1] (fK (Vs _ (nC _ #[1])))
  exact aF (a9 bd) (bD (aR (a_ kv kv hin)) (be (a_ kv (a_ (a_ (zX kv rfl kn hf) kx gz) bd (fj #[1])) hx) ⟨_,_,rfl,rfl,rfl⟩))
 ·have hl:c∈LC:=by
   have h1:=qV.mp hc
   rw[Js]at hu;rw[yP];omega
  have hin:mR false (.str [c]) (.str UC) st=.ok (.bl false) st:=by rw[vz,aI hu]
  have hf:vh (.str LC) [.str [c]] st=.ok (.int ((c-97:Nat):Int)) st:=by rw[<- Ql c hl];rfl
  have hx:bH (.str LC) (.int ((((c-97:Nat):Int)+(h:Int))%26)) st=.ok (.str [rb g h c]) st:=by
   have e:(((c-97:Nat):Int)+(h:Int))%26=(((c-97+h)%26:Nat):Int):=by omega
   rw[e]
   have hc2:=yP.mp hl
   unfold rb;rw[aJ #[0]]
   exact rY #[1] (fK (Vt _ (nC _ #[1])))
  exact aF (a9 bd) (aQ (aR (a_ kv kv hin)) (aU (aF (a9 bd) (bI (a_ kv (a_ (a_ (zX kv rfl kn hf) kx gz) bd (fj #[1])) hx) ⟨_,_,rfl,rfl,rfl⟩))))
abbrev Wt(F:List W->List al->R W):FS:=(fD (da (rR "tuple" (af 4))) (eO (lJ bO (af 3) (ah (bS 3 F (ah (af 4) (ah (af 1) (ah (af 2) aK)))) aK))) (fD (da (e2 fQ (cr eW (ah (af 4) aK)) (eI 1))) (eO (lJ bO (af 3) (ah (bS 2 qr (ah (af 4) #[16])) aK))) (fD (bnd (da (af 2)) (da (e2 fQ (af 4) (eC (.str [108,101,102,116]))))) (eO (lJ bO (af 3) (ah (eC (.str [114,105,103,104,116])) aK))) (fD (bnd (da (af 2)) (da (e2 fQ (af 4) (eC (.str [114,105,103,104,116]))))) (eO (lJ bO (af 3) (ah (eC (.str [108,101,102,116])) aK))) (eO (lJ bO (af 3) (ah (af 4) aK)))))))
def Uv(F:List W->List al->R W)(g h:Nat)(m:Bool)(st:List al)(w y:W):Prop:=∀(gg:List W) (a0:Option W),gg.length<1000->Wt F [a0,some (FD g h),some (.bl m),some #[2],some w] (st++[.lst gg])=.nx [a0,some (FD g h),some (.bl m),some #[2],some w] (st++[.lst (gg++[y])])
section
variable{g h:Nat}{m:Bool}
theorem pX{gg:List W}(ha:gg.length<1000)(y:W):bO #[2] [y] (st++[.lst gg])=.ok .non (st++[.lst (gg++[y])]):=by
 rw[jY bP (show gg.length<1000000 by omega),dN];rfl
theorem uI(hc:c∈LL):Uv F g h m st (.str [c]) (.str [rb g h c]):=fun gg a0 ha=>by
 have e:=xy hc g h (st++[.lst gg])
 exact fz (aR (wV kv rfl rfl)) (gc (aR (a_ (cg kn (sU (ax rfl))) bd (jh rfl))) (gy (ir kv (dR bP) (ak (bc (ak kv kn) e rfl) ba) (pX ha _))))
theorem uJ{s:Stm}{y:W}(hF:∀s',F [s.w,FD g h,.bl m] s'=.ok y s'):Uv F g h m st s.w y:=fun gg a0 ha=>by
 have hT:s.w.ty=some "tuple":=by cases s<;>rfl
 exact gc (aR (wV kv hT rfl)) (gy (ir kv (dR bP) (ak (bc (ak kv (ak kv kn)) (hF _) rfl) ba) (pX ha _)))
theorem vL{k:List Nat}(h1:k.length≠1)(h2:k.length<=100):Uv F g h m st (.str k) (.str (FC m k)):=fun gg a0 ha=>by
 refine fz (aR (wV kv rfl rfl)) (fz (aR (a_ (cg kn (sU (show k.length<=1000000 by omega))) bd (jh (bz.mpr #[0])))) ?_)
 cases m with
 |false=>exact fz (jO (aR kv)) (fz (jO (aR kv)) (gy (ir kv (dR bP) kn (pX ha _))))
 |true=>
  by_cases e1:k=[108,101,102,116]
  ·subst e1
   exact gc (fy (aR kv) (aR (a_ kv bd (qk rfl)))) (gy (ir kv (dR bP) (ak bd ba) (pX ha _)))
  ·by_cases e2:k=[114,105,103,104,116]
   ·subst e2
    exact fz (fy (aR kv) (aR (a_ kv bd (qk rfl)))) (gc (fy (aR kv) (aR (a_ kv bd (qk rfl)))) (gy (ir kv (dR bP) (ak bd ba) (pX ha _))))
   ·have es:FC true k=k:=by unfold FC;rw[aC rfl,aJ e1,aJ e2]
    rw[es]
    exact fz (fy (aR kv) (aR (a_ kv bd (qk (bz.mpr e1))))) (fz (fy (aR kv) (aR (a_ kv bd (qk (bz.mpr e2))))) (gy (ir kv (dR bP) kn (pX ha _))))
theorem sh{k:Nat}{ys:List W}(hl:ws.length=ys.length)(Kf:ys.length<1000)(hu:undWs st.length [.tup ys]=true)(hs:∀(i:Nat) (w y:W),ws[i]?=some w->ys[i]?=some y->Uv (lQ k) g h m st w y):lQ (k+1) [.tup ws,FD g h,.bl m] st=.ok (.tup ys) st:=by
 refine e_ (N:=5) (ws:=[.tup ws,FD g h,.bl m]) (body:=Ng (lQ k)) ?_ hu
 refine aF (a9 (oN ba #[1])) ?_
 refine fA (fun i ρ bF=>∃o,ρ=[some (.tup ws),some (FD g h),some (.bl m),some #[2],o]/\bF=st++[.lst (ys.take i)]) (k:=(ws,none)) (kA kv) ⟨none,rfl,rfl⟩ (fun _ _ _ _=>trivial) ?_ ?_
 ·rintro i w ρ bF hw ⟨o,rfl,rfl⟩
  have hi:i<ys.length:=by rw[<- hl];exact(aj.mp hw).1
  obtain⟨y,hy⟩:∃y,ys[i]?=some y:=⟨_,aq hi⟩
  refine⟨_,rfl,?_⟩
  refine db (hs i w y hw hy (ys.take i) _ (by rw[bE];omega)) ⟨_,_,rfl,_,rfl,?_⟩
  rw[h9,hy];rfl
 ·rintro ρ bF ⟨o,rfl,rfl⟩
  rw[show((ws,(none:Option (Nat×List W))).1.length)=ys.length from hl,eN]
  exact bI (cg kn (qP (br bP))) ⟨_,_,rfl,rfl,_,rfl⟩
end
theorem tf{k:List Nat}(h:k∈LD\/k∈PU\/k∈JN):k.length≠1/\k.length<=100:=by
 rcases h with h|h|h
 ·rcases i8 h with rfl|rfl|rfl|rfl<;>decide
 ·rcases il h with rfl|rfl<;>decide
 ·rcases kW h with rfl|rfl<;>decide
theorem Eg{m:Bool}{k:List Nat}(h:k∈PU\/k∈JN):FC m k=k:=by
 rcases h with h|h
 ·rcases il h with rfl|rfl<;>cases m<;>rfl
 ·rcases kW h with rfl|rfl<;>cases m<;>rfl
theorem si(s:Stm)(n:Nat){ys:List W}(h:s.w=.tup ys):undWs n [.tup ys]=true:=by
 rw[<- h];show(s.w.und n&&true)=true;rw[s.und];rfl
theorem kK(g h:Nat)(m:Bool):∀(s:Stm) (k:Nat),s.ok->s.dp<=k->∀st:List al,lQ k [s.w,FD g h,.bl m] st=.ok (mS (rb g h) m s).w st
 |s,0,_,hk,_=>absurd hk (by have:=s.dp_pos;omega)
 |.one a,k+1,hs,hk,st=>sh (ys:=[.str PR,.str [rb g h a]]) rfl (ax rfl) (si (mS (rb g h) m (.one a)) _ rfl) fun i w y hw hy=>by
   match i,hw,hy with
   |0,hw,hy=>cases hw;cases hy;have:=vL (F:=lQ k) (g:=g) (h:=h) (m:=m) (st:=st) (k:=PR) (by decide) (by decide);rwa[show FC m PR=PR by cases m<;>rfl]at this
   |1,hw,hy=>cases hw;cases hy;exact uI hs
   |i+2,hw,_=>simp at hw
 |.two w2 a b,k+1,hs,hk,st=>sh (ys:=[.str (FC m w2),.str [rb g h a],.str [rb g h b]]) rfl (ax rfl) (si (mS (rb g h) m (.two w2 a b)) _ rfl) fun i w y hw hy=>by
   match i,hw,hy with
   |0,hw,hy=>cases hw;cases hy;exact vL (tf (.inl hs.1)).1 (tf (.inl hs.1)).2
   |1,hw,hy=>cases hw;cases hy;exact uI hs.2.1
   |2,hw,hy=>cases hw;cases hy;exact uI hs.2.2
   |i+3,hw,_=>simp at hw
 |.neg s,k+1,hs,hk,st=>sh (ys:=[.str Q2,(mS (rb g h) m s).w]) rfl (ax rfl) (si (mS (rb g h) m (.neg s)) _ rfl) fun i w y hw hy=>by
   have hk:s.dp+1<=k+1:=hk
   match i,hw,hy with
   |0,hw,hy=>cases hw;cases hy;have:=vL (F:=lQ k) (g:=g) (h:=h) (m:=m) (st:=st) (k:=Q2) (by decide) (by decide);rwa[show FC m Q2=Q2 by cases m<;>rfl]at this
   |1,hw,hy=>cases hw;cases hy;exact uJ fun s'=>kK g h m s k hs (by omega) s'
   |i+2,hw,_=>simp at hw
 |.bnd w2 a s,k+1,hs,hk,st=>sh (ys:=[.str w2,.str [rb g h a],(mS (rb g h) m s).w]) rfl (ax rfl) (si (mS (rb g h) m (.bnd w2 a s)) _ rfl) fun i w y hw hy=>by
   have hk:s.dp+1<=k+1:=hk
   match i,hw,hy with
   |0,hw,hy=>cases hw;cases hy;have:=vL (F:=lQ k) (g:=g) (h:=h) (m:=m) (st:=st) (tf (.inr (.inl hs.1))).1 (tf (.inr (.inl hs.1))).2;rwa[Eg (.inl hs.1)]at this
   |1,hw,hy=>cases hw;cases hy;exact uI hs.2.1
   |2,hw,hy=>cases hw;cases hy;exact uJ fun s'=>kK g h m s k hs.2.2 (by omega) s'
   |i+3,hw,_=>simp at hw
 |.jn w2 s t,k+1,hs,hk,st=>sh (ys:=[.str w2,(mS (rb g h) m s).w,(mS (rb g h) m t).w]) rfl (ax rfl) (si (mS (rb g h) m (.jn w2 s t)) _ rfl) fun i w y hw hy=>by
   have hk:s.dp+t.dp<=k+1:=hk
   have p1:=s.dp_pos
   have p2:=t.dp_pos
   match i,hw,hy with
   |0,hw,hy=>cases hw;cases hy;have:=vL (F:=lQ k) (g:=g) (h:=h) (m:=m) (st:=st) (tf (.inr (.inr hs.1))).1 (tf (.inr (.inr hs.1))).2;rwa[Eg (.inr hs.1)]at this
   |1,hw,hy=>cases hw;cases hy;exact uJ fun s'=>kK g h m s k hs.2.1 (by omega) s'
   |2,hw,hy=>cases hw;cases hy;exact uJ fun s'=>kK g h m t k hs.2.2 (by omega) s'
   |i+3,hw,_=>simp at hw
theorem Qm:mR true (.str [c]) (.str l) st=.ok (.bl (!decide (c∈l))) st:=rfl
def zb(nm:List Nat)(m0 m1:Nat)(d:Int)(l:List Nat):List Nat:=
 (l.filter (fun c=>decide (c∈nm))++if d%2=1/\m0∉nm then[m0]else[])++if d/2%2=1/\m1∉nm then[m1]else[]
theorem Eh{nm:List Nat}{m0 m1:Nat}{d:Int}(h:c∈zb nm m0 m1 d l):c∈l\/c=m0\/c=m1:=by
 unfold zb at h
 rcases bg.mp h with h|h
 ·rcases bg.mp h with h|h
  ·exact .inl (dk.mp h).1
  ·by_cases e:d%2=1/\m0∉nm
   ·rw[aC e]at h;exact .inr (.inl (aV.mp h))
   ·rw[aJ e]at h;cases h
 ·by_cases e:d/2%2=1/\m1∉nm
  ·rw[aC e]at h;exact .inr (.inr (aV.mp h))
  ·rw[aJ e]at h;cases h
theorem Qn{nm:List Nat}{m0 m1:Nat}{d:Int}(hc:c∈nm):c∈zb nm m0 m1 d l↔c∈l:=by
 constructor
 ·intro h
  unfold zb at h
  rcases bg.mp h with h|h
  ·rcases bg.mp h with h|h
   ·exact(dk.mp h).1
   ·by_cases e:d%2=1/\m0∉nm
    ·rw[aC e]at h;rw[aV.mp h]at hc;exact absurd hc e.2
    ·rw[aJ e]at h;cases h
  ·by_cases e:d/2%2=1/\m1∉nm
   ·rw[aC e]at h;rw[aV.mp h]at hc;exact absurd hc e.2
   ·rw[aJ e]at h;cases h
 ·intro h
  unfold zb
  exact cZ _ (cZ _ (dk.mpr ⟨h,aN hc⟩))
theorem L5{nm:List Nat}{m0 m1:Nat}{d:Int}{l:List Nat}:(zb nm m0 m1 d l).length<=l.length+2:=by
 have:=cI (fun c=>decide (c∈nm)) l
 unfold zb
 rw[aE,aE]
 have h1:(if d%2=1/\m0∉nm then[m0]else[]).length<=1:=by split<;>simp
 have h2:(if d/2%2=1/\m1∉nm then[m1]else[]).length<=1:=by split<;>simp
 omega
theorem Jt(h:∀c∈l,c∈LL):(eZ l).length<=52:=gZ ((jW l).imp fun h=>aY h) fun c hc=>h c (e5.mp hc)
def Rm(ps:List Pl)(F:Nat->List Nat->List Nat):List Pl:=(List.range ps.length).map fun k=>⟨(ps.getD k ⟨0,[]⟩).b,F k (ps.getD k ⟨0,[]⟩).m⟩
theorem pc(ps:List Pl)(F:Nat->List Nat->List Nat):(Rm ps F).length=ps.length:=by unfold Rm;rw[az,cE]
theorem Ei{ps:List Pl}{F:Nat->List Nat->List Nat}{k:Nat}{p:Pl}(h:ps[k]?=some p):(Rm ps F)[k]?=some ⟨p.b,F k p.m⟩:=by
 have hk:k<ps.length:=(aj.mp h).1
 unfold Rm
 rw[aG,cU hk,n4,aT,h,Option.getD_some]
theorem TR(ps:List Pl)(F:Nat->List Nat->List Nat):(Rm ps F).map Pl.b=ps.map Pl.b:=by
 refine d6 fun j=>?_
 rw[aG,aG]
 cases hp:ps[j]? with
 |none=>rw[bq (by rw[pc];exact iq.mp hp)]
 |some p=>rw[Ei hp];rfl
theorem Ej{ps:List Pl}{F:Nat->List Nat->List Nat}{k:Nat}{p:Pl}(h:ps[k]?=some p):((Rm ps F).take (k+1)).map Pl.w=((Rm ps F).take k).map Pl.w++[.tup [.int p.b,.str (F k p.m)]]:=by
 rw[h9,Ei h,b7];rfl
theorem Nu{ps:List Pl}{F:Nat->List Nat->List Nat}(h:∀k p,ps[k]?=some p->(F k p.m).length<=60/\∀d∈F k p.m,d∈LL):CQ (Rm ps F):=fun q hq=>by
 obtain⟨k,hk⟩:=eX hq
 have hl:k<ps.length:=by have:=(aj.mp hk).1;rwa[pc]at this
 have hp:=aq hl
 rw[Ei hp]at hk
 cases hk
 exact h k _ hp
theorem Nv{ps:List Pl}{F:Nat->List Nat->List Nat}{d:Nat}(h:∀k p,ps[k]?=some p->(d∈F k p.m↔c∈p.m))(hj:j<ps.length):AP ps c j=AP (Rm ps F) d j:=by
 have hp:=aq hj
 rw[xk hp,xk (Ei hp),jI]
 exact(h j _ hp).symm
abbrev Wu(q:FE)(m:FE):FS:=fD (bnd (da (e2 fQ (e2 iC q (eI 2)) (eI 1))) (da (e2 (mR true) m (af 1)))) (b6 6 (e2 e7 (af 6) m)) b_
theorem Ju{q m:FE}{d:Int}{nm:List Nat}(h6:ρ[6]?=some (some (.str l)))(h1:ρ[1]?=some (some (.str nm)))(hm:∀s,m ρ s=.ok (.str [c]) s)(hq:q ρ st=.ok (.int d) st)(hl:l.length<=1000) :
  Wu q m ρ st=.nx (ρ.set 6 (some (.str (l++if d%2=1/\c∉nm then[c]else[])))) st:=by
 have hi:6<ρ.length:=(aj.mp h6).1
 have same:ρ.set 6 (some (.str (l++[])))=ρ:=by
  rw[cC]
  refine d6 fun j=>?_
  rw[List.getElem?_set]
  by_cases e:6=j
  ·subst e;rw[aC rfl,aC hi,h6]
  ·rw[aJ e]
 by_cases e1:d%2=1
 ·have t1:da (e2 fQ (e2 iC q (eI 2)) (eI 1)) ρ st=.ok true st:=aR (a_ (a_ hq bd (fj #[1])) bd (jh (dL.mpr e1)))
  have t2:da (e2 (mR true) m (af 1)) ρ st=.ok (!decide (c∈nm)) st:=aR (a_ (hm st) (dB h1) Qm)
  by_cases e2':c∈nm
  ·rw[aN e2']at t2
   rw[aJ (fun z=>z.2 e2'),same]
   exact fz (fy t1 t2) ng
  ·rw[aI e2']at t2
   rw[aC ⟨e1,e2'⟩]
   exact gc (fy t1 t2) (a9 (a_ (dB h6) (hm st) (vn (by show _+1<=1000000;omega))))
 ·have t1:da (e2 fQ (e2 iC q (eI 2)) (eI 1)) ρ st=.ok false st:=aR (a_ (a_ hq bd (fj #[1])) bd (jh (bz.mpr e1)))
  rw[aJ (fun z=>e1 z.1),same]
  exact fz (jO t1) ng
theorem Jv{ps:List Pl}{nm:List Nat}{m0 m1 nd:Nat}(hn:ps.length<=100)(hG:CQ ps)(h0:m0∈LL)(h1:m1∈LL)(hd:st[nd]?=some (.lst (on ds)))(Uw:ds.length=ps.length) :
  Au [dC ps,.str nm,.str [m0,m1],.loc nd] st=.ok (dC (Rm ps fun k l=>eZ (zb nm m0 m1 (ds.getD k 0) l))) st:=by
 obtain⟨F,hF⟩:∃F:Nat->List Nat->List Nat,F=fun k l=>eZ (zb nm m0 m1 (ds.getD k 0) l):=⟨_,rfl⟩
 rw[<- hF]
 have hu:∀(qs:List Pl) (n:Nat),undWs n [dC qs]=true:=fun qs n=>by
  unfold dC
  show(undWs n (qs.map Pl.w)&&true)=true
  rw[iL]
  induction qs with
  |nil=>rfl
  |cons q r ih=>show((Pl.w q).und n&&undWs n (r.map Pl.w))=true;rw[ih];rfl
 refine e_ (N:=7) (ws:=[dC ps,.str nm,.str [m0,m1],.loc nd]) (body:=Nh) ?_ (hu _ _)
 refine aF (a9 (oN ba #[1])) ?_
 refine fA (fun i ρ s=>∃(o5 o6:Option W) (x:List al),ρ=[some (dC ps),some (.str nm),some (.str [m0,m1]),some (.loc nd),some #[2],o5,o6]/\s=st++(.lst (((Rm ps F).take i).map Pl.w)::x))
  (gX (q:=(ps.length:Int)) (st1:=st++[.lst []]) (ak (cg kn (kS ps _)) ba) #[0]) ⟨none,none,[],rfl,rfl⟩ (fun _ _ _ _=>trivial) ?_ ?_
 ·rintro i w ρ s hw ⟨o5,o6,x,rfl,rfl⟩
  obtain⟨hi,rfl⟩:=ik hw
  rw[bu]at hi
  obtain⟨p,hp⟩:∃p,ps[i]?=some p:=⟨_,aq hi⟩
  obtain⟨g1,g2⟩:=hG p (bC hp)
  rw[d7]
  refine⟨_,rfl,?_⟩
  have it:∀s:List al,bH (dC ps) (.int (i:Int)) s=.ok p.w s:=fun s=>DS hp s
  obtain⟨s1,hs1⟩:∃s1,s1=st++(al.lst (((Rm ps F).take i).map Pl.w)::x):=⟨_,rfl⟩
  have hdi:∀y:List al,bH (.loc nd) (.int (i:Int)) (s1++y)=.ok (.int (ds.getD i 0)) (s1++y):=fun y=>by
   refine gW (br (by rw[hs1];exact cH (cH hd))) (fK ?_)
   unfold on
   rw[aG,jZ 0 #[0]];rfl
  obtain⟨d,hdd⟩:∃d,d=ds.getD i 0:=⟨_,rfl⟩
  rw[<- hdd]at hdi
  rw[<- hs1]
  have hc:=yp (cap:=[none,some 1]) (fi:=dz (e2 bH (e2 bH (af 0) (af 5)) (eI 1))) (f:=g8 0) (t:=da (e2 (mR false) (af 0) (af 1))) (el:=af 0) (ρ:=[some (dC ps),some (.str nm),some (.str [m0,m1]),some (.loc nd),some #[2],some (.int (i:Int)),o6]) (st:=s1) (st1:=s1) (ws:=dG p.m) (ck:=none)
   (fun w=>match w with|.str [c]=>decide (c∈nm)|_=>false) (fun w=>w)
   (uD (a_ (a_ kv kv (it _)) bd rfl)) (by rw[pS];show _<=1000000;omega) trivial fun w hw=>by
    obtain⟨c,_,rfl⟩:=b8.mp hw
    exact⟨_,rfl,aR (a_ kv kv vz),fun _=>dB rfl⟩
  have ef:(dG p.m).filter (fun w=>match w with|.str [c]=>decide (c∈nm)|_=>false)=dG (p.m.filter fun c=>decide (c∈nm)):=by
   unfold dG;rw[nZ];rfl
  rw[sE,ef]at hc
  have hfl:=cI (fun c=>decide (c∈nm)) p.m
  have hj:=vo (sep:=[]) (ls:=(p.m.filter fun c=>decide (c∈nm)).map fun c=>[c]) (st:=s1++[.lst (dG (p.m.filter fun c=>decide (c∈nm)))]) (n:=s1.length) (br (by rw[bP];unfold dG;rw[bp];rfl)) (by
   rw[mG];show _<=1000000;simp only[gY,Nat.mul_zero];omega)
  rw[pW]at hj
  refine aF (a9 (zX bd rfl (ak hc ba) hj)) ?_
  obtain⟨y,hy⟩:∃y,y=[al.lst (dG (p.m.filter fun c=>decide (c∈nm)))]:=⟨_,rfl⟩
  rw[<- hy]
  have b1:=Ju (q:=e2 bH (af 3) (af 5)) (m:=e2 bH (af 2) (eI 0)) (d:=d) (c:=m0) (nm:=nm) (l:=p.m.filter fun c=>decide (c∈nm)) (ρ:=[some (dC ps),some (.str nm),some (.str [m0,m1]),some (.loc nd),some #[2],some (.int (i:Int)),some (.str (p.m.filter fun c=>decide (c∈nm)))]) (st:=s1++y) rfl rfl (fun s=>a_ kv bd (rY (ax rfl) (fK (q:=0) rfl))) (a_ kv kv (hdi y)) #[0]
  refine aF b1 ?_
  have hl1:(p.m.filter (fun c=>decide (c∈nm))++if d%2=1/\m0∉nm then[m0]else[]).length<=1000:=by
   rw[aE]
   have h1:(if d%2=1/\m0∉nm then[m0]else[]).length<=1:=by split<;>simp
   omega
  have b2:=Ju (q:=e2 mB (e2 bH (af 3) (af 5)) (eI 2)) (m:=e2 bH (af 2) (eI 1)) (d:=d/2) (c:=m1) (nm:=nm) (l:=p.m.filter (fun c=>decide (c∈nm))++if d%2=1/\m0∉nm then[m0]else[]) (ρ:=[some (dC ps),some (.str nm),some (.str [m0,m1]),some (.loc nd),some #[2],some (.int (i:Int)),some (.str (p.m.filter (fun c=>decide (c∈nm))++if d%2=1/\m0∉nm then[m0]else[]))]) (st:=s1++y) rfl rfl (fun s=>a_ kv bd (rY (ax rfl) (fK (q:=1) rfl))) (a_ (a_ kv kv (hdi y)) bd (fj #[1])) hl1
  refine aF b2 ?_
  have hll:∀c∈zb nm m0 m1 d p.m,c∈LL:=fun c hc=>by
   rcases Eh hc with z|rfl|rfl
   ·exact g2 c z
   ·exact h0
   ·exact h1
  have jo:=lT (fe:=af 6) (ρ:=[some (dC ps),some (.str nm),some (.str [m0,m1]),some (.loc nd),some #[2],some (.int (i:Int)),some (.str (zb nm m0 m1 d p.m))]) (st:=s1++y) kv rfl (by have:=@L5 nm m0 m1 d p.m;omega) hll
  obtain⟨z,hz⟩:∃z,z=[al.lst (dG (eZ (zb nm m0 m1 d p.m)))]:=⟨_,rfl⟩
  rw[<- hz]at jo
  have e3:s1++y++z=st++(al.lst (((Rm ps F).take i).map Pl.w)::(x++y++z)):=by rw[hs1];simp
  have cl:(s1++y++z)[st.length]?=some (.lst (((Rm ps F).take i).map Pl.w)):=by rw[e3,dA];rfl
  have cl0:(s1++y)[st.length]?=some (.lst (((Rm ps F).take i).map Pl.w)):=by rw[hs1,aM,dA];rfl
  have ap:=jY (y:=.tup [.int p.b,.str (eZ (zb nm m0 m1 d p.m))]) cl (by rw[az,bE];show _<1000000;omega)
  refine db (gy (ir kv (dR cl0) (ak (dO (ak (a_ (a_ kv kv (it _)) bd rfl) (ak jo ba)) (ax rfl)) ba) ap)) ⟨_,_,rfl,_,_,x++y++z,rfl,?_⟩
  rw[e3,dN,Ej hp]
  show _=st++(al.lst (_++[W.tup [.int p.b,.str (F i p.m)]])::_)
  rw[show F i p.m=eZ (zb nm m0 m1 d p.m) by rw[hF,hdd]]
  rfl
 ·rintro ρ s ⟨o5,o6,x,rfl,rfl⟩
  rw[fJ,bu,show ps.length=(Rm ps F).length from(pc ps F).symm,eN]
  exact bI (cg kn (qP (br (by rw[dA];rfl)))) ⟨_,_,rfl,rfl,_,rfl⟩
theorem TU{g h:Nat}{l:List Nat}(hρ:ρ[14]?=some (some (.str l)))(hc:va [none,some 11] ρ=[none,some (FD g h)])(hl:l.length<=60)(hL:∀c∈l,c∈LL) :
  ∃y,BA kj (eC (.str [])) (ah (cr oM (ah (gj [none,some 11] (dz (af 14)) (g8 0) m9 (bS 2 qr (ah (af 0) #[16]))) aK)) aK) ρ st=.ok (.str (DV (l.map (rb g h)))) (st++y):=by
 have ec:=lR (fi:=dz (af 14)) (f:=g8 0) (el:=bS 2 qr (ah (af 0) #[16])) (cap:=[none,some 11]) (ρ:=ρ) (st:=st) (st1:=st) (ck:=none) l (fun c=>W.str [c]) (fun c=>W.str [rb g h c]) (uD (dB hρ)) #[0] trivial fun c hc'=>by
  rw[hc]
  exact⟨_,rfl,bc (ak kv kn) (xy (hL c hc') g h st) rfl⟩
 have hj:=DY (l:=l.map (rb g h)) ec (br (by rw[bP,bp,bp];rfl)) (by rw[az];omega)
 exact⟨_,by rw[hj,aM]⟩
theorem L6{g h:Nat}(hL:∀c∈l,c∈LL)(hc:c∈LL):rb g h c∈DV (l.map (rb g h))↔c∈l:=by
 rw[(vy _).mem_iff,b8]
 constructor
 ·rintro⟨d,h1,h2⟩
  rw[<- (xw g h).inj d (hL d h1) c hc h2];exact h1
 ·intro z;exact⟨c,z,rfl⟩
theorem Jw(sz:List Nat)(lk:List #[3]):Np n false id id sz sz lk lk where
 fl:=fun j h=>h
 gl:=fun j h=>h
 gf:=fun j h=>rfl
 fg:=fun j h=>rfl
 x:=fun q j _ _=>nH
 y:=fun q j _ _=>nH
 u:=fun q j _ _=>nH
theorem AR:∀s:Stm,mS id false s=s
 |.one a=>rfl
 |.two k a b=>rfl
 |.neg s=>by simp only[mS,AR s]
 |.bnd k a s=>by simp only[mS,AR s,id]
 |.jn k s t=>by simp only[mS,AR s,AR t]
theorem yQ(n:Nat)(sz:List Nat)(lk:List #[3])(s:Stm)(A:Nat->Nat->Bool)(st:List al):jv 40 [BD n sz lk s A,BD n sz lk s A] st=.ok (.bl true) st:=by
 unfold BD
 by_cases h:4096<wy n s
 ·rw[aC h];exact Jm 38 st
 ·rw[aJ h];exact pV _ 39 st
theorem CW{n:Nat}{m:Bool}{f g:Nat->Nat}{sz uK:List Nat}{lk:List #[3]}(h:Np n m f g sz uK lk tj){r:Nat->Nat}(hr:Rn r){s:Stm}{A B:Nat->Nat->Bool}(hs:s.ok)(q5:∀c,Fr c s->∀j,j<n->A c j=B (r c) (f j)):BD n uK tj (mS r m s) B=BD n sz lk s A:=by
 unfold BD
 rw[AI hr m n hs,vJ h hr s A B hs q5]
theorem TV:Rn id:=⟨fun _ h=>h,fun _ _ _ _ h=>h,fun _ _=>nH⟩
abbrev L7:List Nat:=[97,108,108]
abbrev Q4:List Nat:=[115,111,109,101]
theorem Qo(n:Nat)(sz:List Nat)(lk:List #[3])(c:Nat)(s:Stm)(A:Nat->Nat->Bool):wy n (.bnd Q4 c (.neg s))=wy n (.bnd L7 c s)/\tv n sz lk (.bnd Q4 c (.neg s)) A=!tv n sz lk (.bnd L7 c s) A:=by
 refine⟨rfl,?_⟩
 show(if Q4=[115,111,109,101]then(kJ c n).any fun x=>!tv n sz lk s (eG A c x)else _)=!(if L7=[115,111,109,101]then _ else(kJ c n).all fun x=>tv n sz lk s (eG A c x))
 rw[aC rfl,aJ #[1],List.not_all_eq_any_not]
section
variable{ps:List Pl}{sz:List Nat}{lk:List #[3]}
theorem Fk(hg:Gr ps S sz lk)(hn:ps.length<=100)(hG:CQ ps){s:Stm}(hs:s.ok)(hd:s.dp<=15){m0 m1:Nat}(h0:m0∈LL)(h1:m1∈LL)(ds:List Int)(st:List al):kq [s.w,dC (Rm ps fun k l=>eZ (zb (nms s) m0 m1 (ds.getD k 0) l))] st=.ok (BD ps.length sz lk s (AP ps)) st:=by
 obtain⟨F,hF⟩:∃F:Nat->List Nat->List Nat,F=fun k l=>eZ (zb (nms s) m0 m1 (ds.getD k 0) l):=⟨_,rfl⟩
 rw[<- hF]
 have hgd:CQ (Rm ps F):=Nu fun k p hp=>by
  have hh:∀c∈zb (nms s) m0 m1 (ds.getD k 0) p.m,c∈LL:=fun c hc=>by
   rcases Eh hc with z|z|z
   ·exact(hG p (bC hp)).2 c z
   ·rw[z];exact h0
   ·rw[z];exact h1
  rw[hF]
  exact⟨aH (Jt hh) #[1],fun d hd=>hh d (e5.mp hd)⟩
 have ea:=s_ (hg.same (TR ps F)) (by rw[pc];exact hn) hgd hs #[0] st
 have e:=CW (n:=ps.length) (Jw sz lk) TV (s:=s) (A:=AP ps) (B:=AP (Rm ps F)) hs fun c hc j hj=>Nv (fun k p hp=>by
  rw[hF]
  exact e5.trans (Qn ((vK s).mpr hc))) hj
 rw[<- e,AR]
 rw[pc]at ea
 exact ea
theorem L8(hg:Gr ps S sz lk)(hn:ps.length<=100)(hG:CQ ps){s:Stm}(hs:s.ok)(hd:s.dp<=15)(g h:Nat)(st:List al):kq [(mS (rb g h) false s).w,dC (Rm ps fun _ l=>DV (l.map (rb g h)))] st=.ok (BD ps.length sz lk s (AP ps)) st:=by
 obtain⟨F,hF⟩:∃F:Nat->List Nat->List Nat,F=fun _ l=>DV (l.map (rb g h)):=⟨_,rfl⟩
 rw[<- hF]
 have hgd:CQ (Rm ps F):=Nu fun k p hp=>by
  obtain⟨g1,g2⟩:=hG p (bC hp)
  rw[hF]
  refine⟨by rw[DW,az];exact g1,fun d hd=>?_⟩
  obtain⟨c,hc,rfl⟩:=b8.mp ((vy _).mem_iff.mp hd)
  exact(xw g h).ll c (g2 c hc)
 have ea:=s_ (hg.same (TR ps F)) (by rw[pc];exact hn) hgd (s:=mS (rb g h) false s) (xq (xw g h) false hs) (by rw[xt];omega) st
 have e:=CW (n:=ps.length) (Jw sz lk) (xw g h) (s:=s) (A:=AP ps) (B:=AP (Rm ps F)) hs fun c hc j hj=>Nv (fun k p hp=>by
  rw[hF]
  exact L6 (hG p (bC hp)).2 (vH hs hc)) hj
 rw[pc]at ea
 rw[<- e];exact ea
theorem L9{t:MT}(hg:Gr t.po S sz lk)(hn:t.po.length<=100)(hG:CQ t.po){s:Stm}(hs:s.ok)(hd:s.dp<=15)(st:List al):kq [(mS (rb 0 0) true s).w,dC t.mir.po] st=.ok (BD t.po.length sz lk s (AP t.po)) st:=by
 obtain⟨rfl,rfl,rfl⟩:=hg.one t.gr0 rfl
 have hln:t.mir.po.length=t.po.length:=by rw[MT.po_len,MT.po_len,MT.mir_size]
 have hgd:CQ t.mir.po:=fun q hq=>by
  obtain⟨i,hi⟩:=eX hq
  have hil:i<t.size:=by have:=(aj.mp hi).1;rwa[hln,MT.po_len]at this
  have e:=t.iso.fg i hil
  have hj:=t.iso.gl i hil
  have hm:=t.po_mk _ hj
  rw[e]at hm
  obtain⟨p,hp⟩:∃p,t.po[t.mir.pi i]?=some p:=⟨_,aq (by rw[MT.po_len];exact hj)⟩
  have e1:uF t.mir.po i=q.m:=by unfold uF;rw[hi];rfl
  have e2:uF t.po (t.mir.pi i)=p.m:=by unfold uF;rw[hp];rfl
  rw[e1,e2]at hm
  rw[hm]
  exact hG p (bC hp)
 have ea:=s_ t.mir.gr0 (by rw[hln];exact hn) hgd (s:=mS (rb 0 0) true s) (xq (xw 0 0) true hs) (by rw[xt];omega) st
 have e:=CW t.iso (xw 0 0) (s:=s) (A:=AP t.po) (B:=AP t.mir.po) hs fun c hc j hj=>by
  rw[Vr (vH hs hc)]
  unfold AP
  rw[t.po_mk j hj]
 rw[hln,MT.po_len]at ea
 rw[MT.po_len,<- e];exact ea
end
theorem V3{l:List α}(h:l.length=6):∃a b c d e f,l=[a,b,c,d,e,f]:=by
 match l,h with
 |[a,b,c,d,e,f],_=>exact⟨_,_,_,_,_,_,rfl⟩
theorem law_ok:Mx f_q42:=by
 intro ns hn
 obtain⟨st,mT⟩:∃st,st=([al.ro (ns.map W.int)]:List al):=⟨_,rfl⟩
 have h0:st[0]?=some (.ro (ns.map W.int)):=by rw[mT];rfl
 rw[<- mT]
 refine⟨st,?_⟩
 refine e_ (N:=18) (body:=Ni) (ws:=[.loc 0]) ?_ rfl
 obtain⟨c0,ce0⟩:=r_ h0 0
 obtain⟨zs,hzl,hz0,ez⟩:=oX c0 100003 6 #[0] st
 have ez:lP [.int c0,.int 6,.int 100003] st=.ok #[2] (st++[.lst (on zs)]):=ez
 obtain⟨z0,z1,z2,z3,z4,z5,rfl⟩:=V3 hzl
 refine aF (a9 (bc (ak (bc (ak kv (ak bd ba)) ce0 rfl) (ak bd (ak bd ba))) ez rfl)) ?_
 obtain⟨zs,hzs⟩:∃zs,zs=[z0,z1,z2,z3,z4,z5]:=⟨_,rfl⟩
 have g1:(st++[al.lst (on zs)])[st.length]?=some (.lst (on zs)):=bP
 have g0:(st++[al.lst (on zs)])[0]?=some (.ro (ns.map W.int)):=cH h0
 obtain⟨s1,hs1⟩:∃s1,s1=st++[al.lst (on zs)]:=⟨_,rfl⟩
 rw[<- hzs,<- hs1]
 rw[<- hs1]at g1 g0
 obtain⟨c1,ce1⟩:=r_ g0 1
 obtain⟨pool,hp,j',ep⟩:=Lv c1 200017 6 #[0] s1
 have ep:xa [.int c1,.int 6,.int 200017] s1=.ok (.str pool) s1:=ep
 refine aF (a9 (bc (ak (bc (ak kv (ak bd ba)) ce1 rfl) (ak bd (ak bd ba))) ep rfl)) ?_
 obtain⟨p0,p1,p2,p3,p4,p5,rfl⟩:=V3 hp
 have sl4:∀s:List al,E0 (.str [p0,p1,p2,p3,p4,p5]) none (some 4) s=.ok (.str [p0,p1,p2,p3]) s:=fun s=>rfl
 have sl2:∀s:List al,E0 (.str [p0,p1,p2,p3,p4,p5]) none (some 2) s=.ok (.str [p0,p1]) s:=fun s=>rfl
 have sl5:∀s:List al,E0 (.str [p0,p1,p2,p3,p4,p5]) (some 4) none s=.ok (.str [p4,p5]) s:=fun s=>rfl
 have ixp:∀k:Nat,k<4->∃c,c∈LL/\∀s:List al,bH (.str [p0,p1,p2,p3,p4,p5]) (.int (k:Int)) s=.ok (.str [c]) s:=fun k hk=>by
  obtain⟨c,hc⟩:∃c,[p0,p1,p2,p3,p4,p5][k]?=some c:=⟨_,aq (by show k<6;omega)⟩
  exact⟨c,j' c (bC hc),fun s=>rY (ax rfl) (fK hc)⟩
 have hp4:∀c∈[p0,p1,p2,p3],c∈LL:=fun c hc=>j' c (by
  rw[show[p0,p1,p2,p3,p4,p5]=[p0,p1,p2,p3]++[p4,p5]from rfl];exact cZ _ hc)
 have l0:p0∈LL:=j' _ #[18]
 have l1:p1∈LL:=j' _ #[18]
 have l4:p4∈LL:=j' _ #[18]
 have l5:p5∈LL:=j' _ #[18]
 obtain⟨pool,hpo⟩:∃pool,pool=[p0,p1,p2,p3,p4,p5]:=⟨_,rfl⟩
 rw[<- hpo]at sl4 sl2 sl5 ixp ⊢
 clear hpo j' hp ep
 obtain⟨m0,hm0,em0⟩:=kB (q:=z0) (n:=6) #[0]
 have em0:z0%6=(m0:Int):=em0
 obtain⟨c2,ce2⟩:=r_ g0 2
 obtain⟨es,hel,_,ee⟩:=oX c2 300007 (2*(m0+1)) #[0] s1
 have ee:lP [.int c2,.int (2+2*(z0%6)),.int 300007] s1=.ok (.loc s1.length) (s1++[.lst (on es)]):=by rw[em0,show(2+2*(m0:Int))=((2*(m0+1):Nat):Int) by omega];exact ee
 obtain⟨s,hs,hsd,es'⟩:=LG (st:=s1++[.lst (on es)]) (d:=s1.length) (m:=m0+1) (pool:=[p0,p1,p2,p3]) bP hel #[0] #[0] (ax rfl) (ax rfl) hp4
 have zix:∀(i:Nat) (d:Int) (ρ:cv) (s:List al),ρ[1]?=some (some #[2])->s[st.length]?=some (.lst (on zs))->zs[i]?=some d->e2 bH (af 1) (eC (.int (i:Int))) ρ s=.ok (.int d) s:=fun i d ρ s a b c=>TF i a b c
 refine aF (a9 (bc (ak (bc (ak (bc (ak kv (ak bd ba)) ce2 rfl) (ak (a_ bd (a_ bd (a_ (zix 0 z0 _ _ rfl g1 (by rw[hzs];rfl)) bd (fj #[1])) (nh (.inl #[0]))) gz) (ak bd ba))) ee rfl) (ak (Ha kv rfl rfl (sl4 _)) ba)) es' rfl)) ?_
 have g1':=cH (x:=[al.lst (on es)]) g1
 have g0':=cH (x:=[al.lst (on es)]) g0
 obtain⟨s2,Bp⟩:∃s2,s2=s1++[al.lst (on es)]:=⟨_,rfl⟩
 rw[<- Bp]at g1' g0' ⊢
 obtain⟨m1,hm1,em1⟩:=kB (q:=z1) (n:=8) #[0]
 have em1:z1%8=(m1:Int):=em1
 refine aF (a9 (a_ (zix 1 z1 _ _ rfl g1' (by rw[hzs];rfl)) bd (fj #[1]))) ?_
 rw[em1]
 obtain⟨c3,ce3⟩:=r_ g0' 3
 obtain⟨fs,hfl,_,ef⟩:=oX c3 400009 m1 #[0] s2
 have ef:lP [.int c3,.int (m1:Int),.int 400009] s2=.ok (.loc s2.length) (s2++[.lst (on fs)]):=ef
 obtain⟨ps,S,sz,lk,hg,hS,hpn,hmk,ew⟩:=LB (st:=s2++[.lst (on fs)]) (nd:=s2.length) (pool:=[p0,p1,p2,p3]) (mo:=m1) bP #[0] (ax rfl)
 refine aF (a9 (bc (ak (bc (ak (bc (ak kv (ak bd ba)) ce3 rfl) (ak kv (ak bd ba))) ef rfl) (ak (Ha kv rfl rfl (sl4 _)) kn)) ew rfl)) ?_
 have g1:=cH (x:=[al.lst (on fs)]) g1'
 have g0:=cH (x:=[al.lst (on fs)]) g0'
 have gx:∃x,s2++[al.lst (on fs)]=st++x:=⟨_,by rw[Bp,hs1,aM,aM]⟩
 obtain⟨s3,hs3⟩:∃s3,s3=s2++[al.lst (on fs)]:=⟨_,rfl⟩
 rw[<- hs3]at g1 g0 gx ⊢
 have hn:ps.length<=100:=by omega
 have hm4:∀p∈ps,p.m.length<=4:=fun p hp=>(hmk p hp).1
 have hG:CQ ps:=fun p hp=>⟨by have:=hm4 p hp;omega,fun d hd=>hp4 d ((hmk p hp).2 d hd)⟩
 show ju _ (aX _ _ [some (.loc 0),some #[2],some (.str pool),some s.w,some (.int (m1:Int)),some (dC ps),none,none,none,none,none,none,none,none,none,none,none,none] s3)
 clear ef ee ez es' ew ce0 ce1 ce2 ce3 g1' g0'
 have ed:=Jk hg hn hm4 hs #[0] s3
 have ea:=s_ hg hn hG hs #[0] s3
 have hsm:=yQ ps.length sz lk s (AP ps)
 have ao:∀{q0 q1:Nat},q0∈LL->q1∈LL->∀(ds:List Int) (st:List al),_:=fun h0 h1 ds st=>Fk hg hn hG hs hsd h0 h1 ds st
 have ar:=fun g h st=>L8 hg hn hG hs hsd g h st
 have am:∀t:MT,ps=t.po->∀st,kq [(mS (rb 0 0) true s).w,dC t.mir.po] st=.ok (BD ps.length sz lk s (AP ps)) st:=fun t ht st=>by
  subst ht
  exact L9 hg hn hG hs hsd st
 obtain⟨an,han⟩:∃an,an=BD ps.length sz lk s (AP ps):=⟨_,rfl⟩
 rw[<- han]at ed ea hsm
 simp only[<- han]at ao ar am
 clear han
 have enm:=mJ s hs 40 #[0] s3
 refine aF (a9 (bc (ak kv kn) ed rfl)) (aQ (tV (aR (bc (ak (bc (ak kv kn) ea rfl) kn) (hsm _) rfl)) rfl) (aU (aF (a9 (bc kn enm rfl)) (aF (a9 (Ha kv rfl rfl (sl5 _))) ?_))))
 show ju _ (aX _ _ [some (.loc 0),some #[2],some (.str pool),some s.w,some (.int (m1:Int)),some (dC ps),some an,some (.str (nms s)),some (.str [p4,p5]),none,none,none,none,none,none,none,none,none] s3)
 refine yo (fun ρ s'=>∃q0 q1,q0∈LL/\q1∈LL/\ρ=[some (.loc 0),some #[2],some (.str pool),some s.w,some (.int (m1:Int)),some (dC ps),some an,some (.str (nms s)),some (.str [q0,q1]),none,none,none,none,none,none,none,none,none]/\s3=s') ?_ ?_
 ·by_cases h:z2%2=1
  ·exact nO (aR (a_ (a_ (zix 2 z2 _ _ rfl g1 (by rw[hzs];rfl)) bd (fj #[1])) bd (jh (dL.mpr h)))) (db (a9 (Ha kv rfl rfl (sl2 _))) ⟨_,_,rfl,p0,p1,l0,l1,rfl,rfl⟩)
  ·exact lN (aR (a_ (a_ (zix 2 z2 _ _ rfl g1 (by rw[hzs];rfl)) bd (fj #[1])) bd (jh (bz.mpr h)))) (db ng ⟨_,_,rfl,p4,p5,l4,l5,rfl,rfl⟩)
 rintro ρ s' ⟨q0,q1,hq0,hq1,rfl,rfl⟩
 obtain⟨c4,ce4⟩:=r_ g0 4
 obtain⟨ds,Uw,_,edr⟩:=oX c4 500009 ps.length #[0] s3
 have edr:lP [.int c4,.int (ps.length:Int),.int 500009] s3=.ok (.loc s3.length) (s3++[.lst (on ds)]):=edr
 have eo:=Jv (nm:=nms s) (st:=s3++[.lst (on ds)]) (nd:=s3.length) hn hG hq0 hq1 bP Uw
 have ao:=ao hq0 hq1 ds
 obtain⟨s4,hs4⟩:∃s4,s4=s3++[al.lst (on ds)]:=⟨_,rfl⟩
 have g1':=cH (x:=[al.lst (on ds)]) g1
 have gx':∃x,s4=st++x:=by
  obtain⟨x,hx⟩:=gx
  exact⟨_,by rw[hs4,hx,aM]⟩
 rw[<- hs4]at edr eo g1'
 refine aF (a9 (bc (ak kv (ak kv (ak kv (ak (bc (ak (bc (ak kv (ak bd ba)) ce4 rfl) (ak (cg kn (kS ps _)) (ak bd ba))) edr rfl) ba)))) eo rfl)) ?_
 generalize (Rm ps fun k l=>eZ (zb (nms s) q0 q1 (ds.getD k 0) l))=qs at ao
 clear eo edr ce4 ed ea enm
 have ao:=ao s4
 obtain⟨t,ht,em⟩:=AQ hg hS #[0] s4
 have am:=am t ht s4
 have esb:lQ 40 [s.w,.tup [.int 0,.int 0],.bl true] s4=.ok (mS (rb 0 0) true s).w s4:=kK 0 0 true s 40 hs #[0] s4
 refine aQ (tV (aR (bc (ak (bc (ak kv kn) ao rfl) kn) (hsm _) rfl)) rfl) (aU (aF (a9 (bc (ak kv (ak (dO (ak bd (ak bd ba)) (ax rfl)) (ak bd ba))) esb rfl)) (aQ (tV (aR (bc (ak (bc (ak kv (ak (bc kn em rfl) ba)) am rfl) kn) (hsm _) rfl)) rfl) (aU ?_))))
 clear ao am em esb ht
 obtain⟨g,hgm,eg⟩:=kB (q:=z3) (n:=26) #[0]
 have eg:z3%26=(g:Int):=eg
 obtain⟨h,hhm,eh⟩:=kB (q:=z4) (n:=26) #[0]
 have eh:z4%26=(h:Int):=eh
 refine aF (a9 (dO (ak (a_ (zix 3 z3 _ _ rfl g1' (by rw[hzs];rfl)) bd (fj #[1])) (ak (a_ (zix 4 z4 _ _ rfl g1' (by rw[hzs];rfl)) bd (fj #[1])) ba)) (ax rfl))) (aF (a9 (oN ba #[1])) ?_)
 rw[eg,eh]
 have ar:=ar g h
 obtain⟨F,hF⟩:∃F:Nat->List Nat->List Nat,F=fun _ l=>DV (l.map (rb g h)):=⟨_,rfl⟩
 rw[<- hF]at ar
 obtain⟨mw,hmw⟩:∃mw,mw=(mS (rb 0 0) true s).w:=⟨_,rfl⟩
 rw[<- hmw]
 refine fA (fun i ρ s'=>∃(VB VI:Option W) (x:List al),ρ=[some (.loc 0),some #[2],some (.str pool),some s.w,some (.int (m1:Int)),some (dC ps),some an,some (.str (nms s)),some (.str [q0,q1]),some (dC qs),some mw,some (FD g h),some (.loc s4.length),VB,VI,none,none,none]/\s'=s4++(.lst (((Rm ps F).take i).map Pl.w)::x)) (k:=(ps.map Pl.w,none)) (kA kv) ⟨none,none,[],rfl,rfl⟩ (fun _ _ _ _=>trivial) ?_ ?_
 ·rintro i w ρ s' hw ⟨VB,VI,x,rfl,rfl⟩
  have hi:i<ps.length:=by have:=(aj.mp hw).1;simpa using this
  obtain⟨p,hp⟩:∃p,ps[i]?=some p:=⟨_,aq hi⟩
  have hw:(ps.map Pl.w)[i]?=some w:=hw
  rw[aG,hp]at hw
  cases hw
  obtain⟨v1,v2⟩:=hG p (bC hp)
  refine⟨[some (.loc 0),some #[2],some (.str pool),some s.w,some (.int (m1:Int)),some (dC ps),some an,some (.str (nms s)),some (.str [q0,q1]),some (dC qs),some mw,some (FD g h),some (.loc s4.length),some (.int p.b),some (.str p.m),none,none,none],rfl,?_⟩
  obtain⟨y,ey⟩:=TU (g:=g) (h:=h) (l:=p.m) (ρ:=[some (.loc 0),some #[2],some (.str pool),some s.w,some (.int (m1:Int)),some (dC ps),some an,some (.str (nms s)),some (.str [q0,q1]),some (dC qs),some mw,some (FD g h),some (.loc s4.length),some (.int p.b),some (.str p.m),none,none,none]) (st:=s4++(.lst (((Rm ps F).take i).map Pl.w)::x)) rfl rfl v1 v2
  have cl0:(s4++(al.lst (((Rm ps F).take i).map Pl.w)::x))[s4.length]?=some (.lst (((Rm ps F).take i).map Pl.w)):=by rw[dA];rfl
  have ap:=jY (y:=.tup [.int p.b,.str (DV (p.m.map (rb g h)))]) (cH (x:=y) cl0) (by rw[az,bE];show _<1000000;omega)
  refine db (gy (ir kv (dR cl0) (ak (dO (ak kv (ak ey ba)) (ax rfl)) ba) ap)) ⟨_,_,rfl,_,_,x++y,rfl,?_⟩
  rw[aM,dN,Ej hp]
  show _=s4++(al.lst (_++[W.tup [.int p.b,.str (F i p.m)]])::_)
  rw[hF]
  rfl
 rintro ρ s' ⟨VB,VI,x,rfl,rfl⟩
 rw[show((ps.map Pl.w,(none:Option (Nat×List W))).1.length)=(Rm ps F).length by rw[pc];exact az ..,eN]
 obtain⟨s5,hs5⟩:∃s5,s5=s4++(al.lst ((Rm ps F).map Pl.w)::x):=⟨_,rfl⟩
 have cl:s5[s4.length]?=some (.lst ((Rm ps F).map Pl.w)):=by rw[hs5,dA];rfl
 have g5:s5[st.length]?=some (.lst (on zs)):=by rw[hs5];exact cH g1'
 have gx5:∃x,s5=st++x:=by
  obtain⟨y,hy⟩:=gx'
  exact⟨_,by rw[hs5,hy,aM]⟩
 rw[<- hs5]
 have esb:=kK g h false s 40 hs #[0] s5
 have ar:=ar s5
 have et:jC [.loc s4.length] s5=.ok (dC (Rm ps F)) s5:=qP (br cl)
 obtain⟨k5,hk5,ek5⟩:=kB (q:=z5) (n:=4) #[0]
 have ek5:z5%4=(k5:Int):=ek5
 obtain⟨c,hc,ec⟩:=ixp k5 hk5
 refine aQ (tV (aR (bc (ak (bc (ak (bc (ak kv (ak kv (ak bd ba))) esb rfl) (ak (cg kn et) ba)) ar rfl) kn) (hsm _) rfl)) rfl) (aU ?_)
 refine aF (a9 (a_ kv (a_ (zix 5 z5 _ _ rfl g5 (by rw[hzs];rfl)) bd (fj #[1])) (by rw[ek5];exact ec s5))) ?_
 have hd1:(Stm.bnd L7 c s).dp<=20:=by simp only[Stm.dp];omega
 have hd2:(Stm.bnd Q4 c (.neg s)).dp<=20:=by simp only[Stm.dp];omega
 have ed:vx [.tup [.str [97,108,108],.str [c],s.w],dC ps] s5=_:=Jk hg hn hm4 (s:=.bnd L7 c s) ⟨by decide,hc,hs⟩ hd1 s5
 have ea:kq [.tup [.str [97,108,108],.str [c],s.w],dC ps] s5=_:=s_ hg hn hG (s:=.bnd L7 c s) ⟨by decide,hc,hs⟩ hd1 s5
 have eb:kq [.tup [.str [115,111,109,101],.str [c],.tup [.str [110,111,116],s.w]],dC ps] s5=_:=s_ hg hn hG (s:=.bnd Q4 c (.neg s)) ⟨by decide,hc,hs⟩ hd2 s5
 have hsm2:=yQ ps.length sz lk (.bnd L7 c s) (AP ps) s5
 have hsm3:=yQ ps.length sz lk (.bnd Q4 c (.neg s)) (AP ps) s5
 obtain⟨o1,o2⟩:=Qo ps.length sz lk c s (AP ps)
 unfold BD at ed ea eb hsm2 hsm3
 rw[o1,o2]at eb hsm3
 generalize tv ps.length sz lk (.bnd L7 c s) (AP ps)=b at ed ea eb hsm2 hsm3
 by_cases hw:4096<wy ps.length (.bnd L7 c s)
 ·rw[aC hw]at ed ea eb hsm2 hsm3
  refine aF (a9 (bc (ak (dO (ak bd (ak kv kn)) (ax rfl)) kn) ed rfl)) (aF (a9 kv) (aQ (aR (wV kv rfl rfl)) (aU (aQ (tV (aR (bc (ak (bc (ak (dO (ak bd (ak kv kn)) (ax rfl)) kn) ea rfl) kn) hsm2 rfl)) rfl) (aU (bI (bc (ak (bc (ak (dO (ak bd (ak kv (ak (dO (ak bd kn) (ax rfl)) ba))) (ax rfl)) kn) eb rfl) kn) hsm3 rfl) ⟨_,_,rfl,rfl,gx5⟩))))))
 ·rw[aJ hw]at ed ea eb hsm2 hsm3
  refine aF (a9 (bc (ak (dO (ak bd (ak kv kn)) (ax rfl)) kn) ed rfl)) (aF (a9 kv) (bD (aR (wV kv rfl rfl)) (aF (a9 (zW kv rfl)) (aQ (tV (aR (bc (ak (bc (ak (dO (ak bd (ak kv kn)) (ax rfl)) kn) ea rfl) kn) hsm2 rfl)) rfl) (aU (bI (bc (ak (bc (ak (dO (ak bd (ak kv (ak (dO (ak bd kn) (ax rfl)) ba))) (ax rfl)) kn) eb rfl) kn) hsm3 rfl) ⟨_,_,rfl,rfl,gx5⟩))))))
theorem all_mk{l:PySem.W.OpenLaw}{w:World}{fa:Addr}(X:K.In h)(G:h.Ns mainGlobals mg)(Wv:mg "law"=some (.ref fa))
  {C2:Addr} {Qu JU:Option Addr} {Qz:Array (Option Value)} {Qx JL JV J4 C5 J1:Value} {cf:Addr} {pB:Addr} {iI:Addr} {dE:Addr} {kX:Addr} {c_:Addr} {pz:Addr} {py:Addr} {iH:Addr} {iG:Addr} {kY:Addr} {ul:Option Addr} {ui:Array (Option Value)} {uj:Nat} {tD tu tq tm:Tok} {tw:Addr} {C4:Option Addr} {C6:Array (Option Value)} {Db:Nat} {A' Bj:Tok} {Ba:Tok}
  (C1:DefIn K "is_small" OX)
  (CY:DefIn K "in_order" OY)
  (JA:DefIn K "two_to" OZ)
  (C0:DefIn K "is_plain" O0)
  (C9:DefIn K "has_left" O1)
  (AW:DefIn K "has_right" O2)
  (C7:DefIn K "links_of" O3)
  (JG:DefIn K "ups_of" O4)
  (Fs:DefIn K "up_from" O5)
  (wt:DefIn K "check_place" O6)
  (C8:DefIn K "borne_by" Hl)
  (yT:DefIn K "dressed_in" Hm)
  (vT:DefIn K "choices_many" Ho)
  (Fm:DefIn K "ways_of" Hq)
  (yV:DefIn K "choices_of" Ht)
  (L_:DefIn K "bears" Hu)
  (A9:DefIn K "all_below" Hv)
  (yW:DefIn K "plain_true" Hw)
  (y7:DefIn K "bound_true" Hy)
  (Bo:DefIn K "goes_true" HA)
  (Ma:DefIn K "holds" HD)
  (AX:DefIn K "_law_cell" HE)
  (yY:DefIn K "_law_mixed" HF)
  (y0:DefIn K "_law_draws" HH)
  (Bm:DefIn K "_law_pool" HI)
  (y9:DefIn K "_law_marks" HJ)
  (A_:DefIn K "_law_wood" HK)
  (Bw:DefIn K "_law_said" HL)
  (y6:DefIn K "_law_links" HM)
  (A8:DefIn K "_law_ways" HN)
  (Bc:DefIn K "_law_true" HQ)
  (yU:DefIn K "_law_plain" HS)
  (yR:DefIn K "_law_under" HU)
  (AS:DefIn K "_law_worn" HV)
  (yS:DefIn K "_law_names" HW)
  (uk:DefIn K "_law_mirrored" HY)
  (tz:DefIn K "_law_letter_by" HZ)
  (vR:DefIn K "_law_said_by" H9)
  (q9:DefIn K "_law_other_marks" Ia)
  (Da:DefIn K "_law_due" Ib)
  (C3:DefIn K "_law_ask" Ie)
  (Bt:DefIn K "_law_same" Ig)
  (Nw:nsIn K mainGlobals "law"=some (some (.ref C2)))
  (Ui:K.lookup C2=some ⟨Qx,Qu,.func (fnOf "law" "law" (jK r6) (iN r6) (a8 r6) .none JL JV J4 JU C5 J1),Qz⟩)
  (Fv:codeIn K C5 "law"=true)
  (T9:keepIn K (.ref C2)=true)
  (fV:nsIn K mainGlobals "TrunkError"=some (some (.ref cf)))
  (JY:nsIn K mainGlobals "NoTree"=some (some (.ref pB)))
  (wm:nsIn K mainGlobals "NoStatement"=some (some (.ref iI)))
  (kL:nsIn K mainGlobals "NoPlace"=some (some (.ref dE)))
  (C_:nsIn K mainGlobals "NoNumber"=some (some (.ref kX)))
  (jE:nsIn K mainGlobals "TooGreat"=some (some (.ref c_)))
  (JP:nsIn K mainGlobals "NoName"=some (some (.ref pz)))
  (J6:nsIn K mainGlobals "NoLine"=some (some (.ref py)))
  (wn:nsIn K mainGlobals "NothingDone"=some (some (.ref iH)))
  (wu:nsIn K mainGlobals "NothingHeld"=some (some (.ref iG)))
  (x_TrunkError:excIn K cf qM rS=true)
  (mq:findIn K (.ref cf) "__getattribute__"=some (some (.builtin "BaseException.__getattribute__")))
  (ml:findIn K (.ref cf) "__getattr__"=some none)
  (mj:findIn K (.ref cf) "__class__"=some (some (.builtin "object.__class__")))
  (w_TrunkError_TooGreat:kitOne K (.ref cf) (.ref c_)=some false)
  (w_TrunkError_t0:kitAny K (.ref cf) ([pB,iI,dE,kX,pz,py,iH,iG].map Value.ref)=some false)
  (w_TrunkError_VE:kitOne K (.ref cf) (.type "ValueError")=some true)
  (x_NoPlace:excIn K dE qM rS=true)
  (qX:findIn K (.ref dE) "__getattribute__"=some (some (.builtin "BaseException.__getattribute__")))
  (q_:findIn K (.ref dE) "__getattr__"=some none)
  (qY:findIn K (.ref dE) "__class__"=some (some (.builtin "object.__class__")))
  (w_NoPlace_TooGreat:kitOne K (.ref dE) (.ref c_)=some false)
  (w_NoPlace_t0:kitAny K (.ref dE) ([pB,iI,dE,kX,pz,py,iH,iG].map Value.ref)=some true)
  (w_NoPlace_VE:kitOne K (.ref dE) (.type "ValueError")=some true)
  (x_TooGreat:excIn K c_ qM rS=true)
  (pk:findIn K (.ref c_) "__getattribute__"=some (some (.builtin "BaseException.__getattribute__")))
  (pw:findIn K (.ref c_) "__getattr__"=some none)
  (ph:findIn K (.ref c_) "__class__"=some (some (.builtin "object.__class__")))
  (w_TooGreat_TooGreat:kitOne K (.ref c_) (.ref c_)=some true)
  (w_TooGreat_t0:kitAny K (.ref c_) ([pB,iI,dE,kX,pz,py,iH,iG].map Value.ref)=some false)
  (w_TooGreat_VE:kitOne K (.ref c_) (.type "ValueError")=some true)
  (u_TrunkError_TrunkError:(Cd K cf).contains (.ref cf)=true)
  (u_NoPlace_TrunkError:(Cd K dE).contains (.ref cf)=true)
  (u_TooGreat_TrunkError:(Cd K c_).contains (.ref cf)=true)
  (y4:nsIn K mainGlobals "ValueError"=some none)
  (TZ:nsIn K mainGlobals "all"=some none)
  (QR:nsIn K mainGlobals "bool"=some none)
  (QL:nsIn K mainGlobals "dict"=some none)
  (AV:nsIn K mainGlobals "enumerate"=some none)
  (Uh:nsIn K mainGlobals "int"=some none)
  (yX:nsIn K mainGlobals "isinstance"=some none)
  (TW:nsIn K mainGlobals "len"=some none)
  (Qt:nsIn K mainGlobals "list"=some none)
  (T8:nsIn K mainGlobals "max"=some none)
  (Mf:nsIn K mainGlobals "range"=some none)
  (T_:nsIn K mainGlobals "set"=some none)
  (JE:nsIn K mainGlobals "sorted"=some none)
  (Uf:nsIn K mainGlobals "str"=some none)
  (Me:nsIn K mainGlobals "tuple"=some none)
  (vM:nsIn K mainGlobals "TWO_LETTERED"=some (some (.ref kY)))
  (vV:K.lookup kY=some ⟨.type "tuple",ul,.seq #[.str "in" tD,.str "left" tu,.str "right" tq,.str "below" tm] uj,ui⟩)
  (Fq:nsIn K mainGlobals "JOINING"=some (some (.ref tw)))
  (Ft:K.lookup tw=some ⟨.type "tuple",C4,.seq #[.str "and" A',.str "or" Bj] Db,C6⟩)
  (Br:nsIn K mainGlobals "MOST_WAYS"=some (some (.int 4096 Ba))) :
  ∃fd:FuncData,fd.scope.names.lookup ("_law_script":Str)=some .local/\(∀(s:Shared) (v:Value),BindsTo s fd ⟨[v],[]⟩ [("_law_script",v)])/\∀base:Heap,K.In base->base.Ns mainGlobals mg->eY l.prog w K mg base (kP l.prog w) 46 fa fd Ij (md K mg 1 f_q42):=by
 have e:=Wv.symm.trans (mg_of X G Nw)
 cases e
 obtain⟨_,_,F_q0,m_q0⟩:=C1.fn X G
 obtain⟨_,_,F_q1,m_q1⟩:=CY.fn X G
 obtain⟨_,_,F_q2,m_q2⟩:=JA.fn X G
 obtain⟨_,_,F_q3,m_q3⟩:=C0.fn X G
 obtain⟨_,_,F_q4,m_q4⟩:=C9.fn X G
 obtain⟨_,_,F_q5,m_q5⟩:=AW.fn X G
 obtain⟨_,_,F_q6,m_q6⟩:=C7.fn X G
 obtain⟨_,_,F_q7,m_q7⟩:=JG.fn X G
 obtain⟨_,_,F_q8,m_q8⟩:=Fs.fn X G
 obtain⟨_,_,F_q9,m_q9⟩:=wt.fn X G
 obtain⟨_,_,F_q10,m_q10⟩:=C8.fn X G
 obtain⟨_,_,F_q11,m_q11⟩:=yT.fn X G
 obtain⟨_,_,F_q12,m_q12⟩:=vT.fn X G
 obtain⟨_,_,xH,Bh⟩:=Fm.fn X G
 obtain⟨_,_,F_q14,m_q14⟩:=yV.fn X G
 obtain⟨_,_,F_q15,m_q15⟩:=L_.fn X G
 obtain⟨_,_,F_q16,m_q16⟩:=A9.fn X G
 obtain⟨_,_,F_q17,m_q17⟩:=yW.fn X G
 obtain⟨_,_,xD,Bi⟩:=y7.fn X G
 obtain⟨_,_,xA,Be⟩:=Bo.fn X G
 obtain⟨_,_,F_q20,m_q20⟩:=Ma.fn X G
 obtain⟨_,_,F_q21,m_q21⟩:=AX.fn X G
 obtain⟨_,_,F_q22,m_q22⟩:=yY.fn X G
 obtain⟨_,_,F_q23,m_q23⟩:=y0.fn X G
 obtain⟨_,_,F_q24,m_q24⟩:=Bm.fn X G
 obtain⟨_,_,F_q25,m_q25⟩:=y9.fn X G
 obtain⟨_,_,F_q26,m_q26⟩:=A_.fn X G
 obtain⟨_,_,F_q27,m_q27⟩:=Bw.fn X G
 obtain⟨_,_,F_q28,m_q28⟩:=y6.fn X G
 obtain⟨_,_,xJ,Bb⟩:=A8.fn X G
 obtain⟨_,_,xz,Bq⟩:=Bc.fn X G
 obtain⟨_,_,F_q31,m_q31⟩:=yU.fn X G
 obtain⟨_,_,F_q32,m_q32⟩:=yR.fn X G
 obtain⟨_,_,F_q33,m_q33⟩:=AS.fn X G
 obtain⟨_,_,xL,Bv⟩:=yS.fn X G
 obtain⟨_,_,F_q35,m_q35⟩:=uk.fn X G
 obtain⟨_,_,F_q36,m_q36⟩:=tz.fn X G
 obtain⟨_,_,xC,Bd⟩:=vR.fn X G
 obtain⟨_,_,F_q38,m_q38⟩:=q9.fn X G
 obtain⟨_,_,F_q39,m_q39⟩:=Da.fn X G
 obtain⟨_,_,F_q40,m_q40⟩:=C3.fn X G
 obtain⟨_,_,xB,AT⟩:=Bt.fn X G
 have F_q42:=F6 (st:=r6) Ui Fv T9
 have m_q42:=mg_of X G Nw
 have B:Bl mg:=⟨mg_none_of X G y4,mg_none_of X G TZ,mg_none_of X G QR,mg_none_of X G QL,mg_none_of X G AV,mg_none_of X G Uh,mg_none_of X G yX,mg_none_of X G TW,mg_none_of X G Qt,mg_none_of X G T8,mg_none_of X G Mf,mg_none_of X G T_,mg_none_of X G JE,mg_none_of X G Uf,mg_none_of X G Me⟩
 have C:Mj K mg:=⟨⟨cf,mg_of X G fV,x_TrunkError⟩,⟨dE,mg_of X G kL,x_NoPlace⟩,⟨c_,mg_of X G jE,x_TooGreat⟩,⟨c_,mg_of X G jE,⟨fun c b hb=>by by_cases e0:c="TrunkError";(· subst e0;rw[show i7 "TrunkError"=some false from by decide +kernel]at hb;cases hb;exact⟨cf,mg_of X G fV,x_TrunkError,⟨mq,ml,mj⟩,w_TrunkError_TooGreat⟩);by_cases e1:c="NoPlace";(· subst e1;rw[show i7 "NoPlace"=some false from by decide +kernel]at hb;cases hb;exact⟨dE,mg_of X G kL,x_NoPlace,⟨qX,q_,qY⟩,w_NoPlace_TooGreat⟩);by_cases e2:c="TooGreat";(· subst e2;rw[show i7 "TooGreat"=some true from by decide +kernel]at hb;cases hb;exact⟨c_,mg_of X G jE,x_TooGreat,⟨pk,pw,ph⟩,w_TooGreat_TooGreat⟩);simp only[i7,e0,e1,e2,iK,reduceCtorEq]at hb⟩⟩,⟨pB,iI,dE,kX,pz,py,iH,iG,mg_of X G JY,mg_of X G wm,mg_of X G kL,mg_of X G C_,mg_of X G JP,mg_of X G J6,mg_of X G wn,mg_of X G wu,⟨fun c b hb=>by by_cases e0:c="TrunkError";(· subst e0;rw[show wZ "TrunkError"=some false from by decide +kernel]at hb;cases hb;exact⟨cf,mg_of X G fV,x_TrunkError,⟨mq,ml,mj⟩,w_TrunkError_t0⟩);by_cases e1:c="NoPlace";(· subst e1;rw[show wZ "NoPlace"=some true from by decide +kernel]at hb;cases hb;exact⟨dE,mg_of X G kL,x_NoPlace,⟨qX,q_,qY⟩,w_NoPlace_t0⟩);by_cases e2:c="TooGreat";(· subst e2;rw[show wZ "TooGreat"=some false from by decide +kernel]at hb;cases hb;exact⟨c_,mg_of X G jE,x_TooGreat,⟨pk,pw,ph⟩,w_TooGreat_t0⟩);simp only[wZ,e0,e1,e2,iK,reduceCtorEq]at hb⟩⟩,⟨fun c b hb=>by by_cases e0:c="TrunkError";(· subst e0;rw[show g7 "TrunkError"=some true from by decide +kernel]at hb;cases hb;exact⟨cf,mg_of X G fV,x_TrunkError,⟨mq,ml,mj⟩,w_TrunkError_VE⟩);by_cases e1:c="NoPlace";(· subst e1;rw[show g7 "NoPlace"=some true from by decide +kernel]at hb;cases hb;exact⟨dE,mg_of X G kL,x_NoPlace,⟨qX,q_,qY⟩,w_NoPlace_VE⟩);by_cases e2:c="TooGreat";(· subst e2;rw[show g7 "TooGreat"=some true from by decide +kernel]at hb;cases hb;exact⟨c_,mg_of X G jE,x_TooGreat,⟨pk,pw,ph⟩,w_TooGreat_VE⟩);simp only[g7,e0,e1,e2,iK,reduceCtorEq]at hb⟩,⟨fun c hc=>by simp only[a7,fE,mP]at hc;rcases hc with rfl|rfl|rfl;(· exact⟨cf,cf,mg_of X G fV,mg_of X G fV,x_TrunkError,x_TrunkError,u_TrunkError_TrunkError⟩);(· exact⟨dE,cf,mg_of X G kL,mg_of X G fV,x_NoPlace,x_TrunkError,u_NoPlace_TrunkError⟩);(· exact⟨c_,cf,mg_of X G jE,mg_of X G fV,x_TooGreat,x_TrunkError,u_TooGreat_TrunkError⟩)⟩⟩
 have Gg:Gc K mg:=⟨⟨_,.ref kY,mg_of X G vM,rfl,fun μ H=>.tupI (vs:=[V.str (tx [105,110]),V.str (tx [108,101,102,116]),V.str (tx [114,105,103,104,116]),V.str (tx [98,101,108,111,119])]) (.inr ⟨_,_,_,vV,rfl,rfl,by show 4<=sizeLine;decide,.cons ⟨⟨_,fun z=>nomatch z⟩,by rw[show Str.ofString "in"=tx [105,110]from by decide +kernel]⟩ (.cons ⟨⟨_,fun z=>nomatch z⟩,by rw[show Str.ofString "left"=tx [108,101,102,116]from by decide +kernel]⟩ (.cons ⟨⟨_,fun z=>nomatch z⟩,by rw[show Str.ofString "right"=tx [114,105,103,104,116]from by decide +kernel]⟩ (.cons ⟨⟨_,fun z=>nomatch z⟩,by rw[show Str.ofString "below"=tx [98,101,108,111,119]from by decide +kernel]⟩ (.nil))))⟩) (.consI .str (.consI .str (.consI .str (.consI .str (.nilI)))))⟩,⟨_,.ref tw,mg_of X G Fq,rfl,fun μ H=>.tupI (vs:=[V.str (tx [97,110,100]),V.str (tx [111,114])]) (.inr ⟨_,_,_,Ft,rfl,rfl,by show 2<=sizeLine;decide,.cons ⟨⟨_,fun z=>nomatch z⟩,by rw[show Str.ofString "and"=tx [97,110,100]from by decide +kernel]⟩ (.cons ⟨⟨_,fun z=>nomatch z⟩,by rw[show Str.ofString "or"=tx [111,114]from by decide +kernel]⟩ (.nil))⟩) (.consI .str (.consI .str (.nilI)))⟩,⟨_,.int 4096,mg_of X G Br,⟨_,rfl⟩,fun μ H=>.int⟩⟩
 refine⟨fnOf "law" "law" (jK r6) (iN r6) (a8 r6) .none JL JV J4 JU C5 J1,rfl,fun s v=>.of_eq rfl,fun base _ _=>?_⟩
 have Fl:cG l.prog w K mg base 1 "is_small" 1 CF:=du F_q0 m_q0 (Td F_q0)
 have QY:cG l.prog w K mg base 1 "in_order" 1 Ik:=du F_q1 m_q1 (Te F_q1 B)
 have QO:cG l.prog w K mg base 1 "two_to" 1 Il:=du F_q2 m_q2 (Tg F_q2 B)
 have Bn:cG l.prog w K mg base 1 "is_plain" 1 CG:=du F_q3 m_q3 (Th F_q3 Gg)
 have QK:cG l.prog w K mg base 1 "has_left" 1 yG:=du F_q4 m_q4 (Ti F_q4)
 have Q0:cG l.prog w K mg base 1 "has_right" 1 yH:=du F_q5 m_q5 (Tj F_q5)
 have Qp:cG l.prog w K mg base 2 "links_of" 1 Im:=du F_q6 m_q6 (Tn F_q6 B  QK Q0)
 have Qy:cG l.prog w K mg base 3 "ups_of" 1 Io:=du F_q7 m_q7 (To F_q7 B  Qp)
 have Qs:cG l.prog w K mg base 1 "up_from" 2 Ip:=du F_q8 m_q8 (Tp F_q8)
 have Qw:cG l.prog w K mg base 1 "check_place" 2 Iq:=du F_q9 m_q9 (Tr F_q9 B C)
 have xI:cG l.prog w K mg base 1 "borne_by" 2 tY:=du F_q10 m_q10 (Pe F_q10 B)
 have Em:cG l.prog w K mg base 2 "dressed_in" 3 w4:=du F_q11 m_q11 (Pf F_q11 B  Qw QY)
 have Es:cG l.prog w K mg base 2 "choices_many" 2 Ai:=du F_q12 m_q12 (Pg F_q12 B  Fl QO)
 have t5:=DJ (P:=l.prog) (w:=w) (base:=base) xH Bh Gg Es Bn 40
 have El:cG l.prog w K mg base 2 "choices_of" 2 Aj:=du F_q14 m_q14 (Ph F_q14 B  Fl)
 have vP:cG l.prog w K mg base 1 "bears" 3 nP:=du F_q15 m_q15 (Pi F_q15)
 have JX:cG l.prog w K mg base 2 "all_below" 4 Ak:=du F_q16 m_q16 (Pj F_q16 B  vP xI Qs)
 have Er:cG l.prog w K mg base 3 "plain_true" 3 Al:=du F_q17 m_q17 (Pk F_q17 B  JX vP xI)
 obtain⟨h_q18,qv⟩:=iE (P:=l.prog) (w:=w) (base:=base) xD Bi xA Be B El Em Bn Er 40
 have JD:cG l.prog w K mg base 44 "holds" 2 w9:=du F_q20 m_q20 (Pm F_q20 B Gg C  qv Qy t5)
 have vO:cG l.prog w K mg base 1 "_law_cell" 2 r9:=du F_q21 m_q21 (Pn F_q21 B)
 have JM:cG l.prog w K mg base 1 "_law_mixed" 3 w_:=du F_q22 m_q22 (Po F_q22)
 have sj:cG l.prog w K mg base 2 "_law_draws" 3 lP:=du F_q23 m_q23 (Pp F_q23 B  JM)
 have Jy:cG l.prog w K mg base 3 "_law_pool" 3 xa:=du F_q24 m_q24 (Pq F_q24 B  sj)
 have Jx:cG l.prog w K mg base 1 "_law_marks" 2 Am:=du F_q25 m_q25 (Ps F_q25 B)
 have JO:cG l.prog w K mg base 2 "_law_wood" 3 An:=du F_q26 m_q26 (Pt F_q26 B  Jx)
 have JB:cG l.prog w K mg base 1 "_law_said" 2 Ao:=du F_q27 m_q27 (Pu F_q27 B)
 have Jz:cG l.prog w K mg base 1 "_law_links" 1 Ap:=du F_q28 m_q28 (Pv F_q28 B)
 have sk:=DL (P:=l.prog) (w:=w) (base:=base) xJ Bb B  40
 have Et:cG l.prog w K mg base 1 "_law_plain" 4 t0:=du F_q31 m_q31 (Pw F_q31 B)
 have qt:=DN (P:=l.prog) (w:=w) (base:=base) xz Bq B Et 40
 have J7:cG l.prog w K mg base 1 "_law_under" 1 Aq:=du F_q32 m_q32 (Px F_q32)
 have JT:cG l.prog w K mg base 1 "_law_worn" 1 Ar:=du F_q33 m_q33 (Py F_q33 B)
 have t7:=DO (P:=l.prog) (w:=w) (base:=base) xL Bv B  40
 have J0:cG l.prog w K mg base 1 "_law_mirrored" 1 As:=du F_q35 m_q35 (Pz F_q35 B)
 have vU:cG l.prog w K mg base 1 "_law_letter_by" 2 qr:=du F_q36 m_q36 (PB F_q36)
 have xK:=DP (P:=l.prog) (w:=w) (base:=base) xC Bd B vU 40
 have J2:cG l.prog w K mg base 1 "_law_other_marks" 4 Au:=du F_q38 m_q38 (PD F_q38 B)
 have En:cG l.prog w K mg base 42 "_law_due" 2 vx:=du F_q39 m_q39 (PF F_q39 B  Jz qt J7 sk JT)
 have t8:cG l.prog w K mg base 45 "_law_ask" 2 kq:=du F_q40 m_q40 (PH F_q40 B C  JD)
 have qu:=DR (P:=l.prog) (w:=w) (base:=base) xB AT B  40
 exact PJ F_q42 B  t8 vO sj En vU J0 t7 J2 Jy JB xK qu JO
end P
end
namespace PySem.W.Fast
def tw14969539597028665214:=0
def tw11364171892540829693:=0
def tw16237440053754062524:=0
def tw18338000818841704060:=0
def tw613450996603269019:=0
def tw17930269335536977435:=0
def tw12880398245492797947:=0
def tw4924423145027880347:=0
def tw6654139800161825851:=0
def tw11101965386270013210:=0
def tw13416753598070223192:=0
def tw9297150684371992151:=0
def tw5892962470172019126:=0
def tw7678110771581382902:=0
def tw11089837823915748598:=0
def tw9813128432991553525:=0
def tw12926781188100044725:=0
def tw13024078828772008340:=0
def tw359469406554398925:=0
def tw8697147071531691145:=0
def tw1873472857945330856:=0
def tw5461029694399561927:=0
def tw1556201358040005286:=0
def tw4061573440815066659:=0
def tw6159317575097509283:=0
def tw13881787124430120963:=0
def tw10607646381472830338:=0
def tw16932657505030129410:=0
def tw11495251005917183522:=0
def tw906361030526446081:=0
def tw8176573660653846593:=0
def tw7099792546722544352:=0
def tw11616043619837174816:=0
def tw11446559020005924547:=0
def tw14923999011826473925:=0
def tw14264287252984543814:=0
def tw3674604772721543304:=0
def tw3615652688023338838:=0
def tw6189791046182362093:=0
def tw15862617202014795627:=0
def tw6113806096503161233:=0
def tw16556717361697845805:=0
def tw16459741122528843128:=0
def tw16139619968128569544:=0
def tw17883852763680197555:=0
def tw15929027259867358765:=0
def tw12539547403276352396:=0
def tw1313217798390702436:=0
def tw2470337756120622581:=0
def tw10160168009194061110:=0
def tw2980501223791488365:=0
def tw10930787312658155540:=0
def tw6925558703481114441:=0
def tw12466394748379996242:=0
def tw7757302970770576883:=0
def tw5334906887371218135:=0
def tw5343271361248735416:=0
def tw5885396426431792923:=0
def tw1718710226228123841:=0
def tw2236366830600649345:=0
def tw12035117153763697970:=0
def tw16174520269286276404:=0
def tw3551308561776359834:=0
def tw9246965066455544950:=0
def tw104241440425596630:=0
def tw1298746934482944388:=0
def tw9307768365521017461:=0
def tw3579424550237295:=0
def tw33295721991133332:=0
def tw8341258963985177115:=0
def tw1291627783956286357:=0
def tw11517402738811252728:=0
def tw12530119551507742906:=0
def tw9479463990353746130:=0
def tw4739111066772002491:=0
def tw12475771522298798387:=0
def tw12808780197616952961:=0
def tw12750367376148335581:=0
def tw13487212425264134378:=0
def tw11298334299138444729:=0
def tw1824678518351868831:=0
def tw6264081639604420695:=0
def tw14805374307431271440:=0
def tw11464043441391120615:=0
def tw8339550726874245420:=0
def tw12302058802987007059:=0
def tw16365713814964798362:=0
def tw5894249681377808220:=0
def tw2987438995234241015:=0
def tw17647022602566521515:=0
def tw12725817181339279354:=0
def tw5311902549604469564:=0
def tw517337836881175694:=0
def tw7276014653925687565:=0
def tw8723712867415949332:=0
def tw7320264197011516820:=0
def tw14320859283275808677:=0
def tw7115004509560155637:=0
def tw10376882484363808860:=0
def tw9589376020892265432:=0
def tw17399774384251889951:=0
def tw8512505956138796260:=0
def tw9888485398154351320:=0
def tw15609938070032396909:=0
def tw136725212019950277:=0
def tw12665680328717992261:=0
def tw12845653122123286692:=0
def tw17099675168895789019:=0
def tw3032998343619375248:=0
def tw17043736680519446107:=0
def tw9989821476635615143:=0
def tw9873386711604812508:=0
def tw17593643850068102284:=0
def tw12130223319324373752:=0
def tw13495504765029127391:=0
def tw7940168794392693426:=0
def tw4824087593035671275:=0
def tw8648232928211903689:=0
def tw14300390167225399361:=0
def tw15363458521626613253:=0
def tw9520344437509843423:=0
def tw4622010253994187362:=0
def tw17906786048796838339:=0
def tw13006348270245194341:=0
def tw2184486312222444828:=0
def tw11767953243414771584:=0
def tw399100642896376032:=0
def tw12185997432160068647:=0
def tw3835691182675198966:=0
def tw13117801729774593281:=0
def tw8287035416887974731:=0
def tw7974285919699051527:=0
def tw5147420711635641805:=0
def tw6152548099404490629:=0
def tw7233143349526915056:=0
def tw377795840486303276:=0
def tw271657586017214775:=0
def tw6277352008199882943:=0
def tw825340828155933462:=0
def tw9805220331650298664:=0
def tw13451371407532743100:=0
def tw2172597564490187157:=0
def tw14377857020197381790:=0
def tw3687952250005738047:=0
def tw11791023354826679166:=0
def tw4998022966531351180:=0
def tw11726339034108636657:=0
def tw12977652598544004138:=0
def tw352729923012027481:=0
def tw4022839392805003202:=0
def tw9659942454436293019:=0
def tw4952396654782644328:=0
def tw4110861596037506884:=0
def tw252715061159502503:=0
def tw18198002362725776603:=0
def tw108463056283732522:=0
def tw10416757824425391748:=0
def tw6928265243466925714:=0
def tw538094190413908237:=0
def tw210591818207010283:=0
def tw11419999996921064397:=0
def tw484641138588338773:=0
def tw5553107556863010247:=0
def tw7725423923941277906:=0
def tw11956897215367133659:=0
def tw6682487203711411511:=0
def tw4304869972146835403:=0
def tw15860835270858682294:=0
def tw9138471354511695385:=0
def tw1437845010244901870:=0
def tw3552171071474756932:=0
def tw2413534375940295433:=0
def tw9965342343627182669:=0
def tw5589183891856658845:=0
def tw16428278554803851277:=0
def tw15636874315288822920:=0
def tw2841911727537336363:=0
def tw13727605756811999037:=0
def tw13839943532699523313:=0
def tw17121461763174798333:=0
def tw1569041460202756836:=0
def tw8216745481580664870:=0
def tw1405728377740210492:=0
def tw176707551251829855:=0
def tw9127721540067993447:=0
def tw6137749206746710363:=0
def tw9675628065396737098:=0
def tw14501413893796607102:=0
def tw2861997334124791673:=0
def tw17213091823338436223:=0
def tw15187931687190854394:=0
def tw12786101215459136428:=0
def tw4437453433810462453:=0
def tw11451432989617905532:=0
def tw5554767217241395107:=0
def tw5453207873283383936:=0
def tw10771495934218664632:=0
def tw9292827789152781630:=0
def tw8671768870233861679:=0
def tw4229431807750827252:=0
def tw16848797903412732399:=0
def tw40079845391718792:=0
def tw13490034372749532374:=0
def tw6442666626381747969:=0
def tw17723182875163817548:=0
def tw9863336517744272169:=0
def tw1714591922064181096:=0
def tw14109010287317591703:=0
def tw1719599516171542897:=0
def tw12483390929412587631:=0
def tw8319113444680359890:=0
def tw6124207235467590819:=0
def tw5207987504057773335:=0
def tw17570272110472963219:=0
def tw7931689298800416385:=0
def tw2966788560703874558:=0
def tw17333741808219249023:=0
def tw8839648569947010405:=0
def tw4439225939974738439:=0
def tw16586737295705595034:=0
def tw1539229142815361321:=0
def tw9950085315226480991:=0
def tw9219544312226288909:=0
def tw4008104283744998045:=0
def tw17781301132998949231:=0
def tw10374188468980354621:=0
def tw6879370713667615606:=0
def tw6007652484155511221:=0
def tw4641842742187116822:=0
def tw7097012686944401044:=0
def tw7267981716968029640:=0
def tw4533204383331069160:=0
def tw6805784986945670676:=0
def tw14974123683692606029:=0
def tw17118386443454057215:=0
def tw14953447213605229781:=0
def tw14330790333339105759:=0
def tw8813910350615831816:=0
def tw1904071030305185535:=0
def tw1440375308283743950:=0
def tw3345223957940454671:=0
def tw12180756368997616331:=0
def tw4008960641716115444:=0
def tw11611955816987594212:=0
def tw6271874737532069952:=0
def tw13779319712430357622:=0
def tw881782235411877689:=0
def tw8939827536855700467:=0
def tw7497618625908379914:=0
def tw12207883352469624078:=0
def tw272795136900793880:=0
def tw7809086153126743579:=0
def tw9479015775339758704:=0
def tw8813127169898945197:=0
def tw5075454831606857013:=0
def tw3929701190036564083:=0
def tw3119206566785779098:=0
def tw2363845723816236846:=0
def tw17815984483078430406:=0
def tw13758000129092101033:=0
def tw10832108180343438260:=0
def tw1024640669030946947:=0
def tw2275967840342462291:=0
def tw402750657458773307:=0
def tw6475567424702703768:=0
def tw8007408296369560698:=0
def tw18442570348795644910:=0
def tw14349630130433683218:=0
def tw6152774068644467921:=0
def tw15925203457004998488:=0
def tw453987865952884556:=0
def tw2587160601010600547:=0
def tw15681900792188417031:=0
def tw14365383271252397802:=0
def tw18088640058890885365:=0
def tw17235132895580479630:=0
def tw6196735781972170490:=0
def tw2431637635810228142:=0
def tw1797456147334582476:=0
def tw17591250738564495975:=0
def tw15679329440825873446:=0
def tw14617109192805440518:=0
def tw12882201373487633836:=0
def tw12582913621839730461:=0
def tw12277247812368201316:=0
def tw12169753983496110707:=0
def tw8742465634351390936:=0
def tw8676675721955876681:=0
def tw8657804706777953675:=0
def tw6578652185327022707:=0
def tw3063829628202390353:=0
def tw2927850909041287538:=0
def tw17792680923931872874:=0
def tw17299825082921019341:=0
def tw15187243888149238220:=0
def tw10850816446077327237:=0
def tw6392668705515990032:=0
def tw6954223562248808885:=0
def tw5555240980954069424:=0
def tw4807114300418602243:=0
end PySem.W.Fast
open PySem PySem.W PyProof.Rows
set_option maxRecDepth 100000 in
set_option maxHeartbeats 0 in
theorem PySem.Challenge.cw_trunksay_k17_whole_what_going_does_not_l_holds : PySem.Challenge.rw_trunksay_k17_whole_what_going_does_not_l.Holds := by
 w_on; o_law; k_head; (case hw => w_witness2)
 k_fill
 refine L2.walkW (l := PySem.Challenge.rw_trunksay_k17_whole_what_going_does_not_l) (k := 46) (x := "_law_script") (G := P.f_q42) rfl rfl ⟨rfl, by decide, by decide⟩ (fun w h Y => PySem.W.kIn_of Y) ?F P.law_ok
 case F =>
  intro w mg fa h KX G hmg
  refine' P.all_mk KX G hmg ?_ ?_ ?_ ?_ ?_ ?_ ?_ ?_ ?_ ?_ ?_ ?_ ?_ ?_ ?_ ?_ ?_ ?_ ?_ ?_ ?_ ?_ ?_ ?_ ?_ ?_ ?_ ?_ ?_ ?_ ?_ ?_ ?_ ?_ ?_ ?_ ?_ ?_ ?_ ?_ ?_ ?_ ?_ ?_ ?_ ?_ ?_ ?_ ?_ ?_ ?_ ?_ ?_ ?_ ?_ ?_ ?x_TrunkError ?_ ?_ ?_ ?w_TrunkError_TooGreat ?w_TrunkError_t0 ?w_TrunkError_VE ?x_NoPlace ?_ ?_ ?_ ?w_NoPlace_TooGreat ?w_NoPlace_t0 ?w_NoPlace_VE ?x_TooGreat ?_ ?_ ?_ ?w_TooGreat_TooGreat ?w_TooGreat_t0 ?w_TooGreat_VE ?u_TrunkError_TrunkError ?u_NoPlace_TrunkError ?u_TooGreat_TrunkError ?_ ?_ ?_ ?_ ?_ ?_ ?_ ?_ ?_ ?_ ?_ ?_ ?_ ?_ ?_ ?_ ?_ ?_ ?_ ?_
  any_goals (refine' L2.DefIn.mk ?a ?l ?c ?k; (case a => k_is); (case l => k_is); (case c => k_is); (case k => k_is))
  any_goals k_is
  (case x_TrunkError => k_exc)
  (case w_TrunkError_TooGreat => kernel_rfl)
  (case w_TrunkError_t0 => kernel_rfl)
  (case w_TrunkError_VE => kernel_rfl)
  (case x_NoPlace => k_exc)
  (case w_NoPlace_TooGreat => kernel_rfl)
  (case w_NoPlace_t0 => kernel_rfl)
  (case w_NoPlace_VE => kernel_rfl)
  (case x_TooGreat => k_exc)
  (case w_TooGreat_TooGreat => kernel_rfl)
  (case w_TooGreat_t0 => kernel_rfl)
  (case w_TooGreat_VE => kernel_rfl)
  (case u_TrunkError_TrunkError => kernel_rfl)
  (case u_NoPlace_TrunkError => kernel_rfl)
  (case u_TooGreat_TrunkError => kernel_rfl)
