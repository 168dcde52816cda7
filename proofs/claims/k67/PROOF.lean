import PyProof.Rows.All
import Wide.All
import OpenK.AllK
import Wide.FinOn
import Lean
import PyProof.EqAt
import PyProof.EqKinds
import PyProof.TupleCall
import PyProof.StrLawsIn
import PyProof.StationsW
import PyProof.NeData
import OpenK.KOwn
import PyProof.NsDelKeeps
import PyProof.ExcArgsOwn
import PyProof.ExcAttrAll.ValueError
import PyProof.IsiH_tuple
import KE.KIsAll
import PyProof.CollectStr
import PyProof.ZipIter
import PyProof.Rows.ZipGen
import PyProof.JoinWalk
import PyProof.CollectIter
import PyProof.EnumMake
import PyProof.SumAny
import PyProof.MeetsSeq3
import PyProof.ListRange
import PyProof.ListNew
import PyProof.DictUpdate
import PyProof.FitsBits
import PyProof.StrCalls6
import PySem.Challenge.RW_trunksay_k67_reckoned
set_option Elab.async false
set_option linter.all false
set_option maxRecDepth 100000
set_option hygiene false
local macro_rules|`(tactic|walk_at "1")=>`(tactic|refine⟨μ,ρ,st,l,RK.bind h l fun μ1 st1 x v H1 p1 x1 l1 q1 h1=>?_⟩)
local macro_rules|`(tactic|walk_at "2")=>`(tactic|obtain⟨μ,ρ,st,l,h⟩:=h)
local macro_rules|`(#[0])=>`(by omega)
local macro_rules|`(#[1])=>`(a7 C (.nd l r m))
local macro_rules|`(#[2])=>`(e_ X nm scope (cellsFrom (G2.objs.size+1) scope.names []++cl) G2.objs.size s2 H1 fp)
local macro_rules|`(#[3])=>`(model X.prog X.w)
local macro_rules|`(#[4])=>`(.nd (if s then x else l) (if s then r else x) m)
local macro_rules|`(#[5])=>`(.loc st.length)
local macro_rules|`(#[6])=>`(Option Nat×Option Nat)
local macro_rules|`(#[7])=>`(s.heap.objs.size+1)
local macro_rules|`(#[8])=>`(model prog w)
local macro_rules|`(#[9])=>`(dZ X nm scope cl C s0 H0 fp)
local macro_rules|`(#[10])=>`(.ListComp qX [⟨tg,ef,mU,0⟩] scope pos)
local macro_rules|`(#[11])=>`(ws.map some++List.replicate (N-ws.length) none)
local macro_rules|`(#[12])=>`((relabel scope X.env).names.lookup x=some .cell\/(relabel scope X.env).names.lookup x=some .free)
local macro_rules|`(#[13])=>`(by decide)
local macro_rules|`(#[14])=>`(sv M m (l.tR M) (r.tR M))
local macro_rules|`(#[15])=>`(by simp)
local macro_rules|`(#[16])=>`(.lst (sd.reverse.map (rW M)++[rW M d]))
local macro_rules|`(#[17])=>`(aZ (bw kx bU (dC rfl)))
local macro_rules|`(#[18])=>`(st++[.lst (cV (sz.take i))])
local macro_rules|`(#[19])=>`((e::es).length+([]:List Keyword).length+(if ([]:List Keyword).isEmpty then 0 else 1)<30)
local macro_rules|`(#[20])=>`(bd (aa 1) aB)
local macro_rules|`(#[21])=>`(ah (ag 1) aE)
local macro_rules|`(#[22])=>`(g_ O.Kept (aa 0))
local macro_rules|`(#[23])=>`(lR M t pool L P Q (iO (i:Nat)) o8 o9 o10)
set_option hygiene true
open Array renaming length_toList→eF,getElem?_eq_getElem→eN,getElem?_toList→fN,eq_empty_of_size_eq_zero→gq,getD_eq_getD_getElem?→kU,toList_push→l7
open Bool renaming and_eq_true→dA,and_true→dM,false_ne_true→eQ,false_eq_true→fJ,not_eq_true'→hX,eq_iff_iff→iZ,or_false→mv
open Int renaming toNat_natCast→bX,natCast_add→eK,natCast_mul→iX,emod_nonneg→iY,zero_add→kW,fdiv_eq_ediv_of_nonneg→lE,emod_lt_of_pos→lJ,mul_comm→nF
open LawfulBEq renaming eq_of_beq→mQ
open List renaming length_append→ai,getElem?_eq_getElem→aj,append_assoc→al,prefix_refl→ao,getElem?_eq_some_iff→au,length_map→aD,getD_eq_getElem?_getD→aH,getElem?_map→aI,getElem?_append_left→aL,length_take→aM,mem_append_right→aR,mem_cons_of_mem→aS,mem_cons→aT,size_toArray→aU,mem_append→aW,getElem?_append_right→aX,mem_singleton→a8,map_cons→a9,map_append→bb,prefix_append→be,length_cons→bh,append_nil→bv,reverse_cons→bA,take_of_length_le→bB,mem_cons_self→bC,pairwise_cons→bZ,mem_append_left→b7,map_map→cf,length_singleton→cm,getElem?_eq_none→cn,getElem?_set_self→cv,mem_of_getElem?→cy,length_drop→cz,take_append_of_le_length→cF,getElem?_take_of_lt→cO,getElem?_set_ne→cW,mem_map→c5,flatten_append→dE,getElem_mem→dR,take_length→dS,nil_append→eJ,map_congr_left→eY,drop_eq_getElem_cons→fQ,find?_cons→fU,filterMap_cons→gj,not_mem_nil→gu,take_left→gy,eq_nil_of_length_eq_zero→gC,length_eq_one_iff→gI,drop_left'→gT,getElem?_range→iK,mem_filter→iU,nodup_cons→iV,lookup_append→i9,getElem?_replicate→jf,map_id→jh,ext_getElem?→jz,take_add_one→jB,getElem?_reverse→jJ,length_filter_le→jK,lookup_cons→jT,forIn_cons→kE,length_nil→kG,take_left'→kJ,filter_eq_self→kN,mem_range→lr,mem_filterMap→lD,nodup_append→l8,flatten_cons→l9,map_take→mx,map_drop→my,getElem_map→mS,range_succ_eq_map→nz,drop_eq_nil_of_le→nC,drop_of_length_le→nE,set_set→nG,of_mem_zip→nV,length_set→nX,set_append_right→on,dropLast_eq_take→oo,forIn_nil→pG,take_take→pM,sum_cons→qy,map_nil→sA,map_set→sF
open List.Perm renaming refl→ig,append_left→om
open Nat renaming le_of_ble_eq_true→aq,le_refl→az,le_trans→aN,lt_of_lt_of_le→aP,ne_of_lt→bf,le_succ→bt,lt_succ_self→b9,zero_le→cx,lt_succ_of_lt→cU,lt_irrefl→dL,ne_of_gt→et,le_of_lt→fZ,lt_of_le_of_lt→gJ,min_eq_left→gR,le_succ_of_le→hV,le_add_right→iu,zero_add→iz,not_lt_zero→iW,not_lt→i_,lt_of_succ_lt_succ→jA,add_assoc→j3,zero_lt_succ→mT,add_zero→sB,lt_trans→sE
open Option renaming map_eq_some_iff→fm
open Option.some renaming inj→bu
open PyProof.Rows renaming callWith_type1→dU,slot_tuple_getitem→eM,boot_tuple→fM,callWith_builtin1→jS,subscriptTail_builtinR→ny,sorted_out_str→pH,boot_sorted→pK,boot_int→pL,Constant_none→qt,strKind_oneLt→qw,keyKind_strs→sD,boot_bool→tZ
open PyProof.Rows.F renaming plain_set_update_loop→eZ,entry_set_update_loop→iJ
open PySem renaming wpAny_bind→af,wpAny_pure→ay,boot_len→bE,wpAny_callSpecial?_slot→bT,wpAny_call_entry→b_,wpAny_newObj_type→cC,wpAny_setField_rec→cE,wpAny_field→dh,wpAny_holding→dm,wpAny_loadPart'→dq,codeAny_builtin→dN,wpAny_seqItems→eu,isSubtype_type→eD,plainId_quiet→fv,wpAny_pyIter_tuple→fI,wpAny_Call_Name_kw→fK,wpAny_passesOwn→fT,wpAny_setState_of→f9,wpAny_setEntries_of→gk,wpAny_isInstance→gs,wpAny_attempt→gX,wpAny_truthy_bool→hW,codeAny_mono→iw,wpAny_typeOf→iy,wpAny_pyNext_ascii_item→jg,wpAny_pyNext_wide_item→jy,wpAny_rule→jU,wpAny_updateSeq_pair→kg,wpAny_execs_nil→kC,pushCells_keeps→kD,wpAny_mono→lv,typeIs_str→lF,wpAny_pyIter_ascii→lG,isSubtype_stop→lH,wpAny_fieldsOf→lI,wpAny_pyIter_wide→l6,wpAny_onRaise→mw,noFill_tuple_add→mP,wpAny_askSetting→mR,wpAny_Call_method_late→nD,wpAny_ite_split→nY,wpAny_updateSeq→nZ,wpAny_storeName_local→n_,wpAny_isTrue_Compare1→og,builtinLookup_eq_fast→ol,wpAny_runValue→pI,wpAny_standAt→qu,seq_tuple_add→qv,wpAny_call→qY,call_meets→qZ,concat_meets→sw,seqIndex_neg→sy,putSet_of→tY
open PySem.Around renaming under_plainId→cX
open PySem.Calls renaming spliced_cons→eR,spliced_nil→f6,callWith_builtin→gK,evalArgs_plain→ie,Name_function_global→ly,call_function_entry→lS
open PySem.F renaming slot_tuple_iterator_next→fL,args_tuple_iterator_next_1→kH,slot_zip_next→kI,entry_tuple_iterator_next→kT,slot_enumerate_next→oh
open PySem.Heap renaming get?_push_of_some→aw,get?_push_size→aC,lt_size→aJ,size_push→bx,get?_update_other→cK,get?_update_self→dI
open PySem.Heap.SameBut renaming update→iI
open PySem.SeqAt renaming str_beq→qx
open PySem.StrLaws renaming glued_eq_join→g9
open PySem.Value renaming isStrOf_shape→kM
def aF:=@if_pos
def aO:=@if_neg
def aV:=@decide_eq_false
def bn:=@decide_eq_true
def bz:=@beq_eq_false_iff_ne
def c_:=@beq_iff_eq
def f7:=@if_true
def gM:=@decide_eq_true_iff
def ic:=@congrArg
def j':=@PySem.sizeLine_eq
def ke:=@if_false
def lK:=@congrFun
def pJ:=@or_false
set_option compiler.extract_closed false
noncomputable section
variable{M:PySem.Model}{p pos iq fH p2 dH:PySem.Pos}{s:PySem.Shared}{α β:Type}{A:PySem.Around}{E Q Qv:PySem.Value->PySem.Shared->Prop}{nk n n' t' N i j kk ep q:Nat}{x:Option Nat×Option Nat}{v u:PySem.Value}{us bJ:List PySem.Value}{o e c tg ef qX:PySem.Expr}{P prog:PySem.Program}{h h' base:PySem.Heap}{ak:List (PySem.Addr×PySem.Obj)}{g':Array PySem.GenState}{ch fp μ μ':List PySem.Addr}{it C:PySem.Addr}{op:PySem.CmpOp}{K:PySem.W.Frag}{es mU wF:List PySem.Expr}{g:PySem.Value->PySem.Value->PySem.Sem PySem.Value}{f:Option Nat×Option Nat->Option Nat}{mA mg:PySem.Str->Option PySem.Value}{name fG:PySem.Str}{pl:PySem.Sem Bool}{kw:List (PySem.Str×PySem.Value)}{env:PySem.Env}{fd:PySem.FuncData}{ps ks nm:List PySem.Str}{kindOf:PySem.Str->Option PySem.NameKind}{scope:PySem.Scope}{T:String}{l m S pool:List Nat}{XP:(PySem.Str->Option PySem.Value)->PySem.Heap->Prop}{YP:PySem.World->PySem.Heap->Prop}{ns:List Int}{cl:List (PySem.Str×PySem.Addr)}{cap B:List (Option Nat)}{use:Option (PySem.Value->PySem.Sem Unit)}{ls:List (List Nat)}
open PySem.W (Frag)
open PySem.W (instObj hideAll lookIn plainGet findIn isFn makesIn emptyDict keepIn kia_one fnOf codeIn excIn nsIn mg_of mg_none_of)
namespace L2
open PySem PySem.Spec PyProof.Rows
theorem yy{Γ:PySem.Ctx}{t:Sem Fin}{fs:List Frame}{s':Shared}{e:End}(h:Runs M Γ p t fs s e s'):s.toks<=s'.toks:=by
 induction h
 case fresh ih=>exact aN (bt _) ih
 case call i1 i2=>exact aN i1 i2
 case resumeFresh i1 i2=>exact aN i1 i2
 case resumeSuspended i1 i2=>exact aN i1 i2
 case segRet i1 i2=>exact aN i1 i2
 case segGen i1 i2=>exact aN i1 i2
 case segSuspGen i1 i2=>exact aN i1 i2
 all_goals first|exact az _|assumption
theorem FC{Γ:PySem.Ctx}{g:Nat}{r:Resume}{s':Shared}{res:GenResult}(h:Wakes M Γ p g r s res s'):s.toks<=s'.toks:=by
 unfold Wakes at h
 split at h
 ·exact h.elim
 ·split at h
  ·obtain⟨e,s1,h1,_,_,rfl⟩:=h;have q:=yy h1;exact q
  ·rw[h.2];exact az _
  ·rw[h.2];exact az _
 ·obtain⟨e,s1,h1,_,_,rfl⟩:=h;have q:=yy h1;exact q
 ·rw[h.2];exact az _
 ·rw[h.2];exact az _
theorem P8{Γ:PySem.Ctx}(n:Nat)(m:Sem α):∀{Q:α->Pos->Shared->Prop} {E:Value->Pos->Shared->Prop} {p:Pos} {s:Shared},n<=s.toks->Sem.wp M Γ m Q E p s ->
  Sem.wp M Γ m (fun a p' s'=>n<=s'.toks/\Q a p' s') (fun e p' s'=>n<=s'.toks/\E e p' s') p s:=by
 induction m
 all_goals intro Q E p s hn h
 all_goals (first|(rename_i ih)|skip)
 all_goals (try simp only[Sem.wp]at h ⊢)
 all_goals first
  |exact⟨hn,h⟩
  |exact ih _ hn h
  |exact ih _ (hV hn) h
  |(obtain⟨o,h1,h2⟩:=h;exact⟨o,h1,ih _ hn h2⟩)
  |exact⟨h.1,ih _ hn h.2⟩
  |(obtain⟨r,s',h1,h2⟩:=h;exact⟨r,s',h1,ih _ (aN hn (yy h1)) h2⟩)
  |(obtain⟨r,s',h1,h2⟩:=h;exact⟨r,s',h1,ih _ (aN hn (FC h1)) h2⟩)
theorem up{m:Sem α}{Q:α->Shared->Prop}(h:wpAny M A m (fun a s'=>s.toks<=s'.toks->Q a s') (fun e s'=>s.toks<=s'.toks->E e s') s):wpAny M A m Q E s:=fun Γ p hΓ=>
 Sem.wp_mono M Γ m (fun a p' s' h'=>h'.2 h'.1) (fun e p' s' h'=>h'.2 h'.1) p s (P8 s.toks m (az _) (h Γ p hΓ))
end L2
namespace L2
open PySem PySem.Spec PyProof.Rows
abbrev mz:=Sum Int Str
def xw:mz->Value->Bool
 |.inl k,v=>Value.isInt k v
 |.inr x,v=>Value.isStrOf x v
def TH(w:World):mz->Int
 |.inl k=>hashInt k
 |.inr x=>hashStr w x
theorem fW:∀{k:mz} {v:Value},xw k v=true->(∃i t,k=Sum.inl i/\v=Value.int i t)\/(∃x t,k=Sum.inr x/\v=Value.str x t)
 |.inl i,v,h=>by
  obtain⟨t,e⟩:=Value.isInt_shape (k:=i) (v:=v) h
  exact .inl ⟨i,t,rfl,e⟩
 |.inr x,v,h=>by
  obtain⟨t,e⟩:=kM (x:=x) (v:=v) h
  exact .inr ⟨x,t,rfl,e⟩
theorem Ei(i:Int)(t:Tok):xw (.inl i) (.int i t)=true:=by simp[xw,Value.isInt]
theorem Ej(x:Str)(t:Tok):xw (.inr x) (.str x t)=true:=by simp[xw,Value.isStrOf]
theorem MG(a b:Int):decide ((Sum.inl a:mz)=Sum.inl b)=(a==b):=by
 by_cases e:a=b
 ·subst e;simp
 ·have h:¬ (Sum.inl a:mz)=Sum.inl b:=fun q=>e (Sum.inl.inj q)
  rw[aV h]
  exact(bz.mpr e).symm
theorem MH(a b:Str):decide ((Sum.inr a:mz)=Sum.inr b)=decide (a=b):=by
 by_cases e:a=b
 ·subst e;simp
 ·have h:¬ (Sum.inr a:mz)=Sum.inr b:=fun q=>e (Sum.inr.inj q)
  rw[aV h,aV e]
theorem MI(a:Int)(b:Str):decide ((Sum.inl a:mz)=Sum.inr b)=false:=aV (fun q=>nomatch q)
theorem MJ(a:Str)(b:Int):decide ((Sum.inr a:mz)=Sum.inl b)=false:=aV (fun q=>nomatch q)
def gD(prog:Program)(w:World):PySem.KeyKind prog w mz where
 is:=xw
 hash:=TH w
 inj:=fun v a b ha hb=>by
  rcases fW ha with⟨i,t,rfl,rfl⟩|⟨x,t,rfl,rfl⟩
  ·rcases fW hb with⟨j,u,rfl,e⟩|⟨y,u,rfl,e⟩
   ·injection e with e1 _;rw[e1]
   ·exact nomatch e
  ·rcases fW hb with⟨j,u,rfl,e⟩|⟨y,u,rfl,e⟩
   ·exact nomatch e
   ·injection e with e1 _;rw[e1]
 byValue:=fun k v h=>by
  rcases fW h with⟨i,t,rfl,rfl⟩|⟨x,t,rfl,rfl⟩<;>rfl
 pyHash:=fun hv h=>by
  rcases fW hv with⟨i,t,rfl,rfl⟩|⟨x,t,rfl,rfl⟩
  ·exact wpAny_pyHash_int h
  ·exact wpAny_pyHash_str h
 eqBool:=fun hu hv h=>by
  rcases fW hu with⟨i,t,rfl,rfl⟩|⟨x,t,rfl,rfl⟩
  ·rcases fW hv with⟨j,u,rfl,rfl⟩|⟨y,u,rfl,rfl⟩
   ·rw[MG]at h;exact wpAny_eqBool_int h
   ·rw[MI]at h;exact SeqAt.EqAt.int_str i t y u _ _ _ _ h
  ·rcases fW hv with⟨j,u,rfl,rfl⟩|⟨y,u,rfl,rfl⟩
   ·rw[MJ]at h;exact SeqAt.EqAt.str_int x t j u _ _ _ _ h
   ·rw[MH]at h;exact wpAny_eqBool_str h
 «strs»:=fun k x t v h=>by
  rcases fW h with⟨i,u,rfl,e⟩|⟨y,u,rfl,e⟩
  ·exact nomatch e
  ·injection e with e1 _
   subst e1
   cases v<;>rfl
theorem Ab(prog:Program)(w:World)(i:Int)(t:Tok):(gD prog w).is (.inl i) (.int i t)=true:=Ei i t
theorem Ac(prog:Program)(w:World)(x:Str)(t:Tok):(gD prog w).is (.inr x) (.str x t)=true:=Ej x t
end L2
namespace L2
open PySem PySem.Spec PyProof.Rows
inductive V where
 |non|bl (b:Bool)|int (i:Int)|str (x:Str)|byt (b:Array UInt8)|flt (b:UInt64)|ref (a:Addr)|ty (n:String)
 deriving DecidableEq
def Tk(n:Nat)(x:Str):Type:={ t:Tok // x.length=1->0<t/\t<n }
instance {n:Nat} {x:Str}:CoeOut (Tk n x) Tok:=⟨fun t=>t.1⟩
def Tk.up{x:Str}(h:n<=n')(t:Tk n x):Tk n' x:=⟨t.1,fun e=>⟨(t.2 e).1,aP (t.2 e).2 h⟩⟩
def c8(n:Nat):V->Value->Prop
 |.non,u=>u=Value.none
 |.bl b,u=>u=Value.bool b
 |.int i,u=>∃t,u=Value.int i t
 |.str x,u=>∃t:Tk n x,u=Value.str x t.1
 |.byt b,u=>∃t,u=Value.bytes b t
 |.flt b,u=>∃t,u=Value.float b t
 |.ref a,u=>u=Value.ref a
 |.ty n,u=>u=Value.type n
theorem c8.up(h:n<=n'){v:V}(r:c8 n v u):c8 n' v u:=by
 cases v with
 |str x=>obtain⟨t,e⟩:=r;exact⟨t.up h,e⟩
 |_=>exact r
abbrev cL(n:Nat):List V->List Value->Prop:=Paired (c8 n)
theorem cL.up(h:n<=n'):∀{xs:List V} {us:List Value},cL n xs us->cL n' xs us
 |_,_,.nil=>.nil
 |_,_,.cons r t=>.cons (r.up h) (cL.up h t)
theorem cL.length{xs:List V}(r:cL nk xs us):xs.length=us.length:=Paired.length r
theorem cL.get:∀{xs:List V} {us:List Value} {i:Nat} {x:V},cL nk xs us->xs[i]?=some x->∃u,us[i]?=some u/\c8 nk x u
 |_,_,_,_,.nil,e=>by simp at e
 |_,_,0,_,.cons r _,e=>by simp at e;subst e;exact⟨_,rfl,r⟩
 |_,_,i+1,x,.cons _ t,e=>by
  obtain⟨u,h1,h2⟩:=cL.get (i:=i) (x:=x) t (by simpa using e)
  exact⟨u,by simpa using h1,h2⟩
theorem cL.set{x:V}(r:c8 nk x u):∀{xs:List V} {us:List Value} (i:Nat),cL nk xs us->cL nk (xs.set i x) (us.set i u)
 |_,_,_,.nil=>.nil
 |_,_,0,.cons _ t=>.cons r t
 |_,_,i+1,.cons q t=>.cons q (cL.set r i t)
theorem cL.append:∀{xs ys:List V} {us ws:List Value},cL nk xs us->cL nk ys ws->cL nk (xs++ys) (us++ws)
 |_,_,_,_,.nil,s=>s
 |_,_,_,_,.cons r t,s=>.cons r (cL.append t s)
theorem cL.take:∀{xs:List V} {us:List Value} (n:Nat),cL nk xs us->cL nk (xs.take n) (us.take n)
 |_,_,0,_=>.nil
 |_,_,_+1,.nil=>.nil
 |_,_,n+1,.cons r t=>.cons r (cL.take n t)
theorem cL.drop:∀{xs:List V} {us:List Value} (n:Nat),cL nk xs us->cL nk (xs.drop n) (us.drop n)
 |_,_,0,r=>r
 |_,_,_+1,.nil=>.nil
 |_,_,n+1,.cons _ t=>cL.drop n t
def sJ(n:Nat):Option V->Option Value->Prop
 |some v,some u=>c8 n v u
 |none,none=>True
 |_,_=>False
theorem sJ.up(h:n<=n'):∀{o:Option V} {u:Option Value},sJ n o u->sJ n' o u
 |some _,some _,r=>c8.up h r
 |none,none,_=>trivial
 |none,some _,r=>r
 |some _,none,r=>r
def KV{κ:Type}(n:Nat):List (κ×V)->List (κ×Value)->Prop:=Paired fun(p:κ×V) (q:κ×Value)=>p.1=q.1/\c8 n p.2 q.2
def kV:mz->V
 |.inl i=>.int i
 |.inr x=>.str x
inductive HO where
 /-- a list -/
 |lst (xs:List V)
 /-- a tuple (never changes) -/
 |tup (xs:List V)
 /-- a dict whose keys are ints and texts;one whose keys are tuples of ints and texts (the empty one is both) -/
 |dK (kvs:List (mz×V))|dT (kvs:List (List mz×V))
 /-- a set of ints: bJ members,bJ size -/
 |set (S:Int->Bool) (n:Nat)
 /-- an instance of the class at C,bJ dict at dx,bJ attributes -/
 |ins (C dx:Addr) (fs:List (Str×V))
 /-- the dict of the instance at x -/
 |own (x:Addr)
 /-- the dict of an exception -/
 |xd (fs:List (Str×V))
 /-- a bound method,f of x -/
 |met (f x:Addr)
 /-- a range object lo,lo+1,.. below hi -/
 |rng (lo hi:Int)
 /-- a thing that is known to the object (the script;a dict while a loop walks it): read,never written while it is so -/
 |frz (o:Obj) (u:HO)
 /-- a code object's table -/
 |tbl (ps:Array Value)
 /-- any other thing,by what is true of bJ one object (a def of Vl own: SetO a S n:=HO.ext fun h=>..) -/
 |ext (φ:Heap->Prop)
abbrev Hp:=Addr->Option HO
def f_(H:Hp)(a:Addr)(o:HO):Hp:=fun b=>if b=a then some o else H b
theorem gN{H:Hp}{a:Addr}{o:HO}:f_ H a o a=some o:=by unfold f_;rw[aF rfl]
theorem df{H:Hp}{a b:Addr}{o:HO}(h:b≠a):f_ H a o b=H b:=by unfold f_;rw[aO h]
theorem P9{H:Hp}{a b:Addr}{o u:HO}(h:H a=some o)(h':H b=some u)(d:o≠u):a≠b:=by
 intro e;subst e;rw[h]at h';exact d (bu h')
theorem fz{H:Hp}{a b:Addr}{o:HO}(h:H a=some o)(h':H b=none):a≠b:=by
 intro e;subst e;rw[h]at h';cases h'
section
variable(P:Program)(w:World)
def fA(n:Nat)(H:Hp)(h:Heap)(a:Addr):HO->Prop
 |.lst xs=>xs.length<=sizeLine/\∃(bJ:List Value) (m:Nat),cL n xs bJ/\h.get? a=some { cls:=.type "list",data:=.seq bJ.toArray m }
 |.tup xs=>xs.length<=sizeLine/\∃bJ:List Value,cL n xs bJ/\IsTup h a bJ.toArray
 |.dK kvs=>kvs.length<=sizeLine/\(a==sysModules)=false/\∃vs,KV n kvs vs/\h.DictOf (gD P w) a vs
 |.dT kvs=>kvs.length<=sizeLine/\(a==sysModules)=false/\∃xs:List (List mz×Addr×Value),
   Paired (fun(p:List mz×V) (q:List mz×Addr×Value)=>p.1=q.1/\H q.2.1=some (.tup (p.1.map kV))/\c8 n p.2 q.2.2) kvs xs /\
   ∃o es ep,h.get? a=some o/\o.ExactDict/\o.data=.dict es ep/\es.toList=xs.map (entryOfKey (tupleKind (gD P w)))/\(xs.map (·.1)).Nodup
 |.set S m=>h.SetOf (intKind P w) a S m
 |.ins C dx fs=>H dx=some (.own a)/\fs.length<=1000/\dx≠a/\h.get? a=some (instObj C dx) /\
   ∃mA,h.Ns1 dx mA/\(∀f,sJ n (fs.lookup f) (mA f))/\PySem.Within mA (fs.map (·.1))
 |.own _=>∃o,h.get? a=some o
 |.xd fs=>∃mA,h.Ns1 a mA/\∀f,sJ n (fs.lookup f) (mA f)
 |.rng lo hi=>∃t u v,h.get? a=some { cls:=.type "range",data:=.fields #[.int lo t,.int hi u,.int 1 v] }
 |.frz o u=>h.get? a=some o/\fA n H h a u
 |.tbl ps=>h.get? a=some { cls:=.none,data:=.fields ps }
 |.met f x=>h.get? a=some (PySem.W.methodObj (.ref f) (.ref x))
 |.ext φ=>φ h/\(∃o,h.get? a=some o)/\∀h1 h2:Heap,φ h1->(∀o,h1.get? a=some o->h2.get? a=some o)->φ h2
def pN(n:Nat)(H:Hp)(h:Heap):Prop:=∀a o,H a=some o->fA P w n H h a o
end
section
variable{w:World}{H H':Hp}{a:Addr}{o:HO}
theorem fA.lt(x:fA P w nk H h a o):a<h.objs.size:=by
 cases o with
 |lst xs=>obtain⟨_,_,_,_,e⟩:=x;exact aJ e
 |tup xs=>obtain⟨_,_,_,p⟩:=x;exact p.lt
 |dK kvs=>obtain⟨_,_,_,_,o,_,_,e,_⟩:=x;exact aJ e
 |dT kvs=>obtain⟨_,_,_,_,o,_,_,e,_⟩:=x;exact aJ e
 |set S n=>obtain⟨o,_,_,_,e,_⟩:=x;exact aJ e
 |ins C dx fs=>obtain⟨_,_,_,e,_⟩:=x;exact aJ e
 |own y=>obtain⟨_,e⟩:=x;exact aJ e
 |xd fs=>obtain⟨_,⟨_,_,_,e,_⟩,_⟩:=x;exact aJ e
 |rng lo hi=>obtain⟨_,_,_,e⟩:=x;exact aJ e
 |frz ob u=>obtain⟨e,_⟩:=x;exact aJ e
 |tbl ps=>exact aJ (show h.get? a=some _ from x)
 |met f y=>exact aJ (show h.get? a=some _ from x)
 |ext φ=>obtain⟨_,⟨_,e⟩,_⟩:=x;exact aJ e
theorem Paired.mapP{F G:α->β->Prop}:∀{l₁:List α} {l₂:List β},Paired F l₁ l₂->(∀a b,F a b->G a b)->Paired G l₁ l₂
 |_,_,.nil,_=>.nil
 |_,_,.cons r t,f=>.cons (f _ _ r) (Paired.mapP t f)
theorem Paired.imp'{F G:α->β->Prop}(f:∀a b,F a b->G a b){l₁:List α}{l₂:List β}(r:Paired F l₁ l₂):Paired G l₁ l₂:=Paired.mapP r f
theorem fA.stay(x:fA P w nk H h a o)(k:∀b u,(b=a\/H b=some (.own a))->h.get? b=some u->h'.get? b=some u)
  (ho:∀b,H b=some (.own a)->H' b=some (.own a)) (ht:∀b xs,H b=some (.tup xs)->H' b=some (.tup xs)):fA P w nk H' h' a o:=by
 induction o with
 |lst xs=>obtain⟨z,bJ,n,r,e⟩:=x;exact⟨z,bJ,n,r,k _ _ (.inl rfl) e⟩
 |tup xs=>obtain⟨z,bJ,r,ob,e,c⟩:=x;exact⟨z,bJ,r,ob,k _ _ (.inl rfl) e,c⟩
 |dK kvs=>obtain⟨z,y,vs,r,ob,es,ep,e,c⟩:=x;exact⟨z,y,vs,r,ob,es,ep,k _ _ (.inl rfl) e,c⟩
 |dT kvs=>
  obtain⟨z,y,xs,r,ob,es,ep,e,c⟩:=x
  exact⟨z,y,xs,Paired.mapP r fun p q z=>⟨z.1,ht _ _ z.2.1,z.2.2⟩,ob,es,ep,k _ _ (.inl rfl) e,c⟩
 |set S n=>obtain⟨ob,es,ep,t,e,c⟩:=x;exact⟨ob,es,ep,t,k _ _ (.inl rfl) e,c⟩
 |ins C dx fs=>
  obtain⟨d,z,ne,e,mA,⟨od,es,ep,e2,c⟩,r⟩:=x
  exact⟨ho _ d,z,ne,k _ _ (.inl rfl) e,mA,⟨od,es,ep,k _ _ (.inr d) e2,c⟩,r⟩
 |own y=>obtain⟨ob,e⟩:=x;exact⟨ob,k _ _ (.inl rfl) e⟩
 |xd fs=>obtain⟨mA,⟨od,es,ep,e,c⟩,r⟩:=x;exact⟨mA,⟨od,es,ep,k _ _ (.inl rfl) e,c⟩,r⟩
 |rng lo hi=>obtain⟨t,u,v,e⟩:=x;exact⟨t,u,v,k _ _ (.inl rfl) e⟩
 |frz ob u ih=>obtain⟨e,q⟩:=x;exact⟨k _ _ (.inl rfl) e,ih q⟩
 |tbl ps=>
  have e:h.get? a=some { cls:=.none,data:=.fields ps }:=x
  show h'.get? a=some { cls:=.none,data:=.fields ps }
  exact k a _ (.inl rfl) e
 |met f y=>
  have e:h.get? a=some (PySem.W.methodObj (.ref f) (.ref y)):=x
  show h'.get? a=some (PySem.W.methodObj (.ref f) (.ref y))
  exact k a _ (.inl rfl) e
 |ext φ=>obtain⟨p,⟨o,e⟩,st⟩:=x;exact⟨st _ _ p fun o q=>k _ _ (.inl rfl) q,⟨o,k _ _ (.inl rfl) e⟩,st⟩
theorem Paired.upR(h:n<=n'){κ:Type}{l₁:List (κ×V)}{l₂:List (κ×Value)}(r:KV n l₁ l₂):KV n' l₁ l₂:=Paired.mapP r fun _ _ z=>⟨z.1,z.2.up h⟩
theorem fA.up(hn:nk<=n')(x:fA P w nk H h a o):fA P w n' H h a o:=by
 induction o with
 |lst xs=>obtain⟨z,bJ,n,r,e⟩:=x;exact⟨z,bJ,n,r.up hn,e⟩
 |tup xs=>obtain⟨z,bJ,r,ob⟩:=x;exact⟨z,bJ,r.up hn,ob⟩
 |dK kvs=>obtain⟨z,y,vs,r,ob⟩:=x;exact⟨z,y,vs,Paired.upR hn r,ob⟩
 |dT kvs=>obtain⟨z,y,xs,r,ob⟩:=x;exact⟨z,y,xs,Paired.mapP r fun p q z=>⟨z.1,z.2.1,z.2.2.up hn⟩,ob⟩
 |ins C dx fs=>obtain⟨d,z,ne,e,mA,c,r,q⟩:=x;exact⟨d,z,ne,e,mA,c,fun f=>(r f).up hn,q⟩
 |xd fs=>obtain⟨mA,c,r⟩:=x;exact⟨mA,c,fun f=>(r f).up hn⟩
 |frz ob u ih=>obtain⟨e,q⟩:=x;exact⟨e,ih q⟩
 |_=>exact x
theorem pN.up(hn:nk<=n')(x:pN P w nk H h):pN P w n' H h:=fun a o e=>(x a o e).up hn
theorem pN.lt(x:pN P w nk H h)(e:H a=some o):a<h.objs.size:=(x a o e).lt
theorem pN.fresh(x:pN P w nk H h)(e:h.objs.size<=a):H a=none:=by
 cases q:H a with
 |none=>rfl
 |some u=>exact absurd (aP (x.lt q) e) (dL _)
theorem pN.kept(x:pN P w nk H h)(k:∀b u,h.get? b=some u->h'.get? b=some u):pN P w nk H h':=fun a o e=>
 (x a o e).stay (fun b u _ q=>k b u q) (fun _ q=>q) fun _ _ q=>q
theorem pN.laid(x:pN P w nk H h)(k:∀b u,h.get? b=some u->h'.get? b=some u)(hp:h.objs.size<=a)(new:fA P w nk (f_ H a o) h' a o):pN P w nk (f_ H a o) h':=fun b u e=>by
 have hn:=x.fresh hp
 by_cases hb:b=a
 ·subst hb;rw[gN]at e;cases e;exact new
 ·rw[df hb]at e
  exact(x b u e).stay (fun c v _ q=>k c v q) (fun c q=>by rw[df (fz q hn)];exact q) fun c xs q=>by rw[df (fz q hn)];exact q
end
def Rd(H:Hp)(a:Addr)(u:HO):Prop:=H a=some u\/∃o,H a=some (.frz o u)
theorem Rd.ok{w:World}{H:Hp}{a:Addr}{u:HO}(r:Rd H a u)(x:pN P w nk H h):fA P w nk H h a u:=by
 rcases r with r|⟨o,r⟩
 ·exact x a u r
 ·obtain⟨_,q⟩:=x a _ r
  exact q
def P_:Option HO->Prop
 |some (.lst _)=>True
 |some (.dK _)=>True
 |some (.dT _)=>True
 |some (.set _ _)=>True
 |some (.ins _ _ _)=>True
 |some (.ext _)=>True
 |_=>False
section
variable{w:World}{H:Hp}{x e:Addr}{o':HO}
theorem pN.write(ok:pN P w nk H h)(mu:P_ (H x))(he:e=x\/H e=some (.own x))(k:∀b u,b≠e->h.get? b=some u->h'.get? b=some u)(P7:∃u,h'.get? e=some u)
  (new:fA P w nk (f_ H x o') h' x o'):pN P w nk (f_ H x o') h':=fun b u q=>by
 have nown:∀c y,H c=some (.own y)->c≠x:=fun c y r z=>by subst z;rw[r]at mu;exact mu
 have ntup:∀c xs,H c=some (.tup xs)->c≠x:=fun c xs r z=>by subst z;rw[r]at mu;exact mu
 by_cases hb:b=x
 ·subst hb;rw[gN]at q;cases q;exact new
 ·rw[df hb]at q
  by_cases hbe:b=e
  ·have q':H b=some (.own x):=by
    rcases he with z|z
    ·exact absurd (hbe.trans z) hb
    ·rw[hbe];exact z
   rw[q]at q';cases q'
   obtain⟨v,hv⟩:=P7
   exact⟨v,by rw[hbe];exact hv⟩
  ·refine(ok b u q).stay (fun c v hc r=>k c v ?_ r) (fun c r=>by rw[df (nown c b r)];exact r) fun c xs r=>by rw[df (ntup c xs r)];exact r
   rcases hc with rfl|hc
   ·exact hbe
   ·rintro rfl
    rcases he with z|z
    ·exact nown c b hc z
    ·rw[hc]at z;cases z;exact hb rfl
end
structure Un(fs ex:List Addr)(H H':Hp)(h h':Heap):Prop where
 keep:∀b o,h.get? b=some o->H b=none->b∉fs->b∉ex->h'.get? b=some o
 slot:∀b o,h.get? b=some o->H b=none->b∈fs->b∉ex->∃sl,h'.get? b=some { o with slots:=sl }
 free:∀b o,h.get? b=some o->H b=none->b∉ex->H' b=none
 there:∀b o,h.get? b=some o->b∉ex->∃o',h'.get? b=some o'
 tups:∀b xs,H b=some (.tup xs)->H' b=some (.tup xs)
 frzs:∀b o u,H b=some (.frz o u)->H' b=some (.frz o u)
 tbls:∀b ps,H b=some (.tbl ps)->∃more,H' b=some (.tbl (ps++more))
section
variable{fs SL ex VI:List Addr}{H H1 H2:Hp}{h1 h2:Heap}{a x e:Addr}{o:HO}
theorem Un.any(u:Un fs ex H H1 h h1){b:Addr}{ob:Obj}(q:h.get? b=some ob)(n:H b=none)(hx:b∉ex):∃sl,h1.get? b=some { ob with slots:=sl }:=by
 by_cases hb:b∈fs
 ·exact u.slot b ob q n hb hx
 ·exact⟨ob.slots,u.keep b ob q n hb hx⟩
theorem Un.kept(k:∀b u,h.get? b=some u->h'.get? b=some u):Un fs ex H H h h':=
 ⟨fun b ob q _ _ _=>k b ob q,fun b ob q _ _ _=>⟨ob.slots,k b ob q⟩,fun _ _ _ n _=>n,fun b ob q _=>⟨ob,k b ob q⟩,fun _ _ q=>q,fun _ _ _ q=>q,fun _ ps q=>⟨#[],by rw[q];simp⟩⟩
theorem Un.refl:Un fs ex H H h h:=Un.kept fun _ _ q=>q
theorem Un.laid(k:∀b u,h.get? b=some u->h'.get? b=some u)(hp:h.objs.size<=a)(hn:H a=none):Un fs ex H (f_ H a o) h h' where
 keep:=fun b u q _ _ _=>k b u q
 slot:=fun b u q _ _ _=>⟨u.slots,k b u q⟩
 free:=fun b u q n _=>by rw[df (bf (aP (aJ q) hp))];exact n
 there:=fun b u q _=>⟨u,k b u q⟩
 tups:=fun b xs q=>by rw[df (fz q hn)];exact q
 frzs:=fun b u xs q=>by rw[df (fz q hn)];exact q
 tbls:=fun b ps q=>⟨#[],by rw[df (fz q hn),q];simp⟩
theorem Un.write(mu:P_ (H x))(he:e=x\/H e=some (.own x))(k:∀b u,b≠e->h.get? b=some u->h'.get? b=some u)(P7:∃u,h'.get? e=some u):Un fs ex H (f_ H x o) h h':=by
 have hx:∀b,H b=none->b≠x:=fun b n z=>by subst z;rw[n]at mu;exact mu
 have hb:∀b,H b=none->b≠e:=fun b n z=>by
  subst z
  rcases he with r|r
  ·exact hx b n r
  ·rw[n]at r;cases r
 have hm:∀b u,H b=some u->¬ P_ (some u)->b≠x:=fun b u q nm z=>by subst z;rw[q]at mu;exact nm mu
 refine⟨fun b u q n _ _=>k b u (hb b n) q,fun b u q n _ _=>⟨u.slots,k b u (hb b n) q⟩,fun b u q n _=>by rw[df (hx b n)];exact n,fun b u q _=>?_,
  fun b xs q=>by rw[df (hm b _ q fun z=>z)];exact q,fun b u xs q=>by rw[df (hm b _ q fun z=>z)];exact q,fun b ps q=>⟨#[],by rw[df (hm b _ q fun z=>z),q];simp⟩⟩
 by_cases hbe:b=e
 ·subst hbe;exact P7
 ·exact⟨u,k b u hbe q⟩
end
def S7(h:Heap)(H:Hp):List Addr:=(List.range h.objs.size).filter fun a=>(H a).isSome
def yz(h:Heap)(H:Hp):Heap:=hideAll h (S7 h H)
theorem Ek(h:Heap)(H:Hp):(yz h H).objs.size=h.objs.size:=PySem.W.hideAll_size _ _
theorem FD{H:Hp}{b:Addr}{o:Obj}(e:h.get? b=some o)(n:H b=none):(yz h H).get? b=some o:=
 PySem.W.hideAll_get _ e fun hm=>by
  have q:(H b).isSome=true:=(iU.mp hm).2
  rw[n]at q;simp at q
theorem JD{H:Hp}{b:Addr}{o:Obj}(e:(yz h H).get? b=some o):h.get? b=some o/\H b=none:=by
 have e':h.get? b=some o:=PySem.W.of_hideAll (S7 h H) e
 refine⟨e',?_⟩
 cases q:H b with
 |none=>rfl
 |some x=>
  have hm:b∈S7 h H:=iU.mpr ⟨lr.mpr (aJ e'),by simp[q]⟩
  have z:(yz h H).get? b=none:=PySem.W.hideAll_none (S7 h H) hm
  rw[z]at e;cases e
def JE(g h:Heap)(L:Addr):List (Addr×Obj):=(List.range h.objs.size).filterMap fun a=>if a=L\/(g.get? a).isSome=true then none else(h.get? a).map fun o=>(a,o)
def iF(g h:Heap)(L d:Addr):List (Addr×Obj):=(JE g h L).filter fun p=>decide (p.1≠d)
end L2
variable{xs vs:List L2.V}{H H':L2.Hp}
namespace L2
open PySem PySem.Spec PyProof.Rows
structure Mod(K:Frag)(mg:Str->Option Value)(base:Heap):Prop where
 kin:K.In base
 glob:base.Ns mainGlobals mg
 blt:∃mb,base.Ns builtinsNs mb/\∀x:Str,x ≠ "__name__"->mb x=bootBuiltins x
 nolimit:base.NoLimit
structure Cx where
 prog:Program
 w:World
 K:Frag
 mg:Str->Option Value
 base:Heap
 A:Around
 N:List Str
 s₀:Shared
 H₀:Hp
 env:Env
 outer:List Env
 stack:List Env
 ex:List Addr
 fn:Str->Bool
 calm:Bool
 pn:List (Addr×Obj)
 xe:Value->Shared->Prop
def uV(l:List Env):List Addr:=l.filterMap (·.frame)
abbrev Cx.fs(X:Cx):List Addr:=uV X.outer
def P'(sc:Scope)(x:Str):Prop:=sc.names.lookup x=some .local\/sc.names.lookup x=some .cell\/sc.names.lookup x=some .free
def JF(sc:Scope)(x:Str):Prop:=sc.names.lookup x=some .local\/sc.names.lookup x=some .cell
def TJ(env:Env)(h:Heap)(m:Str->Option Value)(x:Str)(u:Value):Prop:=
 (env.kindOf x=some .local/\m x=some u)\/((env.kindOf x=some .cell\/env.kindOf x=some .free)/\∃c,env.cells.lookup x=some c/\h.IsCell c (some u))
structure Cx.Ok(X:Cx):Prop where
 mod:Mod X.K X.mg X.base
 kind:X.env.scope.kind=.function
 glob:X.env.globals=mainGlobals
 blt:X.env.builtins=builtinsNs
 above:X.s₀.heap.objs.size<=X.env.locals
 inj:∀x y c,X.env.cells.lookup x=some c->X.env.cells.lookup y=some c->x=y
 has:∀x,(X.env.kindOf x=some .cell\/X.env.kindOf x=some .free)->∃c,X.env.cells.lookup x=some c
 cab:∀x c,X.fn x=true->X.env.cells.lookup x=some c->X.s₀.heap.objs.size<=c
 hd:X.calm=true->X.A.handled=none
 frames:X.A.frames=some X.stack
 stk:X.stack=X.outer\/(X.stack=X.env::X.outer/\X.env.frame=some X.env.locals)
 exf:∀b∈X.ex,b≠X.env.locals/\∀x c,X.env.cells.lookup x=some c->c≠b
 bs:∀b o,X.base.get? b=some o->X.s₀.heap.get? b=some o/\X.H₀ b=none
 bsz:X.base.objs.size<=X.s₀.heap.objs.size
 noex:∀b o,X.base.get? b=some o->b∉X.ex
 exfs:∀b∈X.ex,b∉X.fs
 funs:X.s₀.heap.FunFrames X.base X.outer
 frf:∀b∈X.fs,X.H₀ b=none
structure bQ(X:Cx)(ak:List (Addr×Obj))(σ:List (Option V))(H:Hp)(s:Shared):Prop where
 ok:X.Ok
 os:s.os=X.s₀.os
 bare:AllBare s.gens
 base:Un X.fs X.ex X.H₀ H X.s₀.heap s.heap
 loc:∃m,s.heap.Ns X.env.locals m/\∀(i:Nat) (x:Str) (v:V),X.N[i]?=some x->σ[i]?=some (some v)->P' X.env.scope x->∃u,c8 s.toks v u/\TJ X.env s.heap m x u
 cell:∀x c,X.env.cells.lookup x=some c->∃v,s.heap.IsCell c v
 free:H X.env.locals=none
 freeC:∀x c,X.env.cells.lookup x=some c->H c=none
 pin:∀p∈X.pn++ak,s.heap.get? p.1=some p.2/\H p.1=none/\p.1≠X.env.locals/\p.1∉X.fs/\∀v,p.2.data≠.cell v
 hok:pN X.prog X.w s.toks H s.heap
 len:σ.length=X.N.length
 pos:0<s.toks
 tk:X.s₀.toks<=s.toks
section
variable{X:Cx}{σ:List (Option V)}
theorem Cx.Ok.nofr(ok:X.Ok){b:Addr}{o:Obj}(e:X.base.get? b=some o):b∉X.fs:=fun hb=>by
 have:=(ok.funs.mem hb).1
 rw[e]at this;cases this
theorem bQ.bs(I:bQ X ak σ H s):∀b o,X.base.get? b=some o->s.heap.get? b=some o/\H b=none:=fun b o e=>
 ⟨I.base.keep b o (I.ok.bs b o e).1 (I.ok.bs b o e).2 (I.ok.nofr e) (I.ok.noex b o e),I.base.free b o (I.ok.bs b o e).1 (I.ok.bs b o e).2 (I.ok.noex b o e)⟩
theorem bQ.bk(I:bQ X ak σ H s):∀b o,X.base.get? b=some o->s.heap.get? b=some o:=fun b o e=>(I.bs b o e).1
theorem bQ.mod(I:bQ X ak σ H s):Mod X.K X.mg X.base:=I.ok.mod
theorem bQ.kIn(I:bQ X ak σ H s):X.K.In s.heap:=I.ok.mod.kin.keeps I.bk
theorem bQ.lt(I:bQ X ak σ H s):X.env.locals<s.heap.objs.size:=let ⟨_,hn,_⟩:=I.loc;hn.lt
theorem bQ.sz(I:bQ X ak σ H s):X.s₀.heap.objs.size<=s.heap.objs.size:=aN I.ok.above (fZ I.lt)
theorem bQ.nofs(I:bQ X ak σ H s){a:Addr}(h:s.heap.objs.size<=a):a∉X.fs:=fun hb=>by
 obtain⟨_,o,ho,_⟩:=I.ok.funs.mem hb
 exact absurd (aP (aJ ho) (aN I.sz h)) (dL _)
theorem bQ.cne(I:bQ X ak σ H s):∀x c,X.env.cells.lookup x=some c->c≠X.env.locals:=fun x c e z=>by
 obtain⟨v,o,ho,hd⟩:=I.cell x c e
 obtain⟨m,⟨o',es,ep,ho',hd',_⟩,_⟩:=I.loc
 rw[z,ho']at ho;cases ho;rw[hd']at hd;cases hd
theorem bQ.funs(I:bQ X ak σ H s):s.heap.FunFrames X.base X.outer:=by
 have all:∀(l:List Env),(∀b∈uV l,b∈X.fs)->X.s₀.heap.FunFrames X.base l->s.heap.FunFrames X.base l:=by
  intro l
  induction l with
  |nil=>intro _ _;trivial
  |cons env r ih=>
   intro hs hl
   obtain⟨hk,⟨L,o,hf,hn,ho,hd⟩,hr⟩:=hl
   have hL:L∈X.fs:=hs L (by unfold uV;rw[gj,hf];exact bC)
   obtain⟨sl,e⟩:=I.base.slot L o ho (I.ok.frf L hL) hL fun z=>I.ok.exfs L z hL
   exact⟨hk,⟨L,_,hf,hn,e,hd⟩,ih (fun b hb=>hs b (by unfold uV;rw[gj,hf];exact aS _ hb)) hr⟩
 exact all X.outer (fun _ hb=>hb) I.ok.funs
theorem bQ.stack(I:bQ X ak σ H s):s.heap.FunFrames X.base X.stack:=by
 rcases I.ok.stk with e|⟨e,hf⟩
 ·rw[e];exact I.funs
 ·rw[e]
  obtain⟨m,hn,_⟩:=I.loc
  refine .cons (by rw[I.ok.kind];decide) hf hn ?_ I.funs
  exact Heap.get?_none_of_le (aN I.ok.bsz I.ok.above)
theorem bQ.stkSub(I:bQ X ak σ H s):∀b∈uV X.stack,b∈X.env.locals::X.fs:=fun b hb=>by
 rcases I.ok.stk with e|⟨e,hf⟩
 ·rw[e]at hb;exact aS _ hb
 ·rw[e]at hb
  unfold uV at hb
  rw[gj,hf]at hb
  exact hb
theorem bQ.stkFree(I:bQ X ak σ H s):∀b∈uV X.stack,H b=none:=fun b hb=>by
 rcases aT.mp (I.stkSub b hb)with e|hb
 ·rw[e];exact I.free
 ·obtain⟨_,o,ho,_⟩:=I.ok.funs.mem hb
  exact I.base.free b o ho (I.ok.frf b hb) fun z=>I.ok.exfs b z hb
theorem bQ.step{g':Array GenState}{t':Nat}{d':Drawn}{ch:List Addr}(I:bQ X ak σ H s)
  (JB:∀b∈ch,(b∈X.ex\/X.s₀.heap.objs.size<=b)/\b≠X.env.locals/\(∀x c,X.env.cells.lookup x=some c->c≠b)/\∀p∈X.pn++ak,p.1≠b)
  (keep:∀b o,b≠X.env.locals->b∉X.fs->b∉ch->s.heap.get? b=some o->H b=none->h'.get? b=some o)
  (slot:∀b o,b≠X.env.locals->b∈X.fs->b∉ch->s.heap.get? b=some o->H b=none->∃sl,h'.get? b=some { o with slots:=sl }) (free:∀b o,b∉ch->s.heap.get? b=some o->H b=none->H' b=none)
  (there:∀b o,b∉ch->s.heap.get? b=some o->∃o',h'.get? b=some o')
  (tups:∀b xs,H b=some (.tup xs)->H' b=some (.tup xs)) (frzs:∀b o u,H b=some (.frz o u)->H' b=some (.frz o u)) (tbls:∀b ps,H b=some (.tbl ps)->∃more,H' b=some (.tbl (ps++more)))
  (ns:∀m,s.heap.Ns X.env.locals m->h'.Ns X.env.locals m) (hok:pN X.prog X.w t' H' h') (hg:AllBare g') (hk:s.toks<=t') :
  bQ X ak σ H' { s with heap:=h',gens:=g',drawn:=d',toks:=t' }:=by
 have neL:∀b o,X.s₀.heap.get? b=some o->b≠X.env.locals:=fun b o e=>bf (aP (aJ e) I.ok.above)
 have neC:∀b o,X.s₀.heap.get? b=some o->b∉X.ex->b∉ch:=fun b o e hx hb=>by
  rcases(JB b hb).1 with z|z
  ·exact hx z
  ·exact absurd (aP (aJ e) z) (dL _)
 have cellK:∀x c,X.env.cells.lookup x=some c->∀v,s.heap.IsCell c v->h'.IsCell c v:=fun x c e v zq=>by
  obtain⟨o,ho,hd⟩:=zq
  have nch:c∉ch:=fun z=>(JB c z).2.2.1 x c e rfl
  by_cases hc:c∈X.fs
  ·obtain⟨sl,q⟩:=slot c o (I.cne x c e) hc nch ho (I.freeC x c e)
   exact⟨_,q,hd⟩
  ·exact⟨o,keep c o (I.cne x c e) hc nch ho (I.freeC x c e),hd⟩
 refine⟨I.ok,I.os,hg,⟨fun b o e n hb hx=>?_,fun b o e n hb hx=>?_,fun b o e n hx=>?_,fun b o e hx=>?_,fun b xs e=>tups b xs (I.base.tups b xs e),fun b o xs e=>frzs b o xs (I.base.frzs b o xs e),fun b ps e=>?_⟩,?_,fun x c e=>?_,?_,fun x c e=>?_,fun p hp=>?_,hok,I.len,aP I.pos hk,aN I.tk hk⟩
 ·exact keep b o (neL b o e) hb (neC b o e hx) (I.base.keep b o e n hb hx) (I.base.free b o e n hx)
 ·obtain⟨sl,e1⟩:=I.base.slot b o e n hb hx
  obtain⟨sl',e2⟩:=slot b _ (neL b o e) hb (neC b o e hx) e1 (I.base.free b o e n hx)
  exact⟨sl',e2⟩
 ·obtain⟨o',e1⟩:=I.base.there b o e hx
  exact free b o' (neC b o e hx) e1 (I.base.free b o e n hx)
 ·obtain⟨o',e1⟩:=I.base.there b o e hx
  exact there b o' (neC b o e hx) e1
 ·obtain⟨m1,e1⟩:=I.base.tbls b ps e
  obtain⟨m2,e2⟩:=tbls b _ e1
  exact⟨m1++m2,by rw[e2,Array.append_assoc]⟩
 ·obtain⟨m,hn,hl⟩:=I.loc
  refine⟨m,ns m hn,fun i x v e1 e2 e3=>?_⟩
  obtain⟨u,r,l⟩:=hl i x v e1 e2 e3
  refine⟨u,r.up hk,?_⟩
  rcases l with l|⟨k,c,e,z⟩
  ·exact .inl l
  ·exact .inr ⟨k,c,e,cellK x c e _ z⟩
 ·obtain⟨v,z⟩:=I.cell x c e
  exact⟨v,cellK x c e v z⟩
 ·obtain⟨m,⟨o,_,_,ho,_⟩,_⟩:=I.loc
  exact free _ o (fun z=>(JB _ z).2.1 rfl) ho I.free
 ·obtain⟨v,o,ho,hd⟩:=I.cell x c e
  exact free c o (fun z=>(JB c z).2.2.1 x c e rfl) ho (I.freeC x c e)
 ·obtain⟨e,n,ne,nf,d⟩:=I.pin p hp
  have nch:p.1∉ch:=fun z=>(JB p.1 z).2.2.2 p hp rfl
  exact⟨keep p.1 p.2 ne nf nch e n,free p.1 p.2 nch e n,ne,nf,d⟩
theorem bQ.un{t':Nat}(I:bQ X ak σ H s)(u:Un X.fs [] H H' s.heap h')(hok:pN X.prog X.w t' H' h')(hk:s.toks<=t':=by first|exact az _|exact bt _|assumption|omega):bQ X ak σ H' { s with heap:=h',toks:=t' }:=by
 obtain⟨m,⟨o,es,ep,ho,r⟩,_⟩:=id I.loc
 obtain⟨sl,hL⟩:=u.any ho I.free #[15]
 exact I.step (g':=s.gens) (d':=s.drawn) (ch:=[]) (fun _ z=>nomatch z) (fun b o _ hb _ e n=>u.keep b o e n hb #[15]) (fun b o _ hb _ e n=>u.slot b o e n hb #[15]) (fun b o _ e n=>u.free b o e n #[15]) (fun b o _ e=>u.there b o e #[15]) u.tups u.frzs u.tbls (fun m' hm=>by
  obtain⟨o',es',ep',ho',r'⟩:=hm
  rw[ho]at ho';cases ho'
  exact⟨_,es',ep',hL,r'⟩) hok I.bare hk
theorem bQ.call{g':Array GenState}{t':Nat}{d':Drawn}{ch:List Addr}(I:bQ X ak σ H s)(u:Un (uV X.stack) ch H H' s.heap h')(hok:pN X.prog X.w t' H' h')(hg:AllBare g')
  (JB:∀b∈ch,(b∈X.ex\/X.s₀.heap.objs.size<=b)/\b≠X.env.locals/\(∀x c,X.env.cells.lookup x=some c->c≠b)/\∀p∈X.pn++ak,p.1≠b) (hk:s.toks<=t') :
  bQ X ak σ H' { s with heap:=h',gens:=g',drawn:=d',toks:=t' }:=by
 obtain⟨m,⟨o,es,ep,ho,r⟩,_⟩:=id I.loc
 obtain⟨sl,hL⟩:=u.any ho I.free fun z=>(JB _ z).2.1 rfl
 exact I.step (ch:=ch) JB (fun b o hL hb hc e n=>u.keep b o e n (fun z=>(aT.mp (I.stkSub b z)).elim hL hb) hc) (fun b o _ _ hc e n=>u.any e n hc) (fun b o hc e n=>u.free b o e n hc) (fun b o hc e=>u.there b o e hc) u.tups u.frzs u.tbls (fun m' hm=>by
  obtain⟨o',es',ep',ho',r'⟩:=hm
  rw[ho]at ho';cases ho'
  exact⟨_,es',ep',hL,r'⟩) hok hg hk
theorem bQ.turned{t':Nat}{it:Addr}(I:bQ X ak σ H s)(k:∀b o,b≠it->s.heap.get? b=some o->h'.get? b=some o)(hn:H it=none)(hL:it≠X.env.locals)
  (h1:it∈X.ex\/X.s₀.heap.objs.size<=it) (h2:∀x c,X.env.cells.lookup x=some c->c≠it) (h3:∀p∈X.pn++ak,p.1≠it) (hk:s.toks<=t':=by first|exact az _|exact bt _|assumption|omega):bQ X ak σ H { s with heap:=h',toks:=t' }:=by
 have nit:∀b u,H b=some u->b≠it:=fun b u e z=>by rw[z,hn]at e;cases e
 refine I.step (g':=s.gens) (d':=s.drawn) (ch:=[it]) (fun b hb=>?_) (fun b o _ _ hc e _=>k b o (fun z=>hc (by simp[z])) e) (fun b o _ _ hc e _=>⟨o.slots,k b o (fun z=>hc (by simp[z])) e⟩) (fun _ _ _ _ n=>n)
  (fun b o hc e=>⟨o,k b o (fun z=>hc (by simp[z])) e⟩) (fun _ _ e=>e) (fun _ _ _ e=>e) (fun b ps e=>⟨#[],by rw[e];simp⟩) (fun m hm=>?_) (fun b u e=>?_) I.bare hk
 ·have e:b=it:=by simpa using hb
  subst e
  exact⟨h1,hL,h2,h3⟩
 ·obtain⟨o,es,ep,ho,r⟩:=hm
  exact⟨o,es,ep,k _ o (Ne.symm hL) ho,r⟩
 ·refine((I.hok b u e).up hk).stay (fun c v hc q=>k c v ?_ q) (fun _ q=>q) fun _ _ q=>q
  rcases hc with z|z
  ·rw[z];exact nit b u e
  ·exact nit c _ z
theorem bQ.tok(I:bQ X ak σ H s)(t:Nat)(hk:s.toks<=t:=by first|exact az _|exact bt _|assumption|omega):bQ X ak σ H { s with toks:=t }:=I.un (h':=s.heap) (t':=t) Un.refl (I.hok.up hk) hk
theorem bQ.kept{t':Nat}(I:bQ X ak σ H s)(k:∀b u,s.heap.get? b=some u->h'.get? b=some u)(hk:s.toks<=t':=by first|exact az _|exact bt _|assumption|omega):bQ X ak σ H { s with heap:=h',toks:=t' }:=I.un (Un.kept k) ((I.hok.kept k).up hk) hk
theorem bQ.laid{a:Addr}{o:HO}{t':Nat}(I:bQ X ak σ H s)(k:∀b u,s.heap.get? b=some u->h'.get? b=some u)(hp:s.heap.objs.size<=a)(new:fA X.prog X.w t' (f_ H a o) h' a o)(hk:s.toks<=t':=by first|exact az _|exact bt _|assumption|omega) :
  bQ X ak σ (f_ H a o) { s with heap:=h',toks:=t' }:=I.un (Un.laid k hp (I.hok.fresh hp)) ((I.hok.up hk).laid k hp new) hk
theorem bQ.write{x e:Addr}{o:HO}(I:bQ X ak σ H s)(mu:P_ (H x))(he:e=x\/H e=some (.own x))(k:∀b u,b≠e->s.heap.get? b=some u->h'.get? b=some u)(P7:∃u,h'.get? e=some u)
  (new:fA X.prog X.w t' (f_ H x o) h' x o) (hk:s.toks<=t':=by first|exact az _|exact bt _|assumption|omega):bQ X ak σ (f_ H x o) { s with heap:=h',toks:=t' }:=I.un (Un.write mu he k P7) ((I.hok.up hk).write mu he k P7 new) hk
theorem bQ.pins_of{pins':List (Addr×Obj)}(I:bQ X ak σ H s)(h:∀p∈pins',s.heap.get? p.1=some p.2/\H p.1=none/\p.1≠X.env.locals/\p.1∉X.fs/\∀v,p.2.data≠.cell v):bQ X pins' σ H s:=
 ⟨I.ok,I.os,I.bare,I.base,I.loc,I.cell,I.free,I.freeC,fun p hp=>(aW.mp hp).elim (fun z=>I.pin p (b7 _ z)) (h p),I.hok,I.len,I.pos,I.tk⟩
theorem Ad{N:List Str}(hN:N.Nodup){x:Str}(a:N[i]?=some x)(b:N[j]?=some x):i=j:=by
 obtain⟨h1,e1⟩:=au.mp a
 obtain⟨h2,e2⟩:=au.mp b
 exact(List.getElem_inj hN).mp (e1.trans e2.symm)
theorem El{M:Model}{A:Around}{E:Value->Shared->Prop}{x:Str}{v:V}{Q:Unit->Shared->Prop}(I:bQ X ak σ H s)(hN:X.N.Nodup)(hi:X.N[i]?=some x)(hx:JF X.env.scope x)(r:c8 s.toks v u)
  (h:∀s',bQ X ak (σ.set i (some v)) H s'->(∃a,Heap.SameBut a s.heap s'.heap/\(a=X.env.locals\/X.env.cells.lookup x=some a))->Q () s') (hf:X.fn x=true\/X.env.scope.names.lookup x=some .local:=by first|exact .inl rfl|exact .inr rfl|assumption):wpAny M A (storeName X.env x u) Q E s:=by
 obtain⟨m,hn,hl⟩:=id I.loc
 have hcls:(X.env.scope.kind==.class||(X.env.scope.kind==.module&&X.env.locals != X.env.globals))=false:=by rw[I.ok.kind];rfl
 have hiσ:i<σ.length:=by rw[I.len];exact(au.mp hi).1
 have cne:=I.cne
 have tracked:∀{a:Addr} {h':Heap},(∃o,s.heap.get? a=some o/\H a=none)->Heap.SameBut a s.heap h'->pN X.prog X.w s.toks H h':=fun{a h'} ha hs b ob e=>by
  obtain⟨_,_,hfree⟩:=ha
  refine(I.hok b ob e).stay (fun c w' hc q=>(hs.2 c ?_).trans q) (fun _ q=>q) fun _ _ q=>q
  rintro rfl
  rcases hc with rfl|hc
  ·rw[hfree]at e;cases e
  ·rw[hfree]at hc;cases hc
 rcases hx with hk|hk
 ·refine n_ hk hn (fun h' hn' hs=>?_) hcls
  obtain⟨oL,_,_,hoL,_⟩:=id hn
  refine h { s with heap:=h',toks:=s.toks+1 } ⟨I.ok,I.os,I.bare,⟨fun b o e n hb hx=>?_,fun b o e n hb hx=>?_,I.base.free,fun b o e hx=>?_,I.base.tups,I.base.frzs,I.base.tbls⟩,⟨_,hn',fun j y v' e1 e2 e3=>?_⟩,fun y c e=>?_,I.free,I.freeC,fun p hp=>?_,(tracked ⟨oL,hoL,I.free⟩ hs).up (bt _),by simpa using I.len,Nat.succ_pos _,hV I.tk⟩ ⟨_,hs,.inl rfl⟩
  ·exact(hs.2 b (bf (aP (aJ e) I.ok.above))).trans (I.base.keep b o e n hb hx)
  ·obtain⟨sl,e1⟩:=I.base.slot b o e n hb hx
   exact⟨sl,(hs.2 b (bf (aP (aJ e) I.ok.above))).trans e1⟩
  ·obtain⟨o',e1⟩:=I.base.there b o e hx
   exact⟨o',(hs.2 b (bf (aP (aJ e) I.ok.above))).trans e1⟩
  ·by_cases hj:j=i
   ·subst hj
    rw[hi]at e1;cases e1
    rw[cv hiσ]at e2
    cases e2
    exact⟨u,r.up (bt _),.inl ⟨hk,by simp⟩⟩
   ·rw[cW (Ne.symm hj)]at e2
    obtain⟨u',r',q⟩:=hl j y v' e1 e2 e3
    refine⟨u',r'.up (bt _),?_⟩
    rcases q with⟨k,e⟩|⟨k,c,e,z⟩
    ·refine .inl ⟨k,?_⟩
     have:y≠x:=fun e=>hj (Ad hN e1 (e▸hi))
     simp[this,e]
    ·exact .inr ⟨k,c,e,z.sameBut hs (cne y c e)⟩
  ·obtain⟨w',z⟩:=I.cell y c e
   exact⟨w',z.sameBut hs (cne y c e)⟩
  ·obtain⟨e,n,ne,nf,d⟩:=I.pin p hp
   exact⟨(hs.2 p.1 ne).trans e,n,ne,nf,d⟩
 ·have hfn:X.fn x=true:=by
   rcases hf with z|z
   ·exact z
   ·rw[z]at hk;cases hk
  obtain⟨c,hc⟩:=I.ok.has x (.inl hk)
  obtain⟨w',z⟩:=I.cell x c hc
  refine wpAny_storeName_cell I.ok.kind hk hc z (fun h' hc' hs=>?_)
  obtain⟨oc,hoc,hocd⟩:=id z
  refine h { s with heap:=h' } ⟨I.ok,I.os,I.bare,⟨fun b o e n hb hx=>?_,fun b o e n hb hx=>?_,I.base.free,fun b o e hx=>?_,I.base.tups,I.base.frzs,I.base.tbls⟩,⟨m,hn.sameBut hs (Ne.symm (cne x c hc)),fun j y v' e1 e2 e3=>?_⟩,fun y c' e=>?_,I.free,I.freeC,fun p hp=>?_,tracked ⟨oc,hoc,I.freeC x c hc⟩ hs,by simpa using I.len,I.pos,I.tk⟩ ⟨c,hs,.inr hc⟩
  ·exact(hs.2 b (bf (aP (aJ e) (I.ok.cab x c hfn hc)))).trans (I.base.keep b o e n hb hx)
  ·obtain⟨sl,e1⟩:=I.base.slot b o e n hb hx
   exact⟨sl,(hs.2 b (bf (aP (aJ e) (I.ok.cab x c hfn hc)))).trans e1⟩
  ·obtain⟨o',e1⟩:=I.base.there b o e hx
   exact⟨o',(hs.2 b (bf (aP (aJ e) (I.ok.cab x c hfn hc)))).trans e1⟩
  ·by_cases hj:j=i
   ·subst hj
    rw[hi]at e1;cases e1
    rw[cv hiσ]at e2
    cases e2
    exact⟨u,r,.inr ⟨.inl hk,c,hc,hc'⟩⟩
   ·rw[cW (Ne.symm hj)]at e2
    obtain⟨u',r',q⟩:=hl j y v' e1 e2 e3
    refine⟨u',r',?_⟩
    rcases q with q|⟨k,c',e,z'⟩
    ·exact .inl q
    ·refine .inr ⟨k,c',e,z'.sameBut hs ?_⟩
     rintro rfl
     exact hj (Ad hN e1 (I.ok.inj _ _ _ e hc▸hi))
  ·by_cases hcc:c'=c
   ·subst hcc;exact⟨_,hc'⟩
   ·obtain⟨w2,z2⟩:=I.cell y c' e
    exact⟨w2,z2.sameBut hs hcc⟩
  ·obtain⟨e,n,ne,nf,d⟩:=I.pin p hp
   refine⟨(hs.2 p.1 ?_).trans e,n,ne,nf,d⟩
   intro q
   rw[q,hoc]at e
   have q':oc=p.2:=bu e
   exact d w' (by rw[<- q'];exact hocd)
theorem Ae{M:Model}{A:Around}{E:Value->Shared->Prop}{x:Str}{v:V}{Q:Unit->Shared->Prop}(I:bQ X ak σ H s)(hN:X.N.Nodup)(hi:X.N[i]?=some x)(hx:JF X.env.scope x)(r:c8 s.toks v u)
  (h:∀s',bQ X ak (σ.set i (some v)) H s'->Q () s') (hf:X.fn x=true\/X.env.scope.names.lookup x=some .local:=by first|exact .inl rfl|exact .inr rfl|assumption):wpAny M A (storeName X.env x u) Q E s:=
 El I hN hi hx r (fun s' I' _=>h s' I') hf
theorem bQ.call'{s':Shared}{ch:List Addr}(I:bQ X ak σ H s)(ho:s'.os=s.os)(u:Un (uV X.stack) ch H H' s.heap s'.heap)(hok:pN X.prog X.w s'.toks H' s'.heap)(hg:AllBare s'.gens)
  (JB:∀b∈ch,(b∈X.ex\/X.s₀.heap.objs.size<=b)/\b≠X.env.locals/\(∀x c,X.env.cells.lookup x=some c->c≠b)/\∀p∈X.pn++ak,p.1≠b) (hk:s.toks<=s'.toks):bQ X ak σ H' s':=by
 obtain⟨h',g',d',t',o'⟩:=s'
 have e:o'=s.os:=ho
 subst e
 exact I.call (g':=g') (t':=t') (d':=d') u hok hg JB hk
end
abbrev XK:=Value->Option Addr->Hp->Prop
abbrev St:=List (Option V)
abbrev VK:=V->Hp->Prop
abbrev TE:=St->Hp->VK->Prop
abbrev TT:=St->Hp->(Bool->Hp->Prop)->Prop
abbrev TA:=St->Hp->(List V->Hp->Prop)->Prop
structure yA where
 nx:St->Hp->Prop
 rt:VK
 bk:St->Hp->Prop:=fun _ _=>False
 ct:St->Hp->Prop:=fun _ _=>False
abbrev TS:=yA->St->Hp->Prop
def EP(X:Cx)(ak:List (Addr×Obj))(σ:St)(Q:VK)(u:Value)(s':Shared):Prop:=∃v H',bQ X ak σ H' s'/\c8 s'.toks v u/\Q v H'
def TP(X:Cx)(ak:List (Addr×Obj))(σ:St)(Q:Bool->Hp->Prop)(b:Bool)(s':Shared):Prop:=∃H',bQ X ak σ H' s'/\Q b H'
def AP(X:Cx)(ak:List (Addr×Obj))(σ:St)(Q:List V->Hp->Prop)(us:List Value)(s':Shared):Prop:=∃vs H',bQ X ak σ H' s'/\cL s'.toks vs us/\Q vs H'
def SP(X:Cx)(ak:List (Addr×Obj))(D:yA)(f:Flow)(s':Shared):Prop:=
 match f with
 |.next=>∃σ' H',bQ X ak σ' H' s'/\D.nx σ' H'
 |.brk=>∃σ' H',bQ X ak σ' H' s'/\D.bk σ' H'
 |.cont=>∃σ' H',bQ X ak σ' H' s'/\D.ct σ' H'
 |.ret u=>∃v σ' H',bQ X ak σ' H' s'/\c8 s'.toks v u/\D.rt v H'
def PE(X:Cx)(e:Expr)(t:TE):Prop:=
 ∀(ak:List (Addr×Obj)) (s:Shared) (σ:St) (H:Hp) (Q:VK),bQ X ak σ H s->t σ H Q->wpAny #[3] X.A (eval e X.env) (EP X ak σ Q) X.xe s
def PT(X:Cx)(e:Expr)(t:TT):Prop:=
 ∀(ak:List (Addr×Obj)) (s:Shared) (σ:St) (H:Hp) (Q:Bool->Hp->Prop),bQ X ak σ H s->t σ H Q->wpAny #[3] X.A (isTrue e X.env (eval e X.env)) (TP X ak σ Q) X.xe s
def PW(X:Cx)(e:Expr)(t:TT):Prop:=
 ∀(whole:Sem Value) (ak:List (Addr×Obj)) (s:Shared) (σ:St) (H:Hp) (Q:Bool->Hp->Prop),bQ X ak σ H s->t σ H Q->wpAny #[3] X.A (isTrue e X.env whole) (TP X ak σ Q) X.xe s
theorem PW.pt{X:Cx}{t:TT}(h:PW X e t):PT X e t:=h _
def PA(X:Cx)(es:List Expr)(t:TA):Prop:=
 ∀(pos:Pos) (ak:List (Addr×Obj)) (s:Shared) (σ:St) (H:Hp) (Q:List V->Hp->Prop),bQ X ak σ H s->t σ H Q->wpAny #[3] X.A (spliced (backTo pos (starEach es X.env))) (AP X ak σ Q) X.xe s
def PS(X:Cx)(st:Stmt)(t:TS):Prop:=
 ∀(ak:List (Addr×Obj)) (s:Shared) (σ:St) (H:Hp) (D:yA),bQ X ak σ H s->t D σ H->wpAny #[3] X.A (exec st X.env) (SP X ak D) X.xe s
def Em(X:Cx)(st:List Stmt)(t:TS):Prop:=
 ∀(ak:List (Addr×Obj)) (s:Shared) (σ:St) (H:Hp) (D:yA),bQ X ak σ H s->t D σ H->wpAny #[3] X.A (execs st X.env) (SP X ak D) X.xe s
theorem jC{t:Sem α}{Q Q':α->Shared->Prop}(h:wpAny M A t Q E s)(hQ:∀a s',s.toks<=s'.toks->Q a s'->Q' a s'):wpAny M A t Q' E s:=
 up (lv h (fun a s' q k=>hQ a s' k q) fun _ _ x _=>x)
theorem Dq{t:Sem α}{Q Q':α->Shared->Prop}(h:wpAny M A t Q E s)(hQ:∀a s,Q a s->Q' a s):wpAny M A t Q' E s:=lv h hQ fun _ _ x=>x
end L2
variable{X:L2.Cx}{σ:L2.St}{te:L2.TE}
namespace L2
open PySem PySem.Spec PyProof.Rows
section
def Qa(i:Nat):TE:=fun σ H Q=>∃v,σ[i]?=some (some v)/\Q v H
def tC(v:V):TE:=fun _ H Q=>Q v H
theorem MK{x:Str}{pos:Pos}(hN:X.N[i]?=some x)(hv:P' X.env.scope x)(hd:(x==("__debug__":Str))=false:=by decide)(Fh:(x==("__classdict__":Str))=false:=by decide):PE X (.Name x pos) (Qa i):=by
 intro ak s σ H Q I h
 obtain⟨v,e,h⟩:=h
 obtain⟨m,hn,hl⟩:=I.loc
 obtain⟨u,r,l⟩:=hl i x v hN e hv
 have kL:EP X ak σ Q u s:=⟨v,H,I,r,h⟩
 rcases l with⟨hk,hm⟩|⟨hk,c,hc,hU⟩
 ·exact wpAny_Name (wpAny_loadName_local I.ok.kind hk hn hm kL) hd
 ·rcases hk with hk|hk
  ·exact wpAny_Name (wpAny_loadName_cell I.ok.kind hk hc hU kL) hd
  ·exact wpAny_Name (wpAny_loadName_free I.ok.kind hk hc hU kL Fh) hd
theorem ML{i j pos}:PE X (.Constant (.int i) j pos) (tC (.int i)):=fun _ _ _ H _ I h=>wpAny_Constant_int ⟨.int i,H,I.tok _,⟨_,rfl⟩,h⟩
theorem Qb{b j pos}:PE X (.Constant (.bool b) j pos) (tC (.bl b)):=fun _ _ _ H _ I h=>Constant_bool ⟨.bl b,H,I,rfl,h⟩
theorem MM{j pos}:PE X (.Constant .none j pos) (tC .non):=fun _ _ _ H _ I h=>qt ⟨.non,H,I,rfl,h⟩
theorem bQ.tkS{x:Str}(I:bQ X ak σ H s):c8 (s.toks+1) (.str x) (.str x s.toks):=⟨⟨s.toks,fun _=>⟨I.pos,b9 _⟩⟩,rfl⟩
theorem MN{x j pos}:PE X (.Constant (.str x) j pos) (tC (.str x)):=fun _ _ _ H _ I h=>Calls.Constant_str ⟨.str x,H,I.tok _,I.tkS,h⟩
def Gl(X:Cx)(x:Str):Prop:=X.env.kindOf x=some .globalImplicit
theorem uW{E:Value->Shared->Prop}{x:Str}{pos:Pos}(I:bQ X ak σ H s)(hg:Gl X x)(hm:X.mg x=some u)(h:Q u s)
  (hd:(x==("__debug__":Str))=false:=by decide):wpAny #[3] X.A (eval (.Name x pos) X.env) Q E s:=
 ly I.ok.kind hg (Calls.loadGlobal_global (by rw[I.ok.glob];exact I.mod.glob.keeps I.bk) hm h) hd
theorem ou{E:Value->Shared->Prop}{x:Str}{pos:Pos}(I:bQ X ak σ H s)(hg:Gl X x)(hm:X.mg x=none)(hv:bootBuiltins x=some u)(h:Q u s)
  (hn:x ≠ "__name__":=by decide) (hd:(x==("__debug__":Str))=false:=by decide):wpAny #[3] X.A (eval (.Name x pos) X.env) Q E s:=by
 obtain⟨mb,h1,h2⟩:=I.mod.blt
 exact ly I.ok.kind hg (Calls.loadGlobal_builtin (by rw[I.ok.glob];exact I.mod.glob.keeps I.bk) hm (by rw[I.ok.blt];exact h1.keeps I.bk) ((h2 x hn).trans hv) h) hd
theorem JG{x:Str}{v:V}{pos:Pos}(hg:Gl X x)(hm:X.mg x=some u)(r:c8 0 v u)(hd:(x==("__debug__":Str))=false:=by decide):PE X (.Name x pos) (tC v):=
 fun _ _ _ H _ I h=>uW I hg hm ⟨v,H,I,r.up (cx _),h⟩ hd
theorem JH{x:Str}{v:V}{pos:Pos}(hg:Gl X x)(hm:X.mg x=none)(hv:bootBuiltins x=some u)(r:c8 0 v u)(hn:x ≠ "__name__":=by decide)(hd:(x==("__debug__":Str))=false:=by decide):PE X (.Name x pos) (tC v):=
 fun _ _ _ H _ I h=>ou I hg hm hv ⟨v,H,I,r.up (cx _),h⟩ hn hd
variable{a b:Expr}{ta tb:TE}
def PC(X:Cx)(op:CmpOp)(a b:Expr)(t:TE):Prop:=
 ∀(ak:List (Addr×Obj)) (s:Shared) (σ:St) (H:Hp) (Q:VK),bQ X ak σ H s->t σ H Q ->
  wpAny #[3] X.A (eval a X.env) (fun v s₁=>wpAny #[3] X.A (eval b X.env) (fun u s₂=>wpAny #[3] X.A (compareOp op v u) (EP X ak σ Q) X.xe s₂) X.xe s₁) X.xe s
theorem Af(b:Expr)(h:op≠.In)(h2:op≠.NotIn):behindInMarks op b=false:=by
 have e1:(op==CmpOp.In)=false:=by cases op<;>first|rfl|exact absurd rfl h
 have e2:(op==CmpOp.NotIn)=false:=by cases op<;>first|rfl|exact absurd rfl h2
 cases b<;>simp[behindInMarks,e1,e2]
def Qc(ta:TE):TE:=fun σ H Q=>ta σ H fun x H1=>Q (.bl (decide (x=.non))) H1
def Lf(ta:TE):TE:=fun σ H Q=>ta σ H fun x H1=>Q (.bl (!decide (x=.non))) H1
theorem c8.none_iff{x:V}(r:c8 nk x v):(v==Value.none)=decide (x=.non):=by
 cases x with
 |non=>cases r;rfl
 |bl _=>cases r;rfl
 |int _=>obtain⟨t,rfl⟩:=r;rfl
 |str _=>obtain⟨t,rfl⟩:=r;rfl
 |byt _=>obtain⟨t,rfl⟩:=r;rfl
 |flt _=>obtain⟨t,rfl⟩:=r;rfl
 |ref _=>cases r;rfl
 |ty _=>cases r;rfl
theorem FF{j iq}(ha:PE X a ta):PC X .Is a (.Constant .none j iq) (Qc ta):=by
 intro ak s σ H Q I h
 refine jC (ha ak s σ H _ I h) fun v s1 kt1 zq=>?_
 obtain⟨x,H1,I1,r1,q1⟩:=zq
 exact qt (is_none_gen ⟨.bl _,H1,I1,by rw[r1.none_iff];rfl,q1⟩)
theorem JI{j iq}(ha:PE X a ta):PC X .IsNot a (.Constant .none j iq) (Lf ta):=by
 intro ak s σ H Q I h
 refine jC (ha ak s σ H _ I h) fun v s1 kt1 zq=>?_
 obtain⟨x,H1,I1,r1,q1⟩:=zq
 exact qt (isnot_none_gen ⟨.bl _,H1,I1,by rw[r1.none_iff];rfl,q1⟩)
def tB(t:TE):TT:=fun σ H Q=>t σ H fun x H1=>∃c,x=.bl c/\Q c H1
theorem MO{t:TE}(h:PC X op a b t)(h1:behindInMarks op b=false:=by first|exact Af _ #[13] #[13]|rfl):PE X (.Compare a [op] [b] pos) t:=fun ak s σ H Q I hw=>wpAny_Compare1 (h ak s σ H Q I hw) h1
theorem FH{t:TE}(h:PC X op a b t)(h1:behindInMarks op b=false:=by first|exact Af _ #[13] #[13]|rfl):PT X (.Compare a [op] [b] pos) (tB t):=by
 intro ak s σ H Q I hw
 refine og (Dq (h ak s σ H _ I hw) fun v s1 h1=>Dq h1 fun u s2 h2=>Dq h2 fun c s3 ⟨x,H1,I1,r1,q1⟩=>?_) h1
 obtain⟨d,rfl,q⟩:=q1
 cases r1
 exact hW ⟨H1,I1,q⟩
theorem MP{t:TE}(h:PE X e t)(he:∀whole,isTrue e X.env whole=(do let v <- whole;standAt e.pos;holding [v] (truthy v)):=by intro _;rfl):PT X e (tB t):=by
 intro ak s σ H Q I hw
 refine isTrue_plain (jC (h ak s σ H _ I hw) fun v s1 kt1 ⟨x,H1,I1,r1,q1⟩=>?_) (he _)
 obtain⟨d,rfl,q⟩:=q1
 cases r1
 exact hW ⟨H1,I1,q⟩
variable{tA UI:TT}{iF:List Expr}
def Vm(t u:TT):TT:=fun σ H Q=>t σ H fun c H1=>if c=true then Q true H1 else u σ H1 Q
def TK(t:TT):TT:=fun σ H Q=>t σ H fun c H1=>Q (!c) H1
theorem MQ(ha:PT X a tA):PW X (.BoolOp .Or [a] pos) tA:=by
 intro wh ak s σ H Q I h
 refine isTrue_or (Dq (ha ak s σ H Q I h) fun c s1 e=>?_)
 cases c with
 |false=>exact isTrue_or_nil e
 |true=>exact e
theorem Qd(ha:PT X a tA)(hb:PW X (.BoolOp .Or (b::iF) pos) UI):PW X (.BoolOp .Or (a::b::iF) pos) (Vm tA UI):=by
 intro wh ak s σ H Q I h
 refine isTrue_or (jC (ha ak s σ H _ I h) fun c s1 kt1 zq=>?_)
 obtain⟨H1,I1,q1⟩:=zq
 cases c with
 |true=>exact⟨H1,I1,q1⟩
 |false=>exact hb wh ak s1 σ H1 Q I1 q1
theorem MR(ha:PT X a tA):PT X (.UnaryOp .Not a pos) (TK tA):=by
 intro ak s σ H Q I h
 exact isTrue_not (ha ak s σ H (fun c H1=>Q (!c) H1) I h)
def Qe(ta tb:TE):TE:=fun σ H Q=>ta σ H fun x H1=>∃c,x=.bl c/\if c=true then tb σ H1 Q else Q (.bl false) H1
def Qf(ta:TE):TE:=fun σ H Q=>ta σ H fun x H1=>∃c,x=.bl c/\Q (.bl (!c)) H1
theorem MS{op}{t:TE}(h:PE X a t):PE X (.BoolOp op [a] pos) t:=fun ak s σ H Q I hw=>BoolOp_one (h ak s σ H Q I hw)
theorem MU(ha:PE X a ta)(hb:PE X (.BoolOp .And (b::iF) pos) tb):PE X (.BoolOp .And (a::b::iF) pos) (Qe ta tb):=by
 intro ak s σ H Q I h
 refine BoolOp_and (jC (ha ak s σ H _ I h) fun v s1 kt1 zq=>?_)
 obtain⟨x,H1,I1,r1,q1⟩:=zq
 obtain⟨c,rfl,q1⟩:=q1
 cases r1
 refine hW ?_
 cases c with
 |true=>exact hb ak s1 σ H1 Q I1 q1
 |false=>exact⟨.bl false,H1,I1,rfl,q1⟩
theorem MV(ha:PE X a ta):PE X (.UnaryOp .Not a pos) (Qf ta):=by
 intro ak s σ H Q I h
 refine UnaryOp_ (jC (ha ak s σ H _ I h) fun v s1 kt1 zq=>?_)
 obtain⟨x,H1,I1,r1,q1⟩:=zq
 obtain⟨c,rfl,q1⟩:=q1
 cases r1
 exact not_of (hW ⟨.bl (!c),H1,I1,rfl,q1⟩)
def Vn(t:TT)(ta tb:TE):TE:=fun σ H Q=>t σ H fun c H1=>if c=true then ta σ H1 Q else tb σ H1 Q
theorem FJ(hc:PT X c tA)(ha:PE X a ta)(hb:PE X b tb):PE X (.IfExp c a b pos) (Vn tA ta tb):=by
 intro ak s σ H Q I h
 refine wpAny_IfExp (jC (hc ak s σ H _ I h) fun d s1 kt1 zq=>?_)
 obtain⟨H1,I1,q1⟩:=zq
 cases d with
 |true=>exact ha ak s1 σ H1 Q I1 q1
 |false=>exact hb ak s1 σ H1 Q I1 q1
end
end L2
namespace L2
open PySem PySem.Spec PyProof.Rows
def sK(K:Frag)(H:Hp)(a:Addr)(xs:List V):Prop:=
 Rd H a (.lst xs) \/
  ∃(o:Obj) (bJ:Array Value) (n:Nat),K.lookup a=some o/\o.cls=.type "list"/\o.dict=none/\o.data=.seq bJ n/\bJ.size<=sizeLine/\cL 0 xs bJ.toList
def gc(K:Frag)(H:Hp)(a:Addr)(xs:List V):Prop:=
 Rd H a (.tup xs) \/
  ∃(o:Obj) (bJ:Array Value) (n:Nat),K.lookup a=some o/\o.cls=.type "tuple"/\o.data=.seq bJ n/\bJ.size<=sizeLine/\cL 0 xs bJ.toList
def TL:Value->Option V
 |.none=>some .non
 |.bool b=>some (.bl b)
 |.int i _=>some (.int i)
 |.str x _=>some (.str x)
 |.bytes b _=>some (.byt b)
 |.float b _=>some (.flt b)
 |.ref a=>some (.ref a)
 |.type n=>some (.ty n)
 |_=>none
theorem c8.abs{x:V}(r:c8 nk x u):TL u=some x:=by
 cases x with
 |non=>cases r;rfl
 |bl _=>cases r;rfl
 |int _=>obtain⟨t,rfl⟩:=r;rfl
 |str _=>obtain⟨t,rfl⟩:=r;rfl
 |byt _=>obtain⟨t,rfl⟩:=r;rfl
 |flt _=>obtain⟨t,rfl⟩:=r;rfl
 |ref _=>cases r;rfl
 |ty _=>cases r;rfl
theorem c8.inj{x y:V}(r:c8 nk x u)(q:c8 nk y u):x=y:=bu (r.abs.symm.trans q.abs)
theorem cL.inj:∀{xs ys:List V} {us:List Value},cL nk xs us->cL nk ys us->xs=ys
 |_,_,_,.nil,.nil=>rfl
 |_,_,_,.cons r t,.cons r' t'=>by rw[r.inj r',cL.inj t t']
section
variable{a:Addr}{ys:List V}
theorem sK.of(h:H a=some (.lst xs)):sK K H a xs:=.inl (.inl h)
theorem gc.of(h:H a=some (.tup xs)):gc K H a xs:=.inl (.inl h)
theorem bQ.list(I:bQ X ak σ H s)(h:sK X.K H a xs):∃bJ:List Value,cL s.toks xs bJ/\PlainL s.heap a bJ.toArray/\xs.length<=sizeLine:=by
 rcases h with h|⟨o,bJ,n,hk,hc,hd,hs,hz,r⟩
 ·obtain⟨z,bJ,n,r,e⟩:=h.ok I.hok
  exact⟨bJ,r,⟨_,n,e,rfl,rfl,rfl⟩,z⟩
 ·refine⟨bJ.toList,r.up (cx _),⟨o,n,I.kIn a o hk,hc,hd,by simpa using hs⟩,?_⟩
  have e:=r.length
  simp only[eF]at e
  omega
theorem bQ.tuple(I:bQ X ak σ H s)(h:gc X.K H a xs):∃bJ:List Value,cL s.toks xs bJ/\IsTup s.heap a bJ.toArray/\xs.length<=sizeLine:=by
 rcases h with h|⟨o,bJ,n,hk,hc,hs,hz,r⟩
 ·obtain⟨z,bJ,r,p⟩:=h.ok I.hok
  exact⟨bJ,r,p,z⟩
 ·refine⟨bJ.toList,r.up (cx _),⟨o,I.kIn a o hk,hc,n,by simpa using hs⟩,?_⟩
  have e:=r.length
  simp only[eF]at e
  omega
theorem bQ.list_inj(I:bQ X ak σ H s)(h:sK X.K H a xs)(h':sK X.K H a ys):xs=ys:=by
 obtain⟨bJ,r,⟨o,n,e,_,_,d⟩,_⟩:=I.list h
 obtain⟨its',r',⟨o',n',e',_,_,d'⟩,_⟩:=I.list h'
 rw[e]at e';cases e'
 rw[d]at d'
 injection d' with d1 _
 have:bJ=its':=by simpa using ic Array.toList d1
 subst this
 exact r.inj r'
theorem bQ.tuple_inj(I:bQ X ak σ H s)(h:gc X.K H a xs)(h':gc X.K H a ys):xs=ys:=by
 obtain⟨bJ,r,⟨o,e,_,n,d⟩,_⟩:=I.tuple h
 obtain⟨its',r',⟨o',e',_,n',d'⟩,_⟩:=I.tuple h'
 rw[e]at e';cases e'
 rw[d]at d'
 injection d' with d1 _
 have:bJ=its':=by simpa using ic Array.toList d1
 subst this
 exact r.inj r'
end
section
end
section
variable{st:Stmt}{iF:List Stmt}{t u:TS}
def Qg:TS:=fun D σ H=>D.nx σ H
def TM(t u:TS):TS:=fun D σ H=>t { D with nx:=u D } σ H
theorem JJ:Em X [] Qg:=fun _ _ σ H _ I h=>kC ⟨σ,H,I,h⟩
theorem FK(h1:PS X st t)(h2:Em X iF u):Em X (st::iF) (TM t u):=by
 intro ak s σ H D I h
 refine wpAny_execs_cons (Dq (h1 ak s σ H { D with nx:=u D } I h) fun f s1 q=>?_)
 cases f with
 |next=>
  obtain⟨σ',H',I',q⟩:=q
  exact h2 ak s1 σ' H' D I' q
 |ret v=>exact q
 |brk=>exact q
 |cont=>exact q
theorem JK(h1:PS X st t):Em X [st] t:=by
 intro ak s σ H D I h
 refine wpAny_execs_cons (Dq (h1 ak s σ H D I h) fun f s1 q=>?_)
 cases f with
 |next=>exact kC q
 |ret v=>exact q
 |brk=>exact q
 |cont=>exact q
def MW:TS:=fun D σ H=>D.bk σ H
def Qh:TS:=fun D σ H=>D.ct σ H
theorem FL:PS X (.Break pos) MW:=fun _ _ σ H _ I h=>wpAny_Break ⟨σ,H,I,h⟩
theorem Ag:PS X (.Continue pos) Qh:=fun _ _ σ H _ I h=>wpAny_Continue ⟨σ,H,I,h⟩
theorem bQ.quiet(I:bQ X ak σ H s):interactive X.env=false:=by simp[interactive,I.ok.kind]
def Qi(te:TE):TS:=fun D σ H=>te σ H fun _ H1=>D.nx σ H1
theorem JL(he:PE X e te)(hs:swapsWith e none pos.line X.env=pure false:=by rfl):PS X (.Expr e pos) (Qi te):=by
 intro ak s σ H D I h
 exact wpAny_Expr_any (jC (he ak s σ H _ I h) fun v s1 kt1 ⟨x,H1,I1,r1,q1⟩=>⟨σ,H1,I1,q1⟩) I.quiet hs
def TN(te:TE):TS:=fun D σ H=>te σ H D.rt
theorem MX(he:PE X e te):PS X (.Return (some e) pos) (TN te):=by
 intro ak s σ H D I h
 exact wpAny_Return_some (jC (he ak s σ H _ I h) fun v s1 kt1 ⟨x,H1,I1,r1,q1⟩=>⟨x,σ,H1,I1,r1,q1⟩)
def TQ(c:TT)(t u:TS):TS:=fun D σ H=>c σ H fun b H1=>if b=true then t D σ H1 else u D σ H1
theorem Qj{a b:List Stmt}{tc:TT}(hc:PT X c tc)(ha:Em X a t)(hb:Em X b u):PS X (.If c a b pos) (TQ tc t u):=by
 intro ak s σ H D I h
 refine wpAny_If (jC (hc ak s σ H _ I h) fun d s1 kt1 zq=>?_)
 obtain⟨H1,I1,q1⟩:=zq
 cases d with
 |true=>exact ha ak s1 σ H1 D I1 q1
 |false=>exact hb ak s1 σ H1 D I1 q1
end
abbrev TG:=V->St->Hp->(St->Hp->Prop)->Prop
abbrev JM:=List V->St->Hp->(St->Hp->Prop)->Prop
def PG(X:Cx)(PP:Expr)(t:TG):Prop:=
 ∀(ak:List (Addr×Obj)) (s:Shared) (σ:St) (H:Hp) (v:V) (u:Value) (Q:St->Hp->Prop),bQ X ak σ H s->c8 s.toks v u->t v σ H Q ->
  wpAny #[3] X.A (assign PP X.env u) (fun _ s'=>∃σ' H',bQ X ak σ' H' s'/\Q σ' H') X.xe s
def Lg(X:Cx)(ts:List Expr)(t:JM):Prop:=
 ∀(ak:List (Addr×Obj)) (s:Shared) (σ:St) (H:Hp) (vs:List V) (us:List Value) (Q:St->Hp->Prop),bQ X ak σ H s->cL s.toks vs us->t vs σ H Q ->
  wpAny #[3] X.A (assignInOrder ((assignEach ts X.env).map (·.2)) us) (fun _ s'=>∃σ' H',bQ X ak σ' H' s'/\Q σ' H') X.xe s
abbrev JN:=V->V->V->Hp->(Hp->Prop)->Prop
def En(X:Cx)(t:JN):Prop:=
 ∀(ak:List (Addr×Obj)) (s:Shared) (σ:St) (H:Hp) (o i v:V) (ov iv u:Value) (Q:Hp->Prop),bQ X ak σ H s->c8 s.toks o ov->c8 s.toks i iv->c8 s.toks v u->t o i v H Q ->
  wpAny #[3] X.A (setItem ov iv u) (fun _ s'=>∃H',bQ X ak σ H' s'/\Q H') X.xe s
section
def Lh(i:Nat):TG:=fun v σ H Q=>Q (σ.set i (some v)) H
theorem JO{x:Str}(hN:X.N.Nodup)(hi:X.N[i]?=some x)(hx:JF X.env.scope x)(hf:X.fn x=true\/X.env.scope.names.lookup x=some .local:=by first|exact .inl rfl|exact .inr rfl|assumption):PG X (.Name x pos) (Lh i):=by
 intro ak s σ H v u Q I r h
 exact wpAny_assign_Name (Ae I hN hi hx r (fun s' I'=>⟨_,H,I',h⟩) hf)
def TR:JM:=fun vs σ H Q=>vs=[]/\Q σ H
def Ql(t:TG)(u:JM):JM:=fun vs σ H Q=>∃v r,vs=v::r/\t v σ H fun σ' H'=>u r σ' H' Q
theorem JP:Lg X [] TR:=by
 intro ak s σ H vs us Q I r h
 obtain⟨e,h⟩:=h
 subst e
 cases r
 exact assignInOrder_nil ⟨σ,H,I,h⟩
theorem FM{t:TG}{u:JM}(h1:PG X e t)(h2:Lg X es u)
  (hs:(assignEach (e::es) X.env).map (·.2)=assign e X.env::(assignEach es X.env).map (·.2):=by rfl):Lg X (e::es) (Ql t u):=by
 intro ak s σ H vs us Q I r h
 obtain⟨v,vr,e1,h⟩:=h
 subst e1
 cases r with
 |cons r rr=>
  rw[hs]
  refine assignInOrder_cons (jC (h1 ak s σ H _ _ _ I r h) fun _ s1 kt1 zq=>?_)
  obtain⟨σ1,H1,I1,q1⟩:=zq
  exact h2 ak s1 σ1 H1 _ _ Q I1 (cL.up kt1 rr) q1
def TU(K:Frag)(n:Nat)(t:JM):TG:=fun v σ H Q=>∃a xs,v=.ref a/\gc K H a xs/\xs.length=n/\t xs σ H Q
theorem MY{k:Nat}{t:JM}(hc:X.calm=true)(h:Lg X es t)
  (hn:(assignEach es X.env).length=n:=by rfl) (su:(assignEach es X.env).findIdx? (·.1)=none:=by rfl):PG X (.Tuple es k pos) (TU X.K n t):=by
 intro ak s σ H v u Q I r hw
 obtain⟨a,xs,e1,hq,hl,hw⟩:=hw
 subst e1
 cases r
 obtain⟨bJ,rv,ht,hz⟩:=I.tuple hq
 refine assign_Tuple_tuple (I.ok.hd hc) ht (by simp[hn,<- hl,rv.length]) su fun h' hx=>?_
 have I1:bQ X ak σ H { s with heap:=h' }:=I.kept (t':=s.toks) fun b o e=>hx b o (bf (aJ e)) e
 exact h ak _ σ H xs _ Q I1 (by simpa using rv) hw
def TV(to ti:TE)(t:JN):TG:=fun v σ H Q=>to σ H fun o H1=>ti σ H1 fun i H2=>t o i v H2 fun H3=>Q σ H3
theorem MZ{i:Expr}{to ti:TE}{t:JN}(ho:PE X o to)(hi:PE X i ti)(hs:En X t)
  (ha:∀v,assign (.Subscript o i pos) X.env v=(do
   let ov <- holding [v] (eval o X.env)
   let iv <- holding [v,ov] (eval i X.env)
   standAt pos
   holding [v,ov,iv] (setItem ov iv v)
   release [v,ov,iv] []):=by intro _;rfl):PG X (.Subscript o i pos) (TV to ti t):=by
 intro ak s σ H v u Q I r h
 rw[ha]
 refine af (dm (jC (ho ak s σ H _ I h) fun ov s1 kt1 zq=>?_))
 obtain⟨x,H1,I1,r1,q1⟩:=zq
 refine af (dm (jC (hi ak s1 σ H1 _ I1 q1) fun iv s2 kt2 zq=>?_))
 obtain⟨y,H2,I2,r2,q2⟩:=zq
 refine af (qu (af (dm (jC (hs ak s2 σ H2 x y v ov iv u _ I2 (r1.up kt2) r2 (r.up (aN kt1 kt2)) q2) fun _ s3 kt3 zq=>?_))))
 obtain⟨H3,I3,q3⟩:=zq
 exact wpAny_release ⟨σ,H3,I3,q3⟩
def FN(te:TE)(g:TG):TS:=fun D σ H=>te σ H fun x H1=>g x σ H1 D.nx
theorem FP{g:TG}(he:PE X e te)(hg:PG X tg g)(hs:swapsWithSole [tg] e pos.line X.env=pure false:=by rfl)(hw:swappedStores [tg] e X.env=pure none:=by rfl)
  (h1:(assignEach [tg] X.env).map (·.2)=[assign tg X.env]:=by rfl):PS X (.Assign [tg] e pos) (FN te g):=by
 intro ak s σ H D I h
 refine wpAny_Assign_stores (jC (he ak s σ H _ I h) fun v s1 kt1 ⟨x,H1,I1,r1,q1⟩=>?_) hs hw
 rw[h1]
 exact Dq (hg ak s1 σ H1 x v _ I1 r1 q1) fun _ s2 q=>q
theorem M0{x:Str}(hN:X.N.Nodup)(hi:X.N[i]?=some x)(hx:JF X.env.scope x)(he:PE X e te)(hs:swapsWith e (some (.Name x iq)) pos.line X.env=pure false:=by rfl)(hf:X.fn x=true\/X.env.scope.names.lookup x=some .local:=by first|exact .inl rfl|exact .inr rfl|assumption) :
  PS X (.Assign [.Name x iq] e pos) (FN te (Lh i)):=by
 intro ak s σ H D I h
 refine wpAny_Assign_Name (jC (he ak s σ H _ I h) fun v s1 kt1 ⟨y,H1,I1,r1,q1⟩=>?_) hs
 exact Ae I1 hN hi hx r1 (fun s2 I2=>⟨_,H1,I2,q1⟩) hf
end
section
def FQ(c:TT)(tb:TS):TS:=fun D σ H=>∃W:Nat->St->Hp->Prop,(∃m,W m σ H)/\∀m σ H,W m σ H ->
 c σ H fun b H1=>if b=true then ∃N:St->Hp->Prop,(∀σ' H',N σ' H'->∃m',m'<m/\W m' σ' H')/\tb { D with nx:=N,ct:=N,bk:=D.nx } σ H1 else D.nx σ H1
theorem FR{body:List Stmt}{tc:TT}{tb:TS}(hp:PassesOwn #[3] X.A X.env X.xe)(hc:PT X c tc)(hb:Em X body tb):PS X (.While c body [] pos) (FQ tc tb):=by
 intro ak s σ H D I h
 obtain⟨W,⟨m0,w0⟩,turn⟩:=h
 refine wpAny_While (codeAny_whileLoop (fun n s'=>∃σ' H',bQ X ak σ' H' s'/\W n σ' H') ?_ m0 ⟨σ,H,I,w0⟩)
 rintro n s1 ⟨σ1,H1,I1,w1⟩
 refine fT hp (jC (hc ak s1 σ1 H1 _ I1 (turn n σ1 H1 w1)) fun b s2 kt2 zq=>?_)
 obtain⟨H2,I2,q2⟩:=zq
 cases b with
 |true=>
  obtain⟨N,hN,q2⟩:=q2
  rw[aF rfl]
  refine fT hp (Dq (hb ak s2 σ1 H2 _ I2 q2) fun f s3 q3=>?_)
  cases f with
  |next=>
   obtain⟨σ3,H3,I3,n3⟩:=q3
   obtain⟨m',hm,w3⟩:=hN σ3 H3 n3
   exact⟨m',hm,σ3,H3,I3,w3⟩
  |cont=>
   obtain⟨σ3,H3,I3,n3⟩:=q3
   obtain⟨m',hm,w3⟩:=hN σ3 H3 n3
   exact⟨m',hm,σ3,H3,I3,w3⟩
  |brk=>exact q3
  |ret v=>exact q3
 |false=>
  rw[aO eQ]
  exact kC ⟨σ1,H2,I2,q2⟩
end
structure It where
 go:Nat->Hp->Prop
 yld:Nat->Hp->V->Hp->Prop
 stop:Nat->Hp->Prop
def sL(X:Cx)(ak:List (Addr×Obj))(H:Hp)(b:Addr):Prop:=
 H b=none/\b≠X.env.locals/\b∉X.fs/\(b∈X.ex\/X.s₀.heap.objs.size<=b)/\(∀x c,X.env.cells.lookup x=some c->c≠b)/\∀p∈X.pn++ak,p.1≠b
theorem bQ.fpOk{b:Addr}(I:bQ X ak σ H s)(hb:s.heap.objs.size<=b)(hn:H' b=none):sL X ak H' b:=by
 refine⟨hn,et (aP I.lt hb),I.nofs hb,.inr (aN I.sz hb),fun x c e z=>?_,fun p hp z=>?_⟩
 ·obtain⟨v,q⟩:=I.cell x c e
  exact absurd (aP q.lt (by rw[z];exact hb)) (dL _)
 ·exact absurd (aP (aJ (I.pin p hp).1) (by rw[z];exact hb)) (dL _)
structure BV(P:Program)(w:World)(K:Frag)(tg:Expr)(J:It)(fp:List Addr)(it:Addr)(tn:Nat->Heap->Prop):Prop where
 mem:it∈fp
 obj:∀i h,tn i h->∀b∈fp,∃o,h.get? b=some o/\∀v,o.data≠.cell v
 keep:∀i h h',tn i h->(∀b∈fp,∀o,h.get? b=some o->h'.get? b=some o)->tn i h'
 item:∀(X:Cx),X.prog=P->X.w=w->X.K=K->X.calm=true->∀(i:Nat) (ak:List (Addr×Obj)) (s:Shared) (σ:St) (H:Hp) (E:Value->Shared->Prop),bQ X ak σ H s->(∀b∈fp,sL X ak H b)->tn i s.heap->J.go i H ->
  wpAny (model P w) X.A (pyNext (.ref it)) (fun r s1=>∃u,r=some u /\
   wpAny (model P w) X.A (letOwnedTupleGo tg (.ref it) u) (fun _ s2=>∃x H',bQ X ak σ H' s2/\c8 s2.toks x u/\J.yld i H x H'/\tn (i+1) s2.heap/\∀b∈fp,H' b=none) E s1) E s
 done:∀(X:Cx),X.prog=P->X.w=w->X.K=K->X.calm=true->∀(i:Nat) (ak:List (Addr×Obj)) (s:Shared) (σ:St) (H:Hp) (E:Value->Shared->Prop),bQ X ak σ H s->(∀b∈fp,sL X ak H b)->tn i s.heap->J.stop i H ->
  wpAny (model P w) X.A (pyNext (.ref it)) (fun r s1=>r=none/\bQ X ak σ H s1) E s
 self:∀(A:Around) (i:Nat) (s:Shared) (Q:Value->Shared->Prop) (E:Value->Shared->Prop),tn i s.heap->Q (.ref it) s->wpAny (model P w) A (pyIter (.ref it)) Q E s
abbrev TI:=St->Hp->(It->Hp->Prop)->Prop
def UW(X:Cx)(ak:List (Addr×Obj))(σ:St)(tg:Expr)(R:It->Hp->Prop)(UR:Value)(s2:Shared):Prop:=
 ∃(it:Addr) (fp:List Addr) (tn:Nat->Heap->Prop) (J:It) (H':Hp),UR=.ref it/\bQ X ak σ H' s2/\BV X.prog X.w X.K tg J fp it tn/\tn 0 s2.heap/\(∀b∈fp,sL X ak H' b)/\R J H'
def PI(X:Cx)(tg ef:Expr)(wi:TI):Prop:=
 ∀(ak:List (Addr×Obj)) (s:Shared) (σ:St) (H:Hp) (R:It->Hp->Prop),bQ X ak σ H s->wi σ H R ->
  wpAny #[3] X.A (eval ef X.env) (fun v s1=>wpAny #[3] X.A (pyIter v) (UW X ak σ tg R) X.xe s1) X.xe s
theorem Dr      {E:Value -> Shared -> Prop} {s:Shared}    {o:Obj} {n:String} {vs:Array Value} {Q:Unit -> Shared -> Prop} (ho : s.heap.get? it = some o) (hc : o.cls = .type n) (hd : o.data = .fields vs)
    (hn : ["enumerate", "zip", "dict_itemiterator", "dict_reverseitemiterator", "odict_iterator", "itertools.zip_longest", "itertools.pairwise"].contains n = false) (hQ : Q () s) : wpAny M A (letOwnedTupleGo tg (.ref it) u) Q E s := by
  unfold letOwnedTupleGo
  cases tg <;> first
    | exact ay         hQ
    | (cases u <;> first
        | exact ay         hQ
        | (refine af         (wpAny_load ho ?_)
           rw [hc, hd]
           show wpAny M A (if (["enumerate", "zip", "dict_itemiterator", "dict_reverseitemiterator", "odict_iterator", "itertools.zip_longest", "itertools.pairwise"].contains n && vs[0]? == some (rawInt _)) = true then _ else _) Q E s
           rw [aO     (by intro h; rw [hn, Bool.false_and] at h; cases h)]
           exact ay         hQ))
def UX(K:Frag)(a:Addr):It:=
 ⟨fun i H=>∃xs x,sK K H a xs/\xs[i]?=some x,fun i H x H'=>H'=H/\∀xs,sK K H a xs->xs[i]?=some x,fun i H=>∃xs,sK K H a xs/\xs.length<=i⟩
def UY(K:Frag)(a:Addr):It:=
 ⟨fun i H=>∃xs x,gc K H a xs/\xs[i]?=some x,fun i H x H'=>H'=H/\∀xs,gc K H a xs->xs[i]?=some x,fun i H=>∃xs,gc K H a xs/\xs.length<=i⟩
def S8(lo:Int)(n:Nat):It:=⟨fun i _=>i<n,fun i H x H'=>H'=H/\x=.int (lo+i),fun i _=>n<=i⟩
theorem Eo{w:World}(a it:Addr):BV P w K tg (UX K a) [it] it (fun i h=>h.IsListIter it a i) where
 mem:=by simp
 obj:=fun i h st b hb=>by
  have e:b=it:=by simpa using hb
  subst e
  obtain⟨o,e,c,d⟩:=st
  exact⟨o,e,fun v z=>by rw[d]at z;cases z⟩
 keep:=fun i h h' st k=>st.at fun o e=>k it #[15] o e
 item:=by
  intro X hP hw hK hc i ak s σ H E I hf st hg
  subst hP hw hK
  obtain⟨xs,x,hq,hx⟩:=hg
  obtain⟨bJ,rv,p,hz⟩:=I.list hq
  obtain⟨u,hu,ru⟩:=rv.get hx
  obtain⟨f0,f1,f2,f3,f4,f5⟩:=hf it #[15]
  refine wpAny_pyNext_list_item st p.isList (x:=u) (by simpa using hu) fun h' bp sb=>?_
  have I1:bQ X ak σ H { s with heap:=h' }:=I.turned (t':=s.toks) (fun b o hb e=>(sb.2 b hb).trans e) f0 f1 f3 f4 f5
  obtain⟨o,e,c,d⟩:=id bp
  exact⟨u,rfl,Dr (s:={ s with heap:=h' }) e c d #[13] ⟨x,H,I1,ru,⟨rfl,fun ys hy=>by rw[I.list_inj hy hq];exact hx⟩,bp,fun b hb=>(hf b hb).1⟩⟩
 done:=by
  intro X hP hw hK hc i ak s σ H E I hf st hg
  subst hP hw hK
  obtain⟨xs,hq,hx⟩:=hg
  obtain⟨bJ,rv,p,hz⟩:=I.list hq
  obtain⟨f0,f1,f2,f3,f4,f5⟩:=hf it #[15]
  have hl:=rv.length
  exact wpAny_pyNext_list_end (I.ok.hd hc) st p.isList (by simp;omega) fun h' eb=>⟨rfl,I.turned (t':=s.toks) (fun b o hb e=>eb b o hb e) f0 f1 f3 f4 f5⟩
 self:=fun _ _ _ _ _ st h=>wpAny_pyIter_listiter st h
theorem BW{w:World}(a it:Addr):BV P w K tg (UY K a) [it] it (fun i h=>h.IsTupleIter it a i) where
 mem:=by simp
 obj:=fun i h st b hb=>by
  have e:b=it:=by simpa using hb
  subst e
  obtain⟨o,e,c,d⟩:=st
  exact⟨o,e,fun v z=>by rw[d]at z;cases z⟩
 keep:=fun i h h' st k=>st.at fun o e=>k it #[15] o e
 item:=by
  intro X hP hw hK hc i ak s σ H E I hf st hg
  subst hP hw hK
  obtain⟨xs,x,hq,hx⟩:=hg
  obtain⟨bJ,rv,p,hz⟩:=I.tuple hq
  obtain⟨u,hu,ru⟩:=rv.get hx
  obtain⟨f0,f1,f2,f3,f4,f5⟩:=hf it #[15]
  refine wpAny_pyNext_tuple_item st (show s.heap.IsTuple a bJ.toArray from p) (x:=u) (by simpa using hu) fun h' bp sb=>?_
  have I1:bQ X ak σ H { s with heap:=h' }:=I.turned (t':=s.toks) (fun b o hb e=>(sb.2 b hb).trans e) f0 f1 f3 f4 f5
  obtain⟨o,e,c,d⟩:=id bp
  exact⟨u,rfl,Dr (s:={ s with heap:=h' }) e c d #[13] ⟨x,H,I1,ru,⟨rfl,fun ys hy=>by rw[I.tuple_inj hy hq];exact hx⟩,bp,fun b hb=>(hf b hb).1⟩⟩
 done:=by
  intro X hP hw hK hc i ak s σ H E I hf st hg
  subst hP hw hK
  obtain⟨xs,hq,hx⟩:=hg
  obtain⟨bJ,rv,p,hz⟩:=I.tuple hq
  obtain⟨f0,f1,f2,f3,f4,f5⟩:=hf it #[15]
  have hl:=rv.length
  exact wpAny_pyNext_tuple_end (I.ok.hd hc) st (show s.heap.IsTuple a bJ.toArray from p) (by simp;omega) fun h' eb=>⟨rfl,I.turned (t':=s.toks) (fun b o hb e=>eb b o hb e) f0 f1 f3 f4 f5⟩
 self:=fun _ _ _ _ _ st h=>wpAny_pyIter_tupleiter st h
theorem BX{w:World}(it:Addr)(lo:Int)(n:Nat):BV P w K tg (S8 lo n) [it] it (fun i h=>IsRangeIter h it (lo+(i:Nat)*1) ((n:Int)-(i:Nat)) 1) where
 mem:=by simp
 obj:=fun i h st b hb=>by
  have e:b=it:=by simpa using hb
  subst e
  exact⟨_,st,fun v z=>by
   have z':Data.fields _=Data.cell v:=z
   cases z'⟩
 keep:=fun i h h' st k=>k it #[15] _ st
 item:=by
  intro X hP hw hK hc i ak s σ H E I hf st hg
  subst hP hw hK
  obtain⟨f0,f1,f2,f3,f4,f5⟩:=hf it #[15]
  have W:=Walks.range (prog:=X.prog) (w:=X.w) (I.ok.hd hc) it lo 1 n
  refine up (W.item i s _ _ hg st fun v h' tk hv bp kk hk=>?_)
  obtain⟨t,rfl⟩:=hv
  have I1:bQ X ak σ H { s with heap:=h',toks:=tk }:=I.turned (fun b o hb e=>kk b o (by simpa using hb) e) f0 f1 f3 f4 f5
  refine⟨_,rfl,Dr (s:={ s with heap:=h',toks:=tk }) (n:="range_iterator") bp rfl rfl #[13] ⟨.int (lo+i),H,I1,⟨t,?_⟩,⟨rfl,rfl⟩,bp,fun b hb=>(hf b hb).1⟩⟩
  rw[Int.mul_one]
 done:=by
  intro X hP hw hK hc i ak s σ H E I hf st hg
  subst hP hw hK
  obtain⟨f0,f1,f2,f3,f4,f5⟩:=hf it #[15]
  exact wpAny_pyNext_range_end (I.ok.hd hc) st (by have:n<=i:=hg;omega) fun h' eb=>⟨rfl,I.turned (t':=s.toks) (fun b o hb e=>eb b o hb e) f0 f1 f3 f4 f5⟩
 self:=fun _ _ _ _ _ st h=>wpAny_pyIter_rangeiter st h
end L2
namespace L2
open PySem PySem.Spec PyProof.Rows
section
def Qm(K:Frag)(tl:TE):TI:=fun σ H R=>tl σ H fun x H1=>∃a,x=.ref a/\(∃xs,sK K H1 a xs)/\R (UX K a) H1
def TW(K:Frag)(tl:TE):TI:=fun σ H R=>tl σ H fun x H1=>∃a,x=.ref a/\(∃xs,gc K H1 a xs)/\R (UY K a) H1
theorem JQ{l:Expr}{tl:TE}(hl:PE X l tl):PI X tg l (Qm X.K tl):=by
 intro ak s σ H R I h
 refine jC (hl ak s σ H _ I h) fun v s1 kt1 zq=>?_
 obtain⟨x,H1,I1,r1,q1⟩:=zq
 obtain⟨a,e,⟨xs,hq⟩,q⟩:=q1
 subst e
 cases r1
 obtain⟨bJ,rv,p,hz⟩:=I1.list hq
 refine wpAny_pyIter_list p.isList ?_
 refine⟨s1.heap.objs.size,[s1.heap.objs.size],_,_,H1,rfl,I1.kept (t':=s1.toks) fun b o e=>aw _ e,Eo a _,⟨_,aC _ rfl,rfl,rfl⟩,fun b hb=>?_,q⟩
 have e:b=s1.heap.objs.size:=by simpa using hb
 subst e
 exact I1.fpOk (az _) (I1.hok.fresh (az _))
theorem M2{l:Expr}{tl:TE}(hl:PE X l tl):PI X tg l (TW X.K tl):=by
 intro ak s σ H R I h
 refine jC (hl ak s σ H _ I h) fun v s1 kt1 zq=>?_
 obtain⟨x,H1,I1,r1,q1⟩:=zq
 obtain⟨a,e,⟨xs,hq⟩,q⟩:=q1
 subst e
 cases r1
 obtain⟨bJ,rv,p,hz⟩:=I1.tuple hq
 refine fI (show s1.heap.IsTuple a bJ.toArray from p) ?_
 refine⟨s1.heap.objs.size,[s1.heap.objs.size],_,_,H1,rfl,I1.kept (t':=s1.toks) fun b o e=>aw _ e,BW a _,⟨_,aC _ rfl,rfl,rfl⟩,fun b hb=>?_,q⟩
 have e:b=s1.heap.objs.size:=by simpa using hb
 subst e
 exact I1.fpOk (az _) (I1.hok.fresh (az _))
theorem FU{R:It->Hp->Prop}{lo hi:Int}{t u v:Tok}{tk:Nat}(I:bQ X ak σ H s)(hk:s.toks<=tk)(h1:-(2^62)<=lo)(h2:lo<2^62)(h3:-(2^62)<=hi)(h4:hi<2^62)
  (q:R (S8 lo (hi-lo).toNat) H):wpAny #[3] X.A (pyIter (.ref s.heap.objs.size)) (UW X ak σ tg R) E { s with heap:=s.heap.push { cls:=.type "range",data:=.fields #[.int lo t,.int hi u,.int 1 v] },toks:=tk }:=by
 refine wpAny_pyIter_range (IsRange.new ..) (small_one h1 h2 h3 h4) ?_
 have I1:bQ X ak σ H { s with heap:=s.heap.push { cls:=.type "range",data:=.fields #[.int lo t,.int hi u,.int 1 v] },toks:=tk }:=I.kept fun b o e=>aw _ e
 refine⟨(s.heap.push { cls:=.type "range",data:=.fields #[.int lo t,.int hi u,.int 1 v] }).objs.size,[(s.heap.push { cls:=.type "range",data:=.fields #[.int lo t,.int hi u,.int 1 v] }).objs.size],_,_,H,rfl,
  I1.kept (t':=tk) fun b o e=>aw _ e,BX _ lo (hi-lo).toNat,?_,fun b hb=>?_,q⟩
 ·have e1:lo+((0:Nat):Int)*1=lo:=by simp
  have e2:(((hi-lo).toNat:Nat):Int)-((0:Nat):Int)=Builtin.Range.rangeSize lo hi 1:=by rw[rangeSize_one];split<;>omega
  show IsRangeIter _ _ (lo+((0:Nat):Int)*1) ((((hi-lo).toNat:Nat):Int)-((0:Nat):Int)) 1
  rw[e1,e2]
  exact aC _ rfl
 ·have e:b=(s.heap.push { cls:=.type "range",data:=.fields #[.int lo t,.int hi u,.int 1 v] }).objs.size:=by simpa using hb
  subst e
  exact I1.fpOk (az _) (I1.hok.fresh (az _))
def Qn(ta:TA):TI:=fun σ H R=>ta σ H fun vs H1=>∃j:Int,vs=[.int j]/\-(2^62)<=j/\j<2^62/\R (S8 0 j.toNat) H1
theorem Ep{a:Expr}{ta:TA}{p pos:Pos}(hg:Gl X "range")(hm:X.mg "range"=none)(ha:PA X [a] ta)(hs:starEach [a] X.env=[(false,eval a X.env)]:=by rfl):PI X tg (.Call (.Name "range" p) [a] [] pos) (Qn ta):=by
 intro ak s σ H R I h
 refine Call_ (ou I hg hm boot_range (dU (jC (ha pos ak s σ H _ I h) fun us s1 kt1 ⟨vs,H1,I1,r1,q1⟩=>?_) hs rfl))
 obtain⟨j,e,q1,q2,q⟩:=q1
 subst e
 cases r1 with
 |cons r rr=>
  cases rr
  obtain⟨t,rfl⟩:=r
  exact call_range_1 (FU I1 (by first|exact az _|exact bt _|assumption|omega) #[0] #[0] q1 q2 (by simpa using q))
def TX(wi:TI)(g:TG)(tb:TS):TS:=fun D σ H=>wi σ H fun J H1=>∃W:Nat->Nat->St->Hp->Prop,(∃m,W 0 m σ H1)/\∀i m σ H,W i m σ H ->
 (J.stop i H/\D.nx σ H)\/(J.go i H/\∃N:St->Hp->Prop,(∀σ' H',N σ' H'->∃m',m'<m/\W (i+1) m' σ' H')/\∀x H',J.yld i H x H'->g x σ H' fun σ2 H2=>tb { D with nx:=N,ct:=N,bk:=D.nx } σ2 H2)
def yB(fp:List Addr)(h:Heap):List (Addr×Obj):=fp.filterMap fun b=>(h.get? b).map fun o=>(b,o)
theorem jL{b:Addr}{o:Obj}(hb:b∈fp)(e:h.get? b=some o):(b,o)∈yB fp h:=lD.mpr ⟨b,hb,by rw[e];rfl⟩
theorem Er{p:Addr×Obj}(hp:p∈yB fp h):p.1∈fp/\h.get? p.1=some p.2:=by
 obtain⟨b,hb,e⟩:=lD.mp hp
 cases q:h.get? b with
 |none=>rw[q]at e;cases e
 |some o=>
  rw[q]at e
  have e':(b,o)=p:=bu e
  subst e'
  exact⟨hb,q⟩
theorem bQ.pinned(I:bQ X ak σ H s)(hf:∀b∈fp,sL X ak H b)(ho:∀b∈fp,∃o,s.heap.get? b=some o/\∀v,o.data≠.cell v):bQ X (ak++yB fp s.heap) σ H s:=
 I.pins_of fun p hp=>(aW.mp hp).elim (fun z=>I.pin p (aR _ z)) fun z=>by
  obtain⟨hb,e⟩:=Er z
  obtain⟨f0,f1,f2,_⟩:=hf p.1 hb
  obtain⟨o,e',d⟩:=ho p.1 hb
  rw[e]at e';cases e'
  exact⟨e,f0,f1,f2,d⟩
theorem bQ.unpinned{pl:List (Addr×Obj)}(I:bQ X (ak++pl) σ H s):bQ X ak σ H s:=I.pins_of fun p hp=>I.pin p (aR _ (b7 _ hp))
theorem M3{body:List Stmt}{wi:TI}{g:TG}{tb:TS}{pos:Pos}(hp:PassesOwn #[3] X.A X.env X.xe)(hc:X.calm=true)(hi:PI X tg ef wi)(hg:PG X tg g)(hb:Em X body tb)
  (hs:∀x,foldedSetIterable ef X.env x=pure x:=by intro _;rfl):PS X (.For tg ef body [] pos) (TX wi g tb):=by
 intro ak s σ H D I h
 refine wpAny_For (Dq (hi ak s σ H _ I h) fun v s1 h1=>Dq h1 fun UR s2 h2=>?_) hs
 obtain⟨it,fp,tn,J,H2,e,I2,T,cZ,f2,W,⟨m0,w0⟩,turn⟩:=h2
 subst e
 have stat:∀{H':Hp},(∀b∈fp,H' b=none)->∀b∈fp,sL X ak H' b:=fun hn b hb=>⟨hn b hb,(f2 b hb).2⟩
 refine codeAny_forLoop_any (fun n s'=>∃i σ' H',bQ X ak σ' H' s'/\tn i s'.heap/\(∀b∈fp,H' b=none)/\W i n σ' H') ?_ m0 ⟨0,σ,H2,I2,cZ,fun b hb=>(f2 b hb).1,w0⟩
 rintro n s3 ⟨i,σ3,H3,I3,lZ,fr3,w3⟩
 rcases turn i n σ3 H3 w3 with⟨stop,qn⟩|⟨go,N,hN,step⟩
 ·refine fT hp (jC (T.done X rfl rfl rfl hc i ak s3 σ3 H3 X.xe I3 (stat fr3) lZ stop) fun r s4 kt4 zq=>?_)
  obtain⟨hr,I4⟩:=zq
  subst hr
  exact kC ⟨σ3,H3,I4,qn⟩
 ·refine fT hp (jC (T.item X rfl rfl rfl hc i ak s3 σ3 H3 X.xe I3 (stat fr3) lZ go) fun r s4 kt4 zq=>?_)
  obtain⟨u,hr,h4⟩:=zq
  subst hr
  refine fT hp (Dq h4 fun _ s5 zq=>?_)
  obtain⟨x,H5,I5,r5,y5,st5,fr5⟩:=zq
  have I5':=I5.pinned (stat fr5) (T.obj _ _ st5)
  refine fT hp (jC (hg _ s5 σ3 H5 x u _ I5' r5 (step x H5 y5)) fun _ s6 kt6 zq=>?_)
  obtain⟨σ6,H6,I6,q6⟩:=zq
  refine fT hp (Dq (hb _ s6 σ6 H6 _ I6 q6) fun f s7 q7=>?_)
  have again:∀{σ7:St} {H7:Hp},bQ X (ak++yB fp s5.heap) σ7 H7 s7->N σ7 H7->∃m,m<n/\∃i σ' H',bQ X ak σ' H' s7/\tn i s7.heap/\(∀b∈fp,H' b=none)/\W i m σ' H':=fun{σ7 H7} I7 n7=>by
   obtain⟨m',hm,w7⟩:=hN σ7 H7 n7
   refine⟨m',hm,i+1,σ7,H7,I7.unpinned,T.keep _ _ _ st5 fun b hb o e=>(I7.pin (b,o) (aR _ (aR _ (jL hb e)))).1,fun b hb=>?_,w7⟩
   obtain⟨o,e,d⟩:=T.obj _ _ st5 b hb
   exact(I7.pin (b,o) (aR _ (aR _ (jL hb e)))).2.1
  cases f with
  |next=>obtain⟨σ7,H7,I7,n7⟩:=q7;exact again I7 n7
  |cont=>obtain⟨σ7,H7,I7,n7⟩:=q7;exact again I7 n7
  |brk=>obtain⟨σ7,H7,I7,q7⟩:=q7;exact⟨σ7,H7,I7.unpinned,q7⟩
  |ret v=>obtain⟨x7,σ7,H7,I7,r7,q7⟩:=q7;exact⟨x7,σ7,H7,I7.unpinned,r7,q7⟩
end
end L2
namespace L2
open PySem PySem.Spec PyProof.Rows
abbrev R2:=V->V->Hp->VK->Prop
def oy(X:Cx)(f:Value->Value->Sem Value)(r:R2):Prop:=
 ∀(ak:List (Addr×Obj)) (s:Shared) (σ:St) (H:Hp) (x y:V) (v u:Value) (Q:VK),bQ X ak σ H s->c8 s.toks x v->c8 s.toks y u->r x y H Q ->
  wpAny #[3] X.A (f v u) (EP X ak σ Q) X.xe s
def TY(X:Cx)(f:Value->Sem Value)(r:V->Hp->VK->Prop):Prop:=
 ∀(ak:List (Addr×Obj)) (s:Shared) (σ:St) (H:Hp) (x:V) (v:Value) (Q:VK),bQ X ak σ H s->c8 s.toks x v->r x H Q ->
  wpAny #[3] X.A (f v) (EP X ak σ Q) X.xe s
def i'(X:Cx)(f:Value)(r:List V->Hp->VK->Prop):Prop:=
 ∀(ak:List (Addr×Obj)) (s:Shared) (σ:St) (H:Hp) (xs:List V) (us:List Value) (Q:VK),bQ X ak σ H s->cL s.toks xs us->r xs H Q ->
  wpAny #[3] X.A (call f us) (EP X ak σ Q) X.xe s
def Qo(r:R2)(ta tb:TE):TE:=fun σ H Q=>ta σ H fun x H1=>tb σ H1 fun y H2=>r x y H2 Q
def Vo(r:V->Hp->VK->Prop)(ta:TE):TE:=fun σ H Q=>ta σ H fun x H1=>r x H1 Q
def rI(C:Int->Int->Prop)(g:Int->Int->V):R2:=fun x y H Q=>∃i j,x=.int i/\y=.int j/\C i j/\Q (g i j) H
def Js(g:Int->Int->V):R2:=fun x y H Q=>∃i j,x=.int i/\y=.int j/\Q (g i j) H
def rU(g:Int->V):V->Hp->VK->Prop:=fun x H Q=>∃i,x=.int i/\Q (g i) H
section
variable{a b:Expr}{ta tb tc:TE}
theorem M4(ha:PE X a ta)(hb:PE X b tb){R:V->V->Hp->Prop}(I:bQ X ak σ H s)
  (h:ta σ H fun x H1=>tb σ H1 fun y H2=>R x y H2) {Q:Value->Shared->Prop} {f:Value->Value->Sem Value}
  (hf:∀v u s2 x y H2,bQ X ak σ H2 s2->c8 s2.toks x v->c8 s2.toks y u->R x y H2->wpAny #[3] X.A (f v u) Q X.xe s2) :
  wpAny #[3] X.A (eval a X.env) (fun v s₁=>wpAny #[3] X.A (eval b X.env) (fun u s₂=>wpAny #[3] X.A (f v u) Q X.xe s₂) X.xe s₁) X.xe s:=by
 refine jC (ha ak s σ H _ I h) fun v s1 kt1 zq=>?_
 obtain⟨x,H1,I1,r1,q1⟩:=zq
 refine jC (hb ak s1 σ H1 _ I1 q1) fun u s2 kt2 zq=>?_
 obtain⟨y,H2,I2,r2,q2⟩:=zq
 exact hf v u s2 x y H2 I2 (r1.up kt2) r2 q2
theorem Qp{op:Operator}{r:R2}(ho:oy X (binaryOp op) r)(ha:PE X a ta)(hb:PE X b tb):PE X (.BinOp a op b pos) (Qo r ta tb):=by
 intro ak s σ H Q I h
 exact wpAny_BinOp (M4 ha hb I h fun v u s2 x y H2 I2 rx ry q=>ho ak s2 σ H2 x y v u Q I2 rx ry q)
theorem Qq{op:UnaryOp}{r:V->Hp->VK->Prop}(ho:TY X (unaryOp op) r)(ha:PE X a ta):PE X (.UnaryOp op a pos) (Vo r ta):=by
 intro ak s σ H Q I h
 exact UnaryOp_ (jC (ha ak s σ H _ I h) fun v s1 kt1 ⟨x,H1,I1,r1,q1⟩=>ho ak s1 σ H1 x v Q I1 r1 q1)
theorem P0{f:Value->Value->Sem Value}{C:Int->Int->Prop}{g:Int->Int->Int}
  (rule:∀(i j:Int) (t u:Tok) (s:Shared) (Q:Value->Shared->Prop) (E:Value->Shared->Prop),C i j->Q (.int (g i j) s.toks) { s with toks:=s.toks+1 }->wpAny #[3] X.A (f (.int i t) (.int j u)) Q E s) :
  oy X f (rI C fun i j=>.int (g i j)):=by
 intro ak s σ H x y v u Q I rx ry h
 obtain⟨i,j,rfl,rfl,hc,q⟩:=h
 obtain⟨t,rfl⟩:=rx
 obtain⟨t',rfl⟩:=ry
 exact rule i j t t' s _ _ hc ⟨.int (g i j),H,I.tok _,⟨_,rfl⟩,q⟩
theorem M5{f:Value->Value->Sem Value}{g:Int->Int->Int}
  (rule:∀(i j:Int) (t u:Tok) (s:Shared) (Q:Value->Shared->Prop) (E:Value->Shared->Prop),Q (.int (g i j) s.toks) { s with toks:=s.toks+1 }->wpAny #[3] X.A (f (.int i t) (.int j u)) Q E s) :
  oy X f (Js fun i j=>.int (g i j)):=by
 intro ak s σ H x y v u Q I rx ry h
 obtain⟨i,j,rfl,rfl,q⟩:=h
 obtain⟨t,rfl⟩:=rx
 obtain⟨t',rfl⟩:=ry
 exact rule i j t t' s _ _ ⟨.int (g i j),H,I.tok _,⟨_,rfl⟩,q⟩
theorem M6{f:Value->Value->Sem Value}{g:Int->Int->Bool}
  (rule:∀(i j:Int) (t u:Tok) (s:Shared) (Q:Value->Shared->Prop) (E:Value->Shared->Prop),Q (.bool (g i j)) s->wpAny #[3] X.A (f (.int i t) (.int j u)) Q E s) :
  oy X f (Js fun i j=>.bl (g i j)):=by
 intro ak s σ H x y v u Q I rx ry h
 obtain⟨i,j,rfl,rfl,q⟩:=h
 obtain⟨t,rfl⟩:=rx
 obtain⟨t',rfl⟩:=ry
 exact rule i j t t' s _ _ ⟨.bl (g i j),H,I,rfl,q⟩
def TZ(i j:Int):Prop:=0<j/\j<1073741824
def M7(i j:Int):Prop:=0<=j/\j<=1000000/\i.natAbs<2^64
def M8(i j:Int):Prop:=(-(2^64)<i/\i<2^64)\/(-(2^64)<j/\j<2^64)
theorem M8.ok{i j:Int}(h:M8 i j):IntMulOk i j:=by
 rcases h with⟨h1,h2⟩|⟨h1,h2⟩
 ·exact .of_left (intBits_le_64 h1 h2)
 ·exact .of_right (intBits_le_64 h1 h2)
theorem BY(k:Nat):(0:Int)<=2^k:=by
 rw[two_pow_cast]
 exact Int.natCast_nonneg _
theorem M9:oy X (binaryOp .Add) (Js fun i j=>.int (i+j)):=M5 fun _ _ _ _ _ _ _ q=>add_int q
theorem M_:oy X (binaryOp .Sub) (Js fun i j=>.int (i-j)):=M5 fun _ _ _ _ _ _ _ q=>sub_int q
theorem M':oy X (binaryOp .Mult) (rI M8 fun i j=>.int (i*j)):=P0 fun _ _ _ _ _ _ _ hc q=>mul_int q hc.ok
theorem JR:oy X (binaryOp .FloorDiv) (rI TZ fun i j=>.int (i/j)):=P0 fun i j _ _ _ _ _ hc q=>by
 have h1:(0:Int)<j:=hc.1
 have h2:j<1073741824:=hc.2
 exact floordiv_int #[0] (by rw[lE i #[0]];exact q) (.inl (PyProof.noPylong_small #[0]))
theorem Na:oy X (binaryOp .Mod) (rI (fun _ j=>0<j) fun i j=>.int (i%j)):=P0 fun i j _ _ _ _ _ hc q=>by
 have h1:(0:Int)<j:=hc
 exact mod_int' #[0] (by rw[Int.fmod_eq_emod_of_nonneg i #[0]];exact q)
theorem Nb:oy X (binaryOp .Pow) (rI M7 fun i j=>.int (i^j.toNat)):=P0 fun _ _ _ _ _ _ _ hc q=>pow_int_small hc.1 hc.2.1 hc.2.2 q
theorem FV:oy X (binaryOp .LShift) (rI M7 fun i j=>.int (i*2^j.toNat)):=P0 fun _ _ _ _ _ _ _ hc q=>lshift_int_small hc.1 hc.2.1 hc.2.2 q
theorem Nc:oy X (binaryOp .RShift) (rI (fun _ j=>0<=j) fun i j=>.int (i/2^j.toNat)):=P0 fun i j _ _ _ _ _ hc q=>
 rshift_int hc (by rw[lE i (BY _)];exact q)
theorem Nd:oy X (binaryOp .BitAnd) (Js fun i j=>.int (Builtin.bitAnd i j)):=M5 fun _ _ _ _ _ _ _ q=>and_int q
theorem Vp{f:Value->Sem Value}{g:Int->Int}
  (rule:∀(i:Int) (t:Tok) (s:Shared) (Q:Value->Shared->Prop) (E:Value->Shared->Prop),Q (.int (g i) s.toks) { s with toks:=s.toks+1 }->wpAny #[3] X.A (f (.int i t)) Q E s) :
  TY X f (rU fun i=>.int (g i)):=by
 intro ak s σ H x v Q I rx h
 obtain⟨i,rfl,q⟩:=h
 obtain⟨t,rfl⟩:=rx
 exact rule i t s _ _ ⟨.int (g i),H,I.tok _,⟨_,rfl⟩,q⟩
theorem Nf:TY X (unaryOp .USub) (rU fun i=>.int (-i)):=Vp fun _ _ _ _ _ q=>neg_int q
end
section
variable{a b:Expr}{ta tb tc:TE}
theorem Ng{Q:VK}{k k':Bool}(I:bQ X ak σ H s)(q:Q (.bl k) H)(e:k=k'):EP X ak σ Q (.bool k') s:=by
 subst e
 exact⟨.bl k,H,I,rfl,q⟩
theorem Qr:oy X (compareOp .Lt) (Js fun i j=>.bl (decide (i<j))):=M6 fun _ _ _ _ _ _ _ q=>lt_int q
theorem Qs:oy X (compareOp .Gt) (Js fun i j=>.bl (decide (j<i))):=M6 fun _ _ _ _ _ _ _ q=>gt_int q
theorem Qt:oy X (compareOp .GtE) (Js fun i j=>.bl (decide (j<=i))):=M6 fun _ _ _ _ _ _ _ q=>ge_int q
theorem Es:oy X (compareOp .In) (fun x y H Q=>∃i j,x=.str i/\y=.str j/\Q (.bl (!(Builtin.Str.occurrences j i 0 j.length 1).isEmpty)) H):=by
 intro ak s σ H x y v u Q I rx ry h
 obtain⟨i,j,rfl,rfl,q⟩:=h
 obtain⟨t,rfl⟩:=rx
 obtain⟨t',rfl⟩:=ry
 exact in_str (Ng I q rfl)
theorem FW(b:Expr)(h:op≠.In:=by decide)(h2:op≠.NotIn:=by decide):behindInMarks op b=false:=by
 have e1:(op==CmpOp.In)=false:=by cases op<;>first|rfl|exact absurd rfl h
 have e2:(op==CmpOp.NotIn)=false:=by cases op<;>first|rfl|exact absurd rfl h2
 cases b<;>simp[behindInMarks,e1,e2]
theorem JS{r:R2}(ho:oy X (compareOp op) r)(ha:PE X a ta)(hb:PE X b tb)(hm:behindInMarks op b=false):PE X (.Compare a [op] [b] pos) (Qo r ta tb):=by
 intro ak s σ H Q I h
 exact wpAny_Compare1 (M4 ha hb I h fun v u s2 x y H2 I2 rx ry q=>ho ak s2 σ H2 x y v u Q I2 rx ry q) hm
def Qu(t:TE):TT:=fun σ H Q=>t σ H fun x H'=>∃k,x=.bl k/\Q k H'
theorem JT{r:R2}(ho:oy X (compareOp op) r)(ha:PE X a ta)(hb:PE X b tb)(hm:behindInMarks op b=false):PT X (.Compare a [op] [b] pos) (Qu (Qo r ta tb)):=by
 intro ak s σ H Q I h
 refine og (jC (ha ak s σ H _ I h) fun v s1 kt1 ⟨x,H1,I1,r1,q1⟩=>jC (hb ak s1 σ H1 _ I1 q1) fun u s2 kt2 ⟨y,H2,I2,r2,q2⟩=>
  jC (ho ak s2 σ H2 x y v u _ I2 (r1.up kt2) r2 q2) fun c s3 kt3 ⟨z,H3,I3,r3,k,e,q3⟩=>?_) hm
 subst e
 cases r3
 exact hW ⟨H3,I3,q3⟩
theorem sM:(sizeLine:Nat)<2^63:=by rw[j'];decide
theorem bQ.addS{Q:VK}{i j:Str}{t:Tk s.toks i}{t':Tk s.toks j}(I:bQ X ak σ H s)(q:Q (.str (i++j)) H)(hz:i.length+j.length<=sizeLine) :
  (if i.length==0 then Made.val (.str j t'.1)else if j.length==0 then Made.val (.str i t.1)else Made.str (i++j)).post (EP X ak σ Q) s:=by
 split
 ·rename_i h
  have e:i++j=j:=by
   have h0:i.cps=#[]:=gq (by simpa[Str.length]using h)
   show Str.append i j=j
   cases hj:j;simp[Str.append,h0]
  rw[e]at q
  exact⟨.str j,H,I,⟨t',rfl⟩,q⟩
 ·split
  ·rename_i h
   have e:i++j=i:=by
    have h0:j.cps=#[]:=gq (by simpa[Str.length]using h)
    show Str.append i j=i
    cases hj:i;simp[Str.append,h0]
   rw[e]at q
   exact⟨.str i,H,I,⟨t,rfl⟩,q⟩
  ·exact⟨by rw[strLen_append];exact hz,⟨.str (i++j),H,I.tok _,I.tkS,q⟩⟩
theorem BZ:oy X (binaryOp .Add) (fun x y H Q=>∃i j,x=.str i/\y=.str j/\i.length+j.length<=sizeLine/\Q (.str (i++j)) H):=by
 intro ak s σ H x y v u Q I rx ry h
 obtain⟨i,j,rfl,rfl,hz,q⟩:=h
 obtain⟨t,rfl⟩:=rx
 obtain⟨t',rfl⟩:=ry
 exact PySem.P.add_str (I.addS q hz)
theorem oz{x:V}(r:cL nk [x] us):∃u,us=[u]/\c8 nk x u:=by
 cases r with
 |cons r1 r2=>cases r2;exact⟨_,rfl,r1⟩
theorem Li{x y:V}(r:cL nk [x,y] us):∃u w',us=[u,w']/\c8 nk x u/\c8 nk y w':=by
 cases r with
 |cons r1 r2=>
  cases r2 with
  |cons r3 r4=>cases r4;exact⟨_,_,rfl,r1,r3⟩
theorem Et(hc:X.calm=true):i' X (.builtin "max") (fun xs H Q=>∃i j,xs=[.int i,.int j]/\Q (.int (if j>i then j else i)) H):=by
 intro ak s σ H xs us Q I r h
 obtain⟨i,j,rfl,q⟩:=h
 obtain⟨u,w',rfl,⟨t,rfl⟩,⟨t',rfl⟩⟩:=Li r
 refine up (max_two_ints (I.ok.hd hc) fun h' tk k hk=>⟨_,H,I.kept k,?_,q⟩)
 by_cases hj:j>i
 ·rw[aF hj,aF hj];exact⟨_,rfl⟩
 ·rw[aO hj,aO hj];exact⟨_,rfl⟩
theorem Eu(hc:X.calm=true):i' X (.builtin "min") (fun xs H Q=>∃i j,xs=[.int i,.int j]/\Q (.int (if j<i then j else i)) H):=by
 intro ak s σ H xs us Q I r h
 obtain⟨i,j,rfl,q⟩:=h
 obtain⟨u,w',rfl,⟨t,rfl⟩,⟨t',rfl⟩⟩:=Li r
 refine up (min_two_ints (I.ok.hd hc) fun h' tk k hk=>⟨_,H,I.kept k,?_,q⟩)
 by_cases hj:j<i
 ·rw[aF hj,aF hj];exact⟨_,rfl⟩
 ·rw[aO hj,aO hj];exact⟨_,rfl⟩
theorem xy:i' X (.type "int") (fun xs H Q=>(∃i,xs=[.int i]/\Q (.int i) H)\/∃k,xs=[.bl k]/\Q (.int (if k then 1 else 0)) H):=by
 intro ak s σ H xs us Q I r h
 rcases h with⟨i,rfl,q⟩|⟨k,rfl,q⟩
 ·obtain⟨u,rfl,t,rfl⟩:=oz r
  exact call_int_int ⟨.int i,H,I,⟨_,rfl⟩,q⟩
 ·obtain⟨u,rfl,r1⟩:=oz r
  cases r1
  exact call_int_bool ⟨.int (if k then 1 else 0),H,I.tok _,⟨_,rfl⟩,q⟩
end
end L2
namespace L2
open PySem PySem.Spec PyProof.Rows
structure B0(h:Heap)(x dx C:Addr)(mA:Str->Option Value):Prop where
 obj:h.get? x=some (instObj C dx)
 ns:h.Ns1 dx mA
 ne:dx≠x
theorem Ev{dx:Addr}(n:h.Ns1 dx mA):∃od,h.get? dx=some od/\∀name,lookIn name od=some (mA name):=by
 obtain⟨o,es,ep,ho,hd,hk,_,hm⟩:=n
 refine⟨o,ho,fun name=>?_⟩
 have e:=hm name
 unfold nsFind findBy at e
 rw[<- Array.find?_toList]at e
 unfold lookIn
 rw[hd]
 dsimp only
 split
 ·rename_i y q
  rw[q]at e
  exact ic some e
 ·rename_i q
  rw[q]at e
  have a:es.toList.any (·.refKey)=false:=by
   rw[List.any_eq_false]
   intro y hy
   obtain⟨z,t,hkey⟩:=hk y (Array.mem_toList_iff.mp hy)
   simp[DictEntry.refKey,hkey]
  have a':¬ es.toList.any (·.refKey)=true:=by rw[a];exact eQ
  rw[aO a']
  exact ic some e
theorem B0.look{x dx:Addr}(I:B0 h x dx C mA):∃od,PySem.W.InstAt h x (instObj C dx) C (some od)/\∀name,lookIn name od=some (mA name):=
 let ⟨od,ho,hl⟩:=Ev I.ns
 ⟨od,⟨I.obj,rfl,rfl,ho⟩,hl⟩
section
variable{w:World}{x dx f:Addr}
theorem JU{UH:Bool}(X:K.In s.heap)(I:B0 s.heap x dx C mA)(hg:plainGet K C name=true)(hh:PySem.W.hasDictIn K C=true)
  (ha:findIn K (.ref C) name=some none) (hv:mA name=some v) (Tw:PySem.W.handedIn v=true) (h:Q v { s with toks:=s.toks+1 }) :
  wpAny #[8] A (getAttr (.ref x) name UH) Q E s:=by
 obtain⟨od,J,hl⟩:=I.look
 exact PySem.W.get_value X J (PySem.W.plainGet_of hg).1 (PySem.W.findObj_own hh ha rfl (by rw[hl,hv])) Tw h
theorem FX{Q:Value×List Value->Shared->Prop}(X:K.In s.heap)(I:B0 s.heap x dx C mA)(hg:plainGet K C name=true)
  (hf:findIn K (.ref C) name=some (some (.ref f))) (ht:isFn K (.ref f)=true) (hv:mA name=none) (h:Q (.ref f,[.ref x]) s) :
  wpAny #[8] A (getMethod (.ref x) name pl) Q E s:=by
 obtain⟨od,J,hl⟩:=I.look
 exact PySem.W.method_fn X J (PySem.W.plainGet_of hg).1 (PySem.W.plainGet_of hg).2 hf (c_.mp ht) (by show(lookIn name od).map (·.isSome)=some false;rw[hl,hv];rfl) h
theorem JV{ns:List Str}{Q:Unit->Shared->Prop}(X:K.In s.heap)(I:B0 s.heap x dx C mA)
  (hs:findIn K (.ref C) "__setattr__"=some (some (.builtin "object.__setattr__"))) (hp:PySem.W.plainOver K C=true) (ht:PySem.W.takerIn K C name=some none) (hh:PySem.W.hasDictIn K C=true)
  (hw:PySem.Within mA ns) (hsz:ns.length<=sizeLine)
  (h:∀h',B0 h' x dx C (fun y=>if y=name then some v else mA y)->Heap.SameBut dx s.heap h'->Q () { s with heap:=h',toks:=s.toks+2 }) :
  wpAny #[8] A (setAttr (.ref x) name v) Q E s:=by
 obtain⟨od,J,hl⟩:=I.look
 refine PySem.W.set_plain X J hs (PySem.W.osa_open (s:={ s with toks:=s.toks+1 }) (r:=none) X J hp ht fun b=>?_)
 obtain⟨cd,hc,hd'⟩:=PySem.W.any_some hh
 have hx:s.heap.get? x=some ⟨.ref C,some dx,.plain,#[]⟩:=I.obj
 refine af (ay (af (af (wpAny_loadPart hx (af (PySem.W.Looks.here (s:={ s with toks:=s.toks+1 }) (PySem.W.looks_clsIn X hc) ?_))))))
 rw[hd']
 refine ay (a:=some dx) (af (ay (af ?_)))
 refine wpAny_nsSet1 (s:={ s with toks:=s.toks+1 }) I.ns fun h' SV tX=>?_
 obtain⟨oD,esD,epD,hoD,hdD,hcD⟩:=SV.count (PySem.Within.cons name v hw)
 refine af (wpAny_lookBehind hoD (by rw[hdD];exact pastItsLine_dict (aN hcD (by rw[bh];omega))) ?_)
 exact ay (h _ ⟨(tX.2 _ (Ne.symm I.ne)).trans I.obj,SV,I.ne⟩ tX)
theorem FY{R:Result->Shared->Prop}{vs:List Value}(X:K.In s.heap)(hm:makesIn K C=true)
  (hi:findIn K (.ref C) "__init__"=some (some (.ref f))) (hf:PySem.W.typeIn K (.ref f)=some (.type "function"))
  (h:codeAny #[8] (A.under (.builtin "type.__call__" ⟨.ref C::vs,kw⟩)) (.call (.ref f) ⟨.ref #[7]::vs,kw⟩) (PySem.W.InitBack #[7] R)
   { s with heap:=(s.heap.push emptyDict).push (instObj C s.heap.objs.size) }) :
  codeAny #[8] A (.call (.ref C) ⟨vs,kw⟩) R s:=by
 obtain⟨hh,g,d,t,os⟩:=s
 exact PySem.W.make_core (PySem.W.makes_of X hm) (PySem.W.looks_findIn X hi) (fun self=>PySem.W.bind_fn X self hf) (.inl rfl) h
end
def n5(f:Str)(v:V):List (Str×V)->List (Str×V)
 |[]=>[(f,v)]
 |(g,x)::r=>if g=f then(g,v)::r else(g,x)::n5 f v r
theorem t0(f g:Str)(v:V):∀fs:List (Str×V),(n5 f v fs).lookup g=if g=f then some v else fs.lookup g
 |[]=>by
  show List.lookup g [(f,v)]=_
  by_cases h:g=f
  ·have hb:(g==f)=true:=c_.mpr h
   simp only[List.lookup,hb,aF h]
  ·have hb:(g==f)=false:=bz.mpr h
   simp only[List.lookup,hb,aO h]
 |(k,x)::r=>by
  have ih:=t0 f g v r
  rw[show n5 f v ((k,x)::r)=(if k=f then(k,v)::r else(k,x)::n5 f v r)from rfl]
  by_cases hk:k=f
  ·rw[aF hk]
   by_cases h:g=k
   ·have hb:(g==k)=true:=c_.mpr h
    simp only[List.lookup,hb,aF (h.trans hk)]
   ·have hb:(g==k)=false:=bz.mpr h
    simp only[List.lookup,hb,aO (fun e:g=f=>h (e.trans hk.symm))]
  ·rw[aO hk]
   by_cases h:g=k
   ·have hb:(g==k)=true:=c_.mpr h
    simp only[List.lookup,hb,aO (fun e:g=f=>hk (h.symm.trans e))]
   ·have hb:(g==k)=false:=bz.mpr h
    simp only[List.lookup,hb]
    exact ih
theorem sN(f:Str)(v:V):∀fs:List (Str×V),f∈(n5 f v fs).map (·.1)/\∀g,g∈fs.map (·.1)->g∈(n5 f v fs).map (·.1)
 |[]=>⟨by simp[n5],fun g h=>by simp at h⟩
 |(k,x)::r=>by
  obtain⟨i1,i2⟩:=sN f v r
  rw[show n5 f v ((k,x)::r)=(if k=f then(k,v)::r else(k,x)::n5 f v r)from rfl]
  by_cases hk:k=f
  ·rw[aF hk]
   subst hk
   exact⟨by simp,fun g h=>by simpa using h⟩
  ·rw[aO hk]
   refine⟨?_,fun g h=>?_⟩
   ·rw[a9]
    exact aS _ i1
   ·rw[a9]at h ⊢
    rcases aT.mp h with e|e
    ·exact aT.mpr (.inl e)
    ·exact aS _ (i2 g e)
theorem t5(f:Str)(v:V):∀fs:List (Str×V),(n5 f v fs).length<=fs.length+1
 |[]=>by simp[n5]
 |(k,x)::r=>by
  have ih:=t5 f v r
  rw[show n5 f v ((k,x)::r)=(if k=f then(k,v)::r else(k,x)::n5 f v r)from rfl]
  by_cases hk:k=f
  ·rw[aF hk,bh,bh];omega
  ·rw[aO hk,bh,bh];omega
theorem sJ.some_of{v:V}{o:Option Value}(r:sJ nk (some v) o):∃u,o=some u/\c8 nk v u:=by
 cases o with
 |none=>exact(show False from r).elim
 |some u=>exact⟨u,rfl,r⟩
theorem sJ.none_of{o:Option Value}(r:sJ nk none o):o=none:=by
 cases o with
 |none=>rfl
 |some u=>exact(show False from r).elim
theorem Ew{v:V}(r:c8 nk v u):PySem.W.handedIn u=true:=by
 cases v with
 |non=>cases(show u=Value.none from r);rfl
 |bl b=>cases(show u=Value.bool b from r);rfl
 |int i=>obtain⟨t,e⟩:=(show ∃t,u=Value.int i t from r);cases e;rfl
 |str x=>obtain⟨t,e⟩:=(show ∃t:Tk _ x,u=Value.str x t.1 from r);cases e;rfl
 |byt b=>obtain⟨t,e⟩:=(show ∃t,u=Value.bytes b t from r);cases e;rfl
 |flt b=>obtain⟨t,e⟩:=(show ∃t,u=Value.float b t from r);cases e;rfl
 |ref a=>cases(show u=Value.ref a from r);rfl
 |ty n=>cases(show u=Value.type n from r);rfl
section
variable{w:World}{a dx:Addr}{fs SL:List (Str×V)}
theorem uX(hok:pN P w nk H h)(e:H a=some (.ins C dx fs)):∃mA,B0 h a dx C mA/\(∀f,sJ nk (fs.lookup f) (mA f))/\PySem.Within mA (fs.map (·.1))/\fs.length<=1000/\H dx=some (.own a):=by
 obtain⟨d,z,ne,ob,mA,n,r,q⟩:=(show fA P w _ H h a (.ins C dx fs)from hok a _ e)
 exact⟨mA,⟨ob,n,ne⟩,r,q,z,d⟩
end
structure Cls(K:Frag)(C:Addr):Prop where
 pg:plainGet K C Str.empty=true
 hd:PySem.W.hasDictIn K C=true
 po:PySem.W.plainOver K C=true
 sa:findIn K (.ref C) "__setattr__"=some (some (.builtin "object.__setattr__"))
theorem Cls.get(c:Cls K C)(f:Str):plainGet K C f=true:=c.pg
def qA(K:Frag)(C:Addr)(f:Str):Prop:=findIn K (.ref C) f=some none
theorem qA.taker{f:Str}(n:qA K C f):PySem.W.takerIn K C f=some none:=by
 unfold PySem.W.takerIn
 rw[show findIn K (.ref C) f=some none from n]
 rfl
structure Qw(K:Frag)(C:Addr)(m:Str)(f:Addr):Prop where
 at_:findIn K (.ref C) m=some (some (.ref f))
 fn:isFn K (.ref f)=true
 kp:keepIn K (.ref f)=true
section
variable{a dx:Addr}{fs:List (Str×V)}{f:Str}{v:V}
theorem B1{b:Bool}(I:bQ X ak σ H s)(e:H a=some (.ins C dx fs))(c:Cls X.K C)(n:qA X.K C f)(l:fs.lookup f=some v)
  (h:∀u s',bQ X ak σ H s'->c8 s'.toks v u->Q u s'):wpAny #[3] A (getAttr (.ref a) f b) Q E s:=by
 obtain⟨mA,O,r,_,_,_⟩:=uX I.hok e
 obtain⟨u,hu,ru⟩:=sJ.some_of (v:=v) (o:=mA f) (by rw[<- l];exact r f)
 exact JU I.kIn O (c.get f) c.hd n hu (Ew ru) (h u _ (I.tok _) (ru.up (bt _)))
theorem vb{m:Str}{g:Addr}{Q:Value×List Value->Shared->Prop}(I:bQ X ak σ H s)(e:H a=some (.ins C dx fs))(c:Cls X.K C)(k:Qw X.K C m g)(l:fs.lookup m=none)
  (h:Q (.ref g,[.ref a]) s):wpAny #[3] A (getMethod (.ref a) m pl) Q E s:=by
 obtain⟨mA,O,r,_,_,_⟩:=uX I.hok e
 have hn:mA m=none:=sJ.none_of (by rw[<- l];exact r m)
 exact FX I.kIn O (c.get m) k.at_ k.fn hn h
theorem B2{y:V}{Q:Unit->Shared->Prop}(I:bQ X ak σ H s)(e:H a=some (.ins C dx fs))(c:Cls X.K C)(n:qA X.K C f)(hl:fs.length<1000)(ry:c8 s.toks y u)
  (h:∀s',bQ X ak σ (f_ H a (.ins C dx (n5 f y fs))) s'->Q () s'):wpAny #[3] A (setAttr (.ref a) f u) Q E s:=by
 obtain⟨mA,O,r,wi,_,ho⟩:=uX I.hok e
 have hz:(fs.map (·.1)).length<=sizeLine:=by rw[aD,j'];omega
 refine JV I.kIn O c.sa c.po n.taker c.hd wi hz fun h' O' sb=>h _ ?_
 have hd:∃o,h'.get? dx=some o:=let ⟨o,_,_,e',_⟩:=O'.ns;⟨o,e'⟩
 refine I.write (x:=a) (e:=dx) (by rw[e];exact True.intro) (.inr ho) (fun b q hb z=>(sb.2 b hb).trans z) hd ?_
 refine⟨by rw[df O.ne];exact ho,?_,O.ne,O'.obj,_,O'.ns,fun g=>?_,fun g hg=>?_⟩
 ·have:=t5 f y fs;omega
 ·show sJ _ ((n5 f y fs).lookup g) (if g=f then some u else mA g)
  rw[t0]
  by_cases q:g=f
  ·rw[aF q,aF q];exact c8.up (iu _ _) ry
  ·rw[aO q,aO q];exact(r g).up (iu _ _)
 ·by_cases q:g=f
  ·rw[q];exact(sN f y fs).1
  ·refine(sN f y fs).2 g (wi g fun z=>hg ?_)
   show(if g=f then some u else mA g)=none
   rw[aO q];exact z
theorem bQ.made(I:bQ X ak σ H s):bQ X ak σ (f_ (f_ H s.heap.objs.size (.own #[7])) #[7] (.ins C s.heap.objs.size []))
  { s with heap:=(s.heap.push emptyDict).push (instObj C s.heap.objs.size) }:=by
 have e1:(s.heap.push emptyDict).get? s.heap.objs.size=some emptyDict:=aC s.heap rfl
 have e2:((s.heap.push emptyDict).push (instObj C s.heap.objs.size)).get? #[7]=some (instObj C s.heap.objs.size):=by
  have:=aC (s.heap.push emptyDict) (o:=instObj C s.heap.objs.size) rfl
  rwa[bx]at this
 have e3:(s.heap.push emptyDict).Ns s.heap.objs.size (fun _=>none):=⟨emptyDict,#[],_,e1,rfl,(fun e he=>absurd he #[15]),fun _=>rfl⟩
 have I1:=I.laid (a:=s.heap.objs.size) (o:=.own #[7]) (h':=s.heap.push emptyDict) (t':=s.toks) (fun b u q=>aw _ q) (az _) ⟨_,e1⟩
 refine I1.laid (a:=s.heap.objs.size+1) (o:=.ins C s.heap.objs.size []) (t':=s.toks) (fun b u q=>aw _ q) (Nat.le_of_eq (bx _ _)) ?_
 have ne:s.heap.objs.size≠s.heap.objs.size+1:=bf (b9 _)
 refine⟨by rw[df ne,gN],cx _,ne,e2,fun _=>none,(Heap.Ns1.of_empty e3).at fun o q=>aw _ q,fun _=>True.intro,fun y hy=>absurd rfl hy⟩
theorem JW{w:World}(hb:attributeBase e f env (eval e env)=eval e env)
  (h:wpAny #[8] A (eval e env) (fun o s₁=>wpAny #[8] A (getAttr o f true) Q E s₁) E s):wpAny #[8] A (eval (.Attribute e f pos) env) Q E s:=
 Attribute_any_ h (by rw[arm_eval_Attribute,hb])
end
def T0(K:Frag)(ta:TE)(f:Str):TE:=fun σ H Q=>ta σ H fun x H1=>∃a C dx fs v,x=.ref a/\H1 a=some (.ins C dx fs)/\Cls K C/\qA K C f/\fs.lookup f=some v/\Q v H1
def T3(K:Frag)(ta tv:TE)(f:Str):TS:=fun D σ H=>tv σ H fun y H1=>ta σ H1 fun x H2=>∃a C dx fs,x=.ref a/\H2 a=some (.ins C dx fs)/\Cls K C/\qA K C f/\fs.length<1000 /\
 D.nx σ (f_ H2 a (.ins C dx (n5 f y fs)))
section
variable{value:Expr}{f:Str}{UO:Pos}{ta tv:TE}
theorem Nh(he:PE X e ta)(hb:attributeBase e f X.env (eval e X.env)=eval e X.env):PE X (.Attribute e f pos) (T0 X.K ta f):=by
 intro ak s σ H Q I h
 refine JW hb (jC (he ak s σ H _ I h) fun u s1 kt1 zq=>?_)
 obtain⟨x,H1,I1,rx,a,C,dx,fs,v,ex,ea,c,n,l,q⟩:=zq
 subst ex
 obtain rfl:u=Value.ref a:=rx
 exact B1 I1 ea c n l fun u' s2 I2 ru=>⟨v,H1,I2,ru,q⟩
theorem Ni(ha:PE X o ta)(hv:PE X value tv)(hs:swapsWith value (some (.Attribute o f iq)) pos.line X.env=pure false):PS X (.Assign [.Attribute o f iq] value pos) (T3 X.K ta tv f):=by
 intro ak s σ H D I h
 refine plainObj_wpAny_Assign_Attribute (jC (hv ak s σ H _ I h) fun u s1 kt1 ⟨y,H1,I1,ry,q⟩=>jC (ha ak s1 σ H1 _ I1 q) fun ov s2 kt2 ⟨x,H2,I2,rx,a,C,dx,fs,ex,ea,c,n,l,q2⟩=>?_) hs
 subst ex
 obtain rfl:ov=Value.ref a:=rx
 exact B2 I2 ea c n l (ry.up kt2) fun s3 I3=>⟨σ,_,I3,q2⟩
end
section
variable{c:Value}{b:Bool}
inductive ux(K:Frag)(H:Hp):V->Value->Prop where
 |non:ux K H .non (.type "NoneType")
 |bl (x:Bool):ux K H (.bl x) (.type "bool")
 |int (i:Int):ux K H (.int i) (.type "int")
 |str (x:Str):ux K H (.str x) (.type "str")
 |flt (x:UInt64):ux K H (.flt x) (.type "float")
 |lst {a:Addr} {xs:List V} (e:H a=some (.lst xs)):ux K H (.ref a) (.type "list")
 |frz {a:Addr} {o:Obj} {xs:List V} (e:H a=some (.frz o (.lst xs))):ux K H (.ref a) (.type "list")
 |tup {a:Addr} {xs:List V} (e:H a=some (.tup xs)):ux K H (.ref a) (.type "tuple")
 |dK {a:Addr} {kvs:List (mz×V)} (e:H a=some (.dK kvs)):ux K H (.ref a) (.type "dict")
 |dT {a:Addr} {kvs:List (List mz×V)} (e:H a=some (.dT kvs)):ux K H (.ref a) (.type "dict")
 |ins {a C dx:Addr} {fs:List (Str×V)} (e:H a=some (.ins C dx fs)) (cl:Cls K C) (ha:findIn K (.ref C) "__class__"=some (some (.builtin "object.__class__")))
   (hn:PySem.W.specialIn K (.builtin "object.__class__") "__get__"=some (some (.builtin "getset_descriptor.__get__"))) (TC:PySem.W.takesIn K (.builtin "object.__class__")=some true)
   (hm:PySem.W.mroIn K C (.type "object")=some true):ux K H (.ref a) (.ref C)
theorem pR{x:V}{t:Value}(I:bQ X ak σ H s)(rx:c8 s.toks x u)(ty:ux X.K H x t)(e:PySem.W.kitOne X.K t c=some b)(h:∀tk,Q (.bool b) { s with toks:=tk }) :
  wpAny #[3] A (call (.builtin "isinstance") [u,c]) Q E s:=by
 cases ty with
 |non=>cases(show u=Value.none from rx);exact kia_one PySem.W.kitx_none I.kIn True.intro e (fun z=>nomatch z) h
 |bl y=>cases(show u=Value.bool y from rx);exact kia_one PySem.W.kitx_bool I.kIn True.intro e (fun z=>nomatch z) h
 |int i=>obtain⟨t,q⟩:=(show ∃t,u=Value.int i t from rx);cases q;exact kia_one PySem.W.kitx_int I.kIn True.intro e (fun z=>nomatch z) h
 |str y=>obtain⟨t,q⟩:=(show ∃t:Tk _ y,u=Value.str y t.1 from rx);cases q;exact kia_one PySem.W.kitx_str I.kIn True.intro e (fun z=>nomatch z) h
 |flt y=>obtain⟨t,q⟩:=(show ∃t,u=Value.float y t from rx);cases q;exact kia_one PySem.W.kitx_float I.kIn True.intro e (fun z=>nomatch z) h
 |@lst a xs ea=>
  cases(show u=Value.ref a from rx)
  obtain⟨_,_,n,_,h1⟩:=(show fA X.prog X.w _ H s.heap a (.lst xs)from I.hok a _ ea)
  exact kia_one PySem.W.kitx_list I.kIn ⟨_,h1,rfl⟩ e (fun z=>nomatch z) h
 |@frz a ob xs ea=>
  cases(show u=Value.ref a from rx)
  obtain⟨_,_,_,n,_,h1⟩:=(show fA X.prog X.w _ H s.heap a (.frz ob (.lst xs))from I.hok a _ ea)
  exact kia_one PySem.W.kitx_list I.kIn ⟨_,h1,rfl⟩ e (fun z=>nomatch z) h
 |@tup a xs ea=>
  cases(show u=Value.ref a from rx)
  obtain⟨_,_,_,p⟩:=(show fA X.prog X.w _ H s.heap a (.tup xs)from I.hok a _ ea)
  obtain⟨o,h1,h2,_⟩:=p
  exact kia_one PySem.W.kitx_tuple I.kIn ⟨o,h1,h2⟩ e (fun z=>nomatch z) h
 |@dK a kvs ea=>
  cases(show u=Value.ref a from rx)
  obtain⟨_,_,vs,_,p⟩:=(show fA X.prog X.w _ H s.heap a (.dK kvs)from I.hok a _ ea)
  obtain⟨o,es,ep,h1,h2,_⟩:=p
  exact kia_one PySem.W.kitx_dict I.kIn ⟨o,h1,h2.1⟩ e (fun z=>nomatch z) h
 |@dT a kvs ea=>
  cases(show u=Value.ref a from rx)
  obtain⟨_,_,xs,_,o,es,ep,h1,h2,_⟩:=(show fA X.prog X.w _ H s.heap a (.dT kvs)from I.hok a _ ea)
  exact kia_one PySem.W.kitx_dict I.kIn ⟨o,h1,h2.1⟩ e (fun z=>nomatch z) h
 |@ins a C dx fs ea cl ha hn TC hm=>
  cases(show u=Value.ref a from rx)
  obtain⟨mA,O,_⟩:=uX I.hok ea
  obtain⟨od,J,_⟩:=O.look
  exact kia_one (PySem.W.kitx_own (cl.get _) cl.hd ha hn TC hm) I.kIn J e (fun z=>nomatch z) h
end
end L2
namespace L2
open PySem PySem.Spec PyProof.Rows
structure iL(k:Nat)(A:Around):Prop where
 hd:A.handled=none
 dp:A.depth+2*k+5<recursionLimit
 un:A.units+16*k+200<cLine
theorem iL.mono{k:Nat}(r:iL k A)(h:j<=k):iL j A:=⟨r.hd,by have:=r.dp;omega,by have:=r.un;omega⟩
theorem iL.deeper{k:Nat}(r:iL (k+1) A)(env:Env):iL k (A.deeper env):=
 ⟨r.hd,by have:=r.dp;show A.depth+1+2*k+5<_;omega,by have:=r.un;show A.units+3+16*k+200<_;omega⟩
theorem B3:(A.under (.builtin "type.__call__" ⟨.ref C::us,kw⟩)).depth=A.depth+1:=by
 first|rfl|simp[Around.under,Code.weight,Code.isCreation,Code.isGuard,Code.isCaller,Code.frames,Code.isFrame,guardIds]
theorem B4:(A.under (.builtin "type.__call__" ⟨.ref C::us,kw⟩)).units=A.units+1:=by
 first|rfl|simp[Around.under,Code.cUnits,Code.frames,Code.isFrame]
theorem iL.make{k:Nat}(r:iL (k+1) A)(C:Addr)(us:List Value)(kw:List (Str×Value)):iL k (A.under (.builtin "type.__call__" ⟨.ref C::us,kw⟩)):=
 ⟨r.hd,by have:=r.dp;rw[B3];omega,by have:=r.un;rw[B4];omega⟩
theorem iL.depth{k:Nat}(r:iL k A):A.depth<recursionLimit:=by have:=r.dp;omega
theorem iL.units{k:Nat}(r:iL k A):A.units+64<cLine:=by have:=r.un;omega
def T4:TA:=fun _ H Q=>Q [] H
def Qx(ta:TE)(tr:TA):TA:=fun σ H Q=>ta σ H fun x H1=>tr σ H1 fun xs H2=>Q (x::xs) H2
section
variable{t:TA}
theorem FZ:PA X [] T4:=fun _ _ _ _ H Q I h=>f6 ⟨[],H,I,.nil,h⟩
theorem yC(ha:PE X e te)(hr:PA X es t)(hs:starEach (e::es) X.env=(false,eval e X.env)::starEach es X.env:=by rfl):PA X (e::es) (Qx te t):=by
 intro pos ak s σ H Q I h
 rw[hs]
 show wpAny _ _ (spliced ((false,eval e X.env)::backTo pos (starEach es X.env))) _ _ s
 refine eR (jC (ha ak s σ H _ I h) fun u s1 kt1 zq=>?_)
 obtain⟨x,H1,I1,r1,q1⟩:=zq
 exact jC (hr pos ak s1 σ H1 _ I1 q1) fun us s2 kt2 ⟨xs,H2,I2,r2,q2⟩=>⟨x::xs,H2,I2,.cons (r1.up kt2) r2,q2⟩
end
abbrev Sp:=List V->Hp->VK->XK->Prop
abbrev Ex:=List Env->Hp->Shared->XK->Value->Shared->Prop
structure B5(P:Program)(w:World)(K:Frag)(mg:Str->Option Value)(base:Heap)(A:Around)(outer:List Env)(s:Shared)(H:Hp):Prop where
 frames:A.frames=some outer
 mod:Mod K mg base
 bs:∀b o,base.get? b=some o->s.heap.get? b=some o/\H b=none
 bsz:base.objs.size<=s.heap.objs.size
 funs:s.heap.FunFrames base outer
 frf:∀b∈uV outer,H b=none
 hok:pN P w s.toks H s.heap
 bare:AllBare s.gens
def CE(outer:List Env)(P:Program)(w:World)(H:Hp)(s:Shared)(Q:VK)(u:Value)(s':Shared):Prop:=
 ∃v H',s'.os=s.os/\AllBare s'.gens/\Un (uV outer) [] H H' s.heap s'.heap/\pN P w s'.toks H' s'.heap/\c8 s'.toks v u/\Q v H'
def CR(CX:Ex)(outer:List Env)(P:Program)(w:World)(H:Hp)(s:Shared)(Q:VK)(E:XK)(r:Result)(s':Shared):Prop:=
 match r with
 |.ok (.ret u)=>CE outer P w H s Q u s'
 |.ok _=>False
 |.error e=>CX outer H s E e s'
structure c7(P:Program)(w:World)(K:Frag)(mg:Str->Option Value)(base:Heap)(CX:Ex)(k:Nat)(f:Addr)(fd:FuncData)(ps:List Str)(sp:Sp):Prop where
 len:∀vs H Q E,sp vs H Q E->vs.length=ps.length
 run:∀(A:Around) (outer:List Env) (s:Shared) (H:Hp) (args:Args) (us:List Value) (vs:List V) (Q:VK) (E:XK),iL k A->B5 P w K mg base A outer s H->(0<s.toks\/∃n,ps=[n]/\fd.scope.names.lookup n=some .local)->BindsTo s fd args (ps.zip us)->cL s.toks vs us->sp vs H Q E ->
  codeAny (model P w) A (.call (.ref f) args) (CR CX outer P w H s Q E) s
theorem c7.mono{w:World}{CX:Ex}{k:Nat}{f:Addr}{sp:Sp}(F:c7 P w K mg base CX j f fd ps sp)(h:j<=k) :
  c7 P w K mg base CX k f fd ps sp:=⟨F.len,fun A outer s H args us vs Q E hr=>F.run A outer s H args us vs Q E (hr.mono h)⟩
theorem c7.imp{w:World}{CX:Ex}{k:Nat}{f:Addr}{sp Vk:Sp}(F:c7 P w K mg base CX k f fd ps sp)
  (h:∀vs H Q E,Vk vs H Q E->sp vs H Q E):c7 P w K mg base CX k f fd ps Vk:=
 ⟨fun vs H Q E q=>F.len vs H Q E (h _ _ _ _ q),fun A outer s H args us vs Q E hr he hp hb hv hs=>F.run A outer s H args us vs Q E hr he hp hb hv (h _ _ _ _ hs)⟩
theorem B5.make{w:World}{outer:List Env}(e:B5 P w K mg base A outer s H)(C:Addr)(us:List Value)(kw:List (Str×Value)) :
  B5 P w K mg base (A.under (.builtin "type.__call__" ⟨.ref C::us,kw⟩)) outer s H:=⟨by first|exact e.frames|(simpa[Around.under,Code.envs,Code.isFrame,pushEnvs]using e.frames),e.mod,e.bs,e.bsz,e.funs,e.frf,e.hok,e.bare⟩
section
variable{s':Shared}
theorem bQ.env0(I:bQ X ak σ H s):B5 X.prog X.w X.K X.mg X.base X.A X.stack s H:=
 ⟨I.ok.frames,I.ok.mod,I.bs,aN I.ok.bsz I.sz,I.stack,I.stkFree,I.hok,I.bare⟩
theorem bQ.after{Q:VK}(I:bQ X ak σ H s)(h:CE X.stack X.prog X.w H s Q u s')(hk:s.toks<=s'.toks):EP X ak σ Q u s':=by
 obtain⟨v,H',os,bare,un,hok,r,q⟩:=h
 obtain⟨hh,g,d,t,os'⟩:=s'
 obtain rfl:os'=s.os:=os
 exact⟨v,H',I.call (h':=hh) (g':=g) (d':=d) (t':=t) (ch:=[]) un hok bare (fun b z=>absurd z #[15]) hk,r,q⟩
end
def qf(K:Frag)(fd:FuncData)(ps:List Str)(ds:List Value):Prop:=
 ∀(s:Shared) (us:List Value),K.In s.heap->(us++ds).length=ps.length->BindsTo s fd ⟨us,[]⟩ (ps.zip (us++ds))
theorem qf.all(h:∀us:List Value,us.length=ps.length->bindArgs fd ⟨us,[]⟩=pure (ps.zip us)):qf K fd ps []:=fun s us _ hl=>by
 rw[bv]at hl ⊢
 exact .of_eq (h us hl)
def Nj(CX:Ex)(X:Cx)(E:XK):Prop:=∀(ak:List (Addr×Obj)) (σ:St) (H:Hp) (s:Shared) (e:Value) (s':Shared),bQ X ak σ H s->s.toks<=s'.toks->CX X.stack H s E e s'->X.xe e s'
section
variable{CX:Ex}{k:Nat}{f:Addr}{sp:Sp}{dvs:List V}{ds:List Value}{E:XK}{x m:Str}{ta:TE}{t:TA}
structure Mk(K:Frag)(C f:Addr):Prop where
 makes:makesIn K C=true
 init:findIn K (.ref C) "__init__"=some (some (.ref f))
 fn:isFn K (.ref f)=true
 kp:keepIn K (.ref C)=true
theorem F0{Q:VK}(M:Mk X.K C f)(F:c7 X.prog X.w X.K X.mg X.base CX k f fd ps sp)(hr:iL (k+1) X.A)(hb:qf X.K fd ps ds)(hd:cL 0 dvs ds)
  (hx:Nj CX X E) (I:bQ X ak σ H s) (r:cL s.toks vs us)
  (h:∀x dx,H x=none->H dx=none->dx≠x->sp (.ref x::(vs++dvs)) (f_ (f_ H dx (.own x)) x (.ins C dx [])) (fun v H2=>v=.non/\Q (.ref x) H2) E) :
  wpAny #[3] X.A (call (.ref C) us) (EP X ak σ Q) X.xe s:=by
 have hq:=h #[7] s.heap.objs.size (I.hok.fresh (bt _)) (I.hok.fresh (az _)) (bf (b9 _))
 have I2:=bQ.made (C:=C) I
 have r2:cL _ (V.ref #[7]::(vs++dvs)) (Value.ref #[7]::(us++ds)):=.cons rfl ((r.append (hd.up (cx _))).up (by first|exact az _|exact iu _ _|omega))
 have hl:(Value.ref #[7]::us++ds).length=ps.length:=by
  have e:=r2.length
  rw[F.len _ _ _ _ hq]at e
  exact e.symm
 refine up (qY (FY (f:=f) I.kIn M.makes M.init (c_.mp M.fn) (iw (F.run _ X.stack _ _ ⟨Value.ref #[7]::us,[]⟩ (Value.ref #[7]::(us++ds)) _ _ E (hr.make C us [])
  (I2.env0.make C us []) (.inl I2.pos) (hb _ (Value.ref #[7]::us) I2.kIn hl) r2 hq) fun r s' hq'=>?_)))
 cases r with
 |error e=>exact fun kt=>hx ak σ _ _ e s' I2 kt hq'
 |ok fl=>
  cases fl with
  |ret u=>
   have kq:s.toks<=s'.toks->_:=fun kt=>I2.after hq' kt
   refine⟨?_,fun kt=>?_⟩
   ·obtain⟨v,H',_,_,_,_,rv,ev,_⟩:=hq'
    subst ev
    exact rv
   ·obtain⟨v,H',I3,rv,ev,q3⟩:=kq kt
    exact⟨V.ref #[7],H',I3,rfl,q3⟩
  |next=>exact False.elim hq'
  |brk=>exact False.elim hq'
  |cont=>exact False.elim hq'
end
section
variable{CX:Ex}{k:Nat}{f:Addr}{sp:Sp}{E:XK}{x m:Str}{Vw:Pos}{VM:List Keyword}{ta:TE}{t tk:TA}{nm:Option Str}
variable{g:List Value->List Value->List Value}{gV:List V->List V->List V}
end
structure bg(N P:List Str)(sc:Scope):Prop where
 kind:sc.kind=.function
 co:sc.isCoroutine=false
 gen:sc.isGenerator=false
 nd:N.Nodup
 pre:N.take P.length=P
 par:∀x∈P,sc.names.lookup x=some .local\/sc.names.lookup x=some .cell
 nofree:∀y∈sc.names,y.2≠.free
theorem xz{x:Str}:∀{binds:List (Str×Value)} {m:Str->Option Value},(∀v,(x,v)∉binds)->bindL kindOf binds m x=m x
 |[],_,_=>rfl
 |(n,v)::r,m,h=>by
  unfold bindL
  rw[xz fun w hw=>h w (aS _ hw)]
  split
  ·have:x≠n:=by rintro rfl;exact h v bC
   simp[this]
  ·rfl
theorem xA{x:Str}:∀{binds:List (Str×Value)} {m:Str->Option Value},(∀v,(x,v)∉binds)->bindC kindOf binds m x=m x
 |[],_,_=>rfl
 |(n,v)::r,m,h=>by
  unfold bindC
  rw[xA fun w hw=>h w (aS _ hw)]
  split
  ·rfl
  ·have:x≠n:=by rintro rfl;exact h v bC
   simp[this]
theorem xB{x:Str}:∀{P:List Str} {vs:List Value} {i:Nat} {m:Str->Option Value},P.Nodup->P[i]?=some x->vs[i]?=some v->kindOf x=some .local ->
  bindL kindOf (P.zip vs) m x=some v
 |[],_,_,_,_,h,_,_=>by simp at h
 |_::_,[],_,_,_,_,h,_=>by simp at h
 |p::P,w::vs,0,m,nd,h1,h2,hk=>by
  simp at h1 h2;subst h1;subst h2
  show bindL kindOf ((p,w)::P.zip vs) m p=_
  unfold bindL
  rw[xz fun v hv=>(iV.mp nd).1 (nV hv).1,aF hk]
  simp
 |p::P,w::vs,i+1,m,nd,h1,h2,hk=>by
  show bindL kindOf ((p,w)::P.zip vs) m x=_
  unfold bindL
  exact xB (i:=i) (iV.mp nd).2 (by simpa using h1) (by simpa using h2) hk
theorem xC{x:Str}:∀{P:List Str} {vs:List Value} {i:Nat} {m:Str->Option Value},P.Nodup->P[i]?=some x->vs[i]?=some v->kindOf x≠some .local ->
  bindC kindOf (P.zip vs) m x=some v
 |[],_,_,_,_,h,_,_=>by simp at h
 |_::_,[],_,_,_,_,h,_=>by simp at h
 |p::P,w::vs,0,m,nd,h1,h2,hk=>by
  simp at h1 h2;subst h1;subst h2
  show bindC kindOf ((p,w)::P.zip vs) m p=_
  unfold bindC
  rw[xA fun v hv=>(iV.mp nd).1 (nV hv).1,aO hk]
  simp
 |p::P,w::vs,i+1,m,nd,h1,h2,hk=>by
  show bindC kindOf ((p,w)::P.zip vs) m x=_
  unfold bindC
  exact xC (i:=i) (iV.mp nd).2 (by simpa using h1) (by simpa using h2) hk
def t6(N:List Str)(vs:List V):St:=vs.map some++List.replicate (N.length-vs.length) none
def B6(CX:Ex)(P:Program)(w:World)(K:Frag)(mg:Str->Option Value)(base:Heap)(N:List Str)(fG:Str)(scope:Scope)(f:Addr)(cd:Value)(A:Around)(outer:List Env)(s:Shared)(H:Hp)(E:XK):Cx where
 prog:=P
 w:=w
 K:=K
 mg:=mg
 base:=base
 A:=A.deeper (envOfC fG scope s.heap.objs.size f cd)
 N:=N
 s₀:=s
 H₀:=H
 env:=envOfC fG scope s.heap.objs.size f cd
 outer:=outer
 stack:=envOfC fG scope s.heap.objs.size f cd::outer
 ex:=[]
 calm:=true
 fn:=fun _=>true
 pn:=[]
 xe:=fun e s'=>wpAny (model P w) (A.deeper (envOfC fG scope s.heap.objs.size f cd)) (leaving (envOfC fG scope s.heap.objs.size f cd) e) (fun _ s''=>CX outer H s E e s'') (fun e' s''=>CX outer H s E e' s'') s'
theorem mC{sc:Scope}{n:Nat}{x:Str}(h:sc.names.lookup x=some .cell):∃c,(cellsFrom n sc.names []).lookup x=some c:=by
 have q:=PySem.W.cellsFrom_some sc.names n [] (.inl h)
 exact Option.isSome_iff_exists.mp q
theorem B8{globals:Addr}{n:Str}{func:Option Addr}{code:Value}{builtins:Addr}{Q:Env->Shared->Prop}
  (hk:scope.kind=.function) (hl:scope.names.lookup n=some .local)
  (hQ:∀env,env=newEnv scope s.heap.objs.size globals (cellsFrom #[7] scope.names []) fG func code none builtins ->
   ∀s',s.toks<s'.toks->InCallC s env.locals (bindL env.kindOf [(n,v)] fun _=>none) env.cells (bindC env.kindOf [(n,v)] fun _=>none) s'->Q env s') :
  wpAny M A (newFunctionEnv scope globals [] [(n,v)] fG func code none builtins) Q E s:=by
 simp only[newFunctionEnv,Option.isSome_none,fJ,ke]
 refine af (wpAny_alloc ?_)
 refine af (wpAny_layCells _ (fun name kind cells=>by cases hkc:kind==NameKind.cell<;>simp[hkc]) _ _ _ _ ?_)
 have ok:=cellsFrom_ok scope.names (s.heap.push { cls:=.type "frame",data:=.dict #[] }) #[7] [] ⟨fun _ _ hm=>(nomatch hm),List.Pairwise.nil⟩ (by rw[bx];exact az _)
 rw[bx]at ok
 rw[show({ s with heap:=s.heap.push { cls:=.type "frame",data:=.dict #[] } }:Shared).heap.objs.size=s.heap.objs.size+1 from bx ..]
 have x:InCallC s s.heap.objs.size (fun _=>none) (cellsFrom #[7] scope.names []) (fun _=>none) { s with heap:=pushCells (s.heap.push { cls:=.type "frame",data:=.dict #[] }) scope.names }:=
  ⟨⟨⟨_,_,rfl⟩,(Heap.Ns.new s.heap (.type "frame")).keeps (kD _ _),fun b o e=>kD _ _ b o (aw _ e),az _⟩,
   fun n c hc=>(ok.empty n c (PySem.mem_of_lookup hc)).1,ok.apart,fun n c hm=>(ok.empty n c hm).2⟩
 refine af ?_
 rw[kE]
 refine af (af (n_ (env:=newEnv scope s.heap.objs.size globals (cellsFrom #[7] scope.names []) fG func code none builtins) hl x.toInCall.ns (fun h' hn' hs'=>ay ?_) (by show(scope.kind==_||(scope.kind==_&&_))=false;rw[hk];rfl)))
 show wpAny M A (forIn [] _ _) _ _ _
 rw[pG]
 refine ay (ay (hQ _ rfl _ (b9 _) ?_))
 have e1:bindL (newEnv scope s.heap.objs.size globals (cellsFrom #[7] scope.names []) fG func code none builtins).kindOf [(n,v)] (fun _=>none)=fun y=>if y=n then some v else none:=by
  show(if _=some NameKind.local then _ else _)=_;exact aF hl
 have e2:bindC (newEnv scope s.heap.objs.size globals (cellsFrom #[7] scope.names []) fG func code none builtins).kindOf [(n,v)] (fun _=>none)=fun _=>none:=by
  show(if _=some NameKind.local then _ else _)=_;exact aF hl
 rw[e1,e2]
 refine⟨⟨?_,hn',fun b o e=>?_,x.toInCall.fresh⟩,fun k c hc=>?_,x.apart,x.above⟩
 ·exact⟨h',_,rfl⟩
 ·exact hs'.extBut b o (bf (aP (aJ e) x.toInCall.fresh)) (x.toInCall.keep b o e)
 ·exact(x.cell k c hc).sameBut hs' (et (x.above k c (PySem.mem_of_lookup hc)))
theorem Ey{CX:Ex}{w:World}{N:List Str}{f:Addr}{cd:Value}{outer:List Env}{s1:Shared}{E:XK}
  (S:bg N ps scope) (hd:A.handled=none) (e0:B5 P w K mg base A outer s H) (hl:vs.length=ps.length) (r:cL s.toks vs us) (kY:s.toks<=s1.toks) (UG:0<s1.toks)
  (x:InCallC s s.heap.objs.size (bindL (envOfC fG scope s.heap.objs.size f cd).kindOf (ps.zip us) fun _=>none) (cellsFrom #[7] scope.names []) (bindC (envOfC fG scope s.heap.objs.size f cd).kindOf (ps.zip us) fun _=>none) s1) :
  bQ (B6 CX P w K mg base N fG scope f cd A outer s H E) [] (t6 N vs) H s1:=by
 have qe:ps.length<=N.length:=by have:=ic List.length S.pre;rw[aM]at this;omega
 obtain⟨h1,tk,rfl,hk⟩:=x.done
 have noA:∀b:Addr,b∉(B6 CX P w K mg base N fG scope f cd A outer s H E).ex:=fun b z=>absurd (show b∈([]:List Addr)from z) #[15]
 refine⟨⟨e0.mod,S.kind,rfl,rfl,az _,fun y z c h1 h2=>?_,fun y hy=>?_,fun y c _ h=>?_,fun _=>hd,Around.frames_deeper e0.frames,.inr ⟨rfl,rfl⟩,fun b z=>absurd z (noA b),e0.bs,e0.bsz,fun b _ _=>noA b,fun b z=>absurd z (noA b),e0.funs,e0.frf⟩,
  rfl,e0.bare,Un.kept hk,⟨_,x.toInCall.ns,fun i y v h1 h2 h3=>?_⟩,fun y c h=>⟨_,x.cell y c h⟩,e0.hok.fresh (az _),fun y c h=>?_,fun p hp=>absurd (show p∈([]:List (Addr×Obj))from hp) #[15],(e0.hok.kept hk).up kY,?_,UG,kY⟩
 ·exact name_of_addr x.apart (PySem.mem_of_lookup h1) (PySem.mem_of_lookup h2)
 ·have hy:scope.names.lookup y=some .cell\/scope.names.lookup y=some .free:=hy
  rcases hy with hy|hy
  ·exact mC hy
  ·exact absurd rfl (S.nofree _ (PySem.mem_of_lookup hy))
 ·exact fZ (x.above y c (PySem.mem_of_lookup h))
 ·have hi:i<vs.length:=by
   unfold t6 at h2
   by_cases hi:i<vs.length
   ·exact hi
   ·rw[aX (by simpa using hi)]at h2
    rw[jf]at h2
    split at h2<;>cases h2
  have ha:vs[i]?=some v:=by
   unfold t6 at h2
   rw[aL (by simpa using hi),aI]at h2
   cases e:vs[i]? with
   |none=>rw[e]at h2;cases h2
   |some a=>rw[e]at h2;cases h2;rfl
  obtain⟨u,hu,rv⟩:=r.get ha
  have hp:ps[i]?=some y:=by
   rw[<- S.pre,cO #[0]];exact h1
  have ndP:ps.Nodup:=by rw[<- S.pre];exact S.nd.sublist (List.take_sublist _ _)
  refine⟨u,rv.up kY,?_⟩
  rcases S.par y (cy hp)with k|k
  ·exact .inl ⟨k,xB ndP hp hu k⟩
  ·obtain⟨c,e⟩:=mC (n:=s.heap.objs.size+1) k
   refine .inr ⟨.inl k,c,e,?_⟩
   have q:=x.cell y c e
   rw[xC ndP hp hu (by show scope.names.lookup y≠_;rw[k];decide)]at q
   exact q
 ·exact e0.hok.fresh (fZ (x.above y c (PySem.mem_of_lookup h)))
 ·unfold t6
  show _=N.length
  rw[ai,aD,List.length_replicate]
  omega
theorem Qy{CX:Ex}{w:World}{k:Nat}{f:Addr}{params:Arguments}{body:List Stmt}{dV kV sI pm fq ct oc:Value}{an od:Option Addr}
  {MD:Array (Option Value)} {N ps:List Str} {sp:Sp} (lk:K.lookup f=some ⟨oc,od,.func (fnOf name fG params body scope dV kV sI pm an fq ct),MD⟩) (Fh:codeIn K fq fG=true) (S:bg N ps scope)
  (len:∀vs H Q E,sp vs H Q E->vs.length=ps.length)
  (BF:∀(A:Around) (outer:List Env) (s:Shared) (H:Hp) (vs:List V) (Q:VK) (E:XK),iL k (A.deeper (envOfC fG scope s.heap.objs.size f fq))->sp vs H Q E ->
   ∃t,Em (B6 CX P w K mg base N fG scope f fq A outer s H E) body t/\t { nx:=fun _ H'=>Q .non H',rt:=Q } (t6 N vs) H) :
  c7 P w K mg base CX (k+1) f (fnOf name fG params body scope dV kV sI pm an fq ct) ps sp:=by
 refine⟨len,fun A outer s H args us vs Q E hr e0 hp hb r MC=>?_⟩
 have hl:=len _ _ _ _ MC
 have KX:K.In s.heap:=e0.mod.kin.keeps fun b o e=>(e0.bs b o e).1
 have lim:s.heap.NoLimit:=e0.mod.nolimit.keeps fun b o e=>(e0.bs b o e).1
 have jH:∀y∈ps.zip us,scope.names.lookup y.1=some .local\/(scope.names.lookup y.1=some .cell/\((cellsFrom #[7] scope.names []).lookup y.1).isSome=true):=fun zq hy=>by
  obtain⟨n,v⟩:=zq
  rcases S.par n (nV hy).1 with q|q
  ·exact .inl q
  ·exact .inr ⟨q,PySem.W.cellsFrom_some _ _ _ (.inl q)⟩
 refine codeAny_call_function hr.depth (KX _ _ lk) rfl S.co S.gen rfl (PySem.W.codeRec_of KX Fh) (hb _ _ _ _ ?_)
 suffices hh:∀env,env=newEnv scope s.heap.objs.size mainGlobals (cellsFrom #[7] scope.names []) (fG++".<locals>.") (some f) fq none builtinsNs->∀s1,s.toks<=s1.toks->0<s1.toks->InCallC s env.locals (bindL env.kindOf (ps.zip us) fun _=>none) env.cells (bindC env.kindOf (ps.zip us) fun _=>none) s1->s1.heap.NoLimit/\codeAny (model P w) A (Code.func body env) (CR CX outer P w H s Q E) s1 by
  rcases hp with hp|⟨n,e1,hn⟩
  ·exact up (wpAny_newFunctionEnv_cells S.kind jH fun env he s1 x kY=>hh env he s1 kY (aP hp kY) x)
  ·subst e1
   have hus:us.length=1:=r.length.symm.trans hl
   obtain⟨u,rfl⟩:∃u,us=[u]:=gI.mp hus
   exact B8 S.kind hn fun env he s1 hlt x=>hh env he s1 (fZ hlt) (gJ (cx _) hlt) x
 intro env he s1 kY UG x
 subst he
 refine⟨lim.keeps x.toInCall.keep,codeAny_func ?_⟩
 obtain⟨t,ht,hq⟩:=BF A outer s H vs Q E (hr.deeper _) MC
 have I:bQ (B6 CX P w K mg base N fG scope f fq A outer s H E) [] (t6 N vs) H s1:=Ey S hr.hd e0 hl r kY UG x
 refine lv (ht [] s1 (t6 N vs) H _ I hq) (fun fl s' hs=>?_) fun e s' hs=>hs
 have kL:∀{σ':St} {H':Hp} {v:V} {u:Value},bQ (B6 CX P w K mg base N fG scope f fq A outer s H E) [] σ' H' s'->c8 _ v u->Q v H'->CE outer P w H s Q u s':=
  fun{σ' H' v u} J rv q=>⟨v,H',J.os,J.bare,J.base,J.hok,rv,q⟩
 cases fl with
 |ret u=>
  obtain⟨v,σ',H',J,rv,q⟩:=hs
  exact kL J rv q
 |next=>
  obtain⟨σ',H',J,q⟩:=hs
  exact kL (v:=V.non) (u:=Value.none) J rfl q
 |brk=>
  obtain⟨_,_,_,q⟩:=hs
  exact False.elim q
 |cont=>
  obtain⟨_,_,_,q⟩:=hs
  exact False.elim q
end L2
namespace L2
open PySem PySem.Spec PyProof.Rows
section
variable{x:Str}{t:TA}{id:String}{r:List V->Hp->VK->Prop}
def T5(r:List V->Hp->VK->Prop)(t:TA):TE:=fun σ H Q=>t σ H fun vs H1=>r vs H1 Q
theorem Ah(hc:i' X (.builtin id) r)(hg:Gl X x)(hm:X.mg x=none)(hv:bootBuiltins x=some (.builtin id))(ha:PA X (e::es) t)(hn:x ≠ "__name__":=by decide)(IS:(x==("__debug__":Str))=false:=by decide)
  (he:starEach (e::es) X.env=(false,eval e X.env)::starEach es X.env:=by rfl) (qe:(backTo pos (starEach es X.env)).any (·.1)=false:=by rfl):PE X (.Call (.Name x p) (e::es) [] pos) (T5 r t):=by
 intro ak s σ H Q I h
 refine fK (ou I hg hm hv ?_ hn IS)
 exact jS (jC (ha pos ak s σ H _ I h) fun us s1 kt1 ⟨vs,H1,I1,r1,q1⟩=>hc ak s1 σ H1 vs us Q I1 r1 q1) he qe
theorem Ez(hc:i' X (.type T) r)(hg:Gl X x)(hm:X.mg x=none)(hv:bootBuiltins x=some (.type T))(ha:PA X (e::es) t)(hn:x ≠ "__name__":=by decide)(IS:(x==("__debug__":Str))=false:=by decide)
  (he:starEach (e::es) X.env=(false,eval e X.env)::starEach es X.env:=by rfl) (qe:(backTo pos (starEach es X.env)).any (·.1)=false:=by rfl):PE X (.Call (.Name x p) (e::es) [] pos) (T5 r t):=by
 intro ak s σ H Q I h
 refine fK (ou I hg hm hv ?_ hn IS)
 exact dU (jC (ha pos ak s σ H _ I h) fun us s1 kt1 ⟨vs,H1,I1,r1,q1⟩=>hc ak s1 σ H1 vs us Q I1 r1 q1) he qe
end
end L2
namespace HT
open PySem PyProof.Rows
section
open PySem.SeqAt
open PySem.AutoSeq1 (wpAny_loadPart')
open PySem.MeetsSeq PySem.MeetsSeq2 PySem.MeetsSeq3
end
section
variable{w:World}
theorem cat_tup{t b:Addr}{vs ws:List Value}(ht:IsTup s.heap t vs.toArray)(hb:IsTup s.heap b ws.toArray)(hv:vs≠[])
  (h1:ws=[]->Q (.ref t) s) (h2:ws≠[]->Q (.ref s.heap.objs.size) { s with heap:=s.heap.push { cls:=.type "tuple",data:=.seq (vs++ws).toArray } })
  (hsz:vs.length+ws.length<=sizeLine):wpAny #[8] A (binaryOp .Add (.ref t) (.ref b)) Q E s:=by
 obtain⟨⟨cls,dd,data,sl⟩,ho,hc,n,hd⟩:=id ht
 obtain⟨⟨cls2,dd2,data2,sl2⟩,ho2,hc2,n2,hd2⟩:=id hb
 simp only at hc hd hc2 hd2
 subst hc hd hc2 hd2
 have e:vs.toArray++ws.toArray=(vs++ws).toArray:=by simp
 by_cases hw:ws=[]
 ·exact sw ⟨_,ho,rfl⟩ ⟨_,ho2,rfl⟩ mP qv PySem.F.slot_tuple_add PySem.F.entry_tuple_add (PySem.F.args_tuple_add_2 _ _)
   (tuple_addW1 t b vs.toArray ws.toArray n n2 dd dd2 sl sl2 (by simpa using hv) (by simp[hw])) ⟨ho,ho2,h1 hw⟩
 ·refine sw ⟨_,ho,rfl⟩ ⟨_,ho2,rfl⟩ mP qv PySem.F.slot_tuple_add PySem.F.entry_tuple_add (PySem.F.args_tuple_add_2 _ _)
   (tuple_addW2 t b vs.toArray ws.toArray n n2 dd dd2 sl sl2 (by simpa using hv) (by simpa using hw) (by rw[aU,aU];exact hsz)) ⟨ho,ho2,?_⟩
  rw[e]
  exact h2 hw
def sIx(n d:Nat):Option Int->Nat
 |none=>d
 |some v=>if v<0 then(v+(n:Int)).toNat else min v.toNat n
theorem sIx_none(n d:Nat):sIx n d none=d:=rfl
theorem sIx_nat(n d k:Nat):sIx n d (some (k:Int))=min k n:=by
 show(if (k:Int)<0 then((k:Int)+(n:Int)).toNat else min (k:Int).toNat n)=min k n
 rw[aO #[0],bX]
theorem sIx_le(n d:Nat)(hd:d<=n)(o:Option Int):sIx n d o<=n:=by
 cases o with
 |none=>exact hd
 |some v=>
  show(if v<0 then(v+(n:Int)).toNat else min v.toNat n)<=n
  by_cases hv:v<0
  ·rw[aF hv];omega
  ·rw[aO hv];exact Nat.min_le_right _ _
theorem Ds(v:Int)(n d:Nat):(if v<0 then max (v+(n:Int)) 0 else min v (n:Int))=((sIx n d (some v):Nat):Int):=by
 show(if v<0 then max (v+(n:Int)) 0 else min v (n:Int))=(((if v<0 then(v+(n:Int)).toNat else min v.toNat n):Nat):Int)
 by_cases hv:v<0
 ·simp only[aF hv];omega
 ·simp only[aO hv];omega
theorem B9(lo hi:Option Int)(n:Nat):Builtin.Slice.sliceAdjust lo hi 1 (n:Int)=(((sIx n 0 lo:Nat):Int),((sIx n n hi:Nat):Int)):=by
 have h1:¬ ((1:Int)<0):=by omega
 unfold Builtin.Slice.sliceAdjust
 simp only[h1,ke]
 refine Prod.ext ?_ ?_
 ·cases lo with
  |none=>rfl
  |some v=>exact Ds v n 0
 ·cases hi with
  |none=>rfl
  |some v=>exact Ds v n n
theorem B_(i j:Nat):Builtin.Slice.slicePlaces (i:Int) (j:Int) 1=j-i:=by
 unfold Builtin.Slice.slicePlaces
 have h1:(1:Int)>0:=by omega
 simp only[h1,f7,Int.ediv_one]
 split<;>omega
theorem vc{o:Option Int}{Q:Option Int->Shared->Prop}(p:IsPart v o)(h:Q o s):wpAny #[8] A (Builtin.Slice.slicePartIndex v) Q E s:=by
 cases p with
 |none=>exact slicePart_none h
 |int i t=>exact slicePart_int h
theorem sliceApplied_gen{sl:Addr}{vl vu:Value}{lo hi:Option Int}{Q:Int×Int×Nat->Shared->Prop}(hs:s.heap.IsSliceOf sl vl vu .none)(pl:IsPart vl lo)(pu:IsPart vu hi)
  (h:Q (((sIx n 0 lo:Nat):Int),1,sIx n n hi-sIx n 0 lo) s):wpAny #[8] A (Builtin.Slice.sliceApplied (.ref sl) (pure (n:Int))) Q E s:=by
 obtain⟨os,hos,hcs,MB⟩:=id hs
 unfold Builtin.Slice.sliceApplied Builtin.Slice.sliceFields
 refine af (af (dh hos MB (x:=vl) rfl (af (dh hos MB (x:=vu) rfl (af (dh hos MB (x:=.none) rfl (ay ?_)))))))
 refine af (slicePart_none ?_)
 show wpAny _ _ (if ((1:Int)==0)=true then _ else _) _ _ s
 rw[aO #[13]]
 refine af (vc pl (af (vc pu (af (ay ?_)))))
 show wpAny _ _ (match Builtin.Slice.sliceAdjust lo hi 1 (n:Int)with|(lo,hi)=>pure (lo,(1:Int),Builtin.Slice.slicePlaces lo hi 1)) _ _ s
 rw[B9 lo hi n]
 show wpAny _ _ (pure (((sIx n 0 lo:Nat):Int),(1:Int),Builtin.Slice.slicePlaces ((sIx n 0 lo:Nat):Int) ((sIx n n hi:Nat):Int) 1)) _ _ s
 rw[B_]
 exact ay h
theorem F1(xs:Array Value)(i k:Nat):((List.range k).filterMap fun(m:Nat)=>xs[((i:Int)+(m:Int)*1).toNat]?).toArray=((xs.toList.drop i).take k).toArray:=by
 have e:(fun(m:Nat)=>xs[((i:Int)+(m:Int)*1).toNat]?)=fun m=>xs[i+m]?:=by
  funext m
  have:((i:Int)+(m:Int)*1).toNat=i+m:=by omega
  rw[this]
 rw[e]
 have:=pick_run xs i k
 rw[List.filterMap_map]at this
 have e2:((fun x=>xs[x]?)∘fun x=>i+x)=fun m=>xs[i+m]?:=rfl
 rw[e2]at this
 rw[this]
theorem getItem_tuple_cut{t sl:Addr}{items:Array Value}{vl vu:Value}{lo hi:Option Int}(ht:IsTup s.heap t items)(hs:s.heap.IsSliceOf sl vl vu .none)(pl:IsPart vl lo)(pu:IsPart vu hi)
  (hw:¬ (sIx items.size 0 lo=0/\sIx items.size items.size hi=items.size))
  (h:Q (.ref s.heap.objs.size) { s with heap:=s.heap.push { cls:=.type "tuple",data:=.seq ((items.toList.drop (sIx items.size 0 lo)).take (sIx items.size items.size hi-sIx items.size 0 lo)).toArray } })
  (hsz:items.size<=sizeLine):wpAny #[8] A (getItem (.ref t) (.ref sl)) Q E s:=by
 have htake:sizeOk (.seq ((items.toList.drop (sIx items.size 0 lo)).take (sIx items.size items.size hi-sIx items.size 0 lo)).toArray):=by
  show((items.toList.drop (sIx items.size 0 lo)).take (sIx items.size items.size hi-sIx items.size 0 lo)).toArray.size<=sizeLine
  rw[aU,aM,cz,eF]
  omega
 have hj:sIx items.size items.size hi<=items.size:=sIx_le _ _ (az _) hi
 obtain⟨os,hos,hcs,MB⟩:=id hs
 have hTs:s.TypeIs (.ref sl) "slice":=⟨os,hos,hcs⟩
 unfold getItem
 try with_reducible refine dm ?_
 first|refine af (ay ?_)|skip
 refine af (wpAny_sequenceKey ht.typeIs #[13] ?_)
 refine af (bT (name:=Str.ofString "__getitem__") ht.typeIs eM
  (b_ eM ht.typeIs entry_tuple_getitem ?_ (args_tuple_getitem _ _)))
 show wpAny _ _ (Builtin.Tuple.tupleItemsOf (.ref t) >>= _) _ _ s
 refine af (tupleItemsOf_ ht ?_)
 refine af (iy hTs ?_)
 rw[aF #[13]]
 refine af (sliceApplied_gen hs pl pu ?_)
 have hno:¬ ((((sIx items.size 0 lo:Nat):Int)==0&&(1:Int)==1&&(sIx items.size items.size hi-sIx items.size 0 lo)==items.size)=true):=by
  intro q
  rw[dA,dA]at q
  have q1:((sIx items.size 0 lo:Nat):Int)=0:=mQ q.1.1
  have q2:sIx items.size items.size hi-sIx items.size 0 lo=items.size:=mQ q.2
  exact hw ⟨by omega,by omega⟩
 show wpAny _ _ (if (((sIx items.size 0 lo:Nat):Int)==0&&(1:Int)==1&&(sIx items.size items.size hi-sIx items.size 0 lo)==items.size)=true then _ else _) _ _ s
 rw[aO hno,F1]
 first
  |exact af (m:=Builtin.Tuple.tupleExact _) (cC (ay ⟨_,rfl,ay h⟩) htake)
  |exact af (m:=Builtin.Tuple.tupleExact _) (cC (af (ay (ay ⟨_,rfl,ay h⟩))) htake)
  |exact af (af (m:=Builtin.Tuple.tupleExact _) (cC (ay (ay ⟨_,rfl,ay h⟩)) htake))
  |exact af (af (m:=Builtin.Tuple.tupleExact _) (cC (ay ⟨_,rfl,ay h⟩) htake))
end
end HT
namespace L2
open PySem PySem.Spec PyProof.Rows
abbrev TO:=St->Hp->(Option Int->Hp->Prop)->Prop
def PO(X:Cx)(e:Option Expr)(t:TO):Prop:=
 ∀(ak:List (Addr×Obj)) (s:Shared) (σ:St) (H:Hp) (Q:Option Int->Hp->Prop),bQ X ak σ H s->t σ H Q ->
  wpAny #[3] X.A (evalPart e X.env) (fun u s'=>∃o H',bQ X ak σ H' s'/\IsPart u o/\Q o H') X.xe s
def JX:TO:=fun _ H Q=>Q none H
def Qz(t:TE):TO:=fun σ H Q=>t σ H fun x H1=>∃i,x=.int i/\Q (some i) H1
section
variable{lo hi:Option Expr}{tl th:TO}
theorem JY:PO X none JX:=by
 intro ak s σ H Q I h
 rw[evalPart_none]
 exact ay ⟨none,H,I,.none,h⟩
theorem JZ(h:PE X e te):PO X (some e) (Qz te):=by
 intro ak s σ H Q I hw
 rw[evalPart_some]
 refine jC (h ak s σ H _ I hw) fun u s1 kt1 zq=>?_
 obtain⟨x,H1,I1,r1,q1⟩:=zq
 obtain⟨i,rfl,q⟩:=q1
 obtain⟨t,rfl⟩:=r1
 exact⟨some i,H1,I1,.int i t,q⟩
def QB(X:Cx)(r:V->Option Int->Option Int->Hp->VK->Prop):Prop:=
 ∀(ak:List (Addr×Obj)) (s:Shared) (σ:St) (H:Hp) (x:V) (v vl vu:Value) (lo hi:Option Int) (sl:Addr) (Q:VK),bQ X ak σ H s->c8 s.toks x v->s.heap.IsSliceOf sl vl vu .none->IsPart vl lo->IsPart vu hi->r x lo hi H Q ->
  ∃T id,typeLookup (.type T) "__getitem__"=pure (some (.builtin id))/\s.TypeIs v T/\wpAny #[3] X.A (getItem v (.ref sl)) (EP X ak σ Q) X.xe s
def Vq(r:V->Option Int->Option Int->Hp->VK->Prop)(te:TE)(tl th:TO):TE:=fun σ H Q=>te σ H fun x H1=>tl σ H1 fun l H2=>th σ H2 fun u H3=>r x l u H3 Q
theorem F2{r:V->Option Int->Option Int->Hp->VK->Prop}(hr:QB X r)(he:PE X e te)(hl:PO X lo tl)(hu:PO X hi th):PE X (.Subscript e (.Slice lo hi none p2) pos) (Vq r te tl th):=by
 intro ak s σ H Q I h
 refine Subscript_ (jC (he ak s σ H _ I h) fun v s1 kt1 zq=>?_)
 obtain⟨x,H1,I1,r1,q1⟩:=zq
 refine wpAny_Slice (jC (hl ak s1 σ H1 _ I1 q1) fun vl s2 kt2 ⟨l,H2,I2,pl,q2⟩=>jC (hu ak s2 σ H2 _ I2 q2) fun vu s3 kt3 zq=>?_)
 obtain⟨u,H3,I3,pu,q3⟩:=zq
 rw[evalPart_none]
 refine ay ?_
 have I4:bQ X ak σ H3 { s3 with heap:=s3.heap.push { cls:=.type "slice",data:=.fields #[vl,vu,.none] } }:=I3.kept (t':=s3.toks) fun b ob q=>aw _ q
 obtain⟨T,id,hT,ht,hg⟩:=hr ak { s3 with heap:=s3.heap.push { cls:=.type "slice",data:=.fields #[vl,vu,.none] } } σ H3 x v vl vu l u s3.heap.objs.size Q I4 (r1.up (aN kt2 kt3)) (Heap.IsSliceOf.new ..) pl pu q3
 show wpAny #[3] X.A (subscriptTail e (.Slice lo hi none p2) v (.ref s3.heap.objs.size)) (EP X ak σ Q) X.xe { s3 with heap:=s3.heap.push { cls:=.type "slice",data:=.fields #[vl,vu,.none] } }
 exact tail_any (ops:=[.ref s3.heap.objs.size,v]) ht hT hg (by with_unfolding_all rfl)
def vd(xs:List V)(lo hi:Option Int):List V:=(xs.drop (HT.sIx xs.length 0 lo)).take (HT.sIx xs.length xs.length hi-HT.sIx xs.length 0 lo)
theorem t7(xs:List V)(lo hi:Option Int):(vd xs lo hi).length<=xs.length:=by
 unfold vd
 rw[aM,cz]
 omega
def T6(K:Frag):V->Option Int->Option Int->Hp->VK->Prop:=fun x lo hi H Q=>∃a xs,x=.ref a/\gc K H a xs /\
 ¬ (HT.sIx xs.length 0 lo=0/\HT.sIx xs.length xs.length hi=xs.length)/\∀p,H p=none->Q (.ref p) (f_ H p (.tup (vd xs lo hi)))
theorem Nk:QB X (T6 X.K):=by
 intro ak s σ H x v vl vu lo hi sl Q I rx hs pl pu h
 obtain⟨a,xs,rfl,hx,hw,q⟩:=h
 cases rx
 obtain⟨bJ,r,ht,hz⟩:=I.tuple hx
 have fY:bJ.toArray.size=xs.length:=by rw[aU];exact r.length.symm
 refine⟨"tuple",_,eM.lookup,ht.typeIs,?_⟩
 refine HT.getItem_tuple_cut ht hs pl pu (by rw[fY];exact hw) ?_ (by rw[fY];exact hz)
 rw[fY]
 refine⟨.ref s.heap.objs.size,_,I.laid (t':=s.toks) (o:=.tup (vd xs lo hi)) (fun b ob q=>aw _ q) (az _) ?_,rfl,q _ (I.hok.fresh (az _))⟩
 exact⟨aN (t7 xs lo hi) hz,_,(r.drop (HT.sIx xs.length 0 lo)).take (HT.sIx xs.length xs.length hi-HT.sIx xs.length 0 lo),IsTup.new _ _⟩
def QC(K:Frag):R2:=fun x y H Q=>∃a b xs ys,x=.ref a/\y=.ref b/\gc K H a xs/\gc K H b ys/\xs≠[]/\xs.length+ys.length<=sizeLine /\
 (ys=[]->Q (.ref a) H)/\(ys≠[]->∀p,H p=none->Q (.ref p) (f_ H p (.tup (xs++ys))))
theorem cL.nil_iff(r:cL nk xs us):us=[]↔xs=[]:=by
 cases r with
 |nil=>simp
 |cons _ _=>simp
theorem J0:oy X (binaryOp .Add) (QC X.K):=by
 intro ak s σ H x y v u Q I rx ry h
 obtain⟨a,b,xs,ys,rfl,rfl,ha,hb,hx,hz,q1,q2⟩:=h
 cases rx
 cases ry
 obtain⟨bJ,r1,p1,_⟩:=I.tuple ha
 obtain⟨its2,r2,p2,_⟩:=I.tuple hb
 refine HT.cat_tup p1 p2 (fun z=>hx (r1.nil_iff.mp z)) (fun z=>⟨.ref a,H,I,rfl,q1 (r2.nil_iff.mp z)⟩) (fun z=>?_) (by rw[<- r1.length,<- r2.length];exact hz)
 refine⟨.ref s.heap.objs.size,_,I.laid (t':=s.toks) (o:=.tup (xs++ys)) (fun b ob q=>aw _ q) (az _) ?_,rfl,q2 (fun w=>z (r2.nil_iff.mpr w)) _ (I.hok.fresh (az _))⟩
 exact⟨by rw[ai];exact hz,_,r1.append r2,IsTup.new _ _⟩
theorem Ai:i' X (.type "tuple") (fun xs H Q=>∃a ys,xs=[.ref a]/\gc X.K H a ys/\Q (.ref a) H):=by
 intro ak s σ H xs us Q I r h
 obtain⟨a,ys,rfl,ha,q⟩:=h
 obtain⟨u,rfl,ru⟩:=oz r
 cases ru
 obtain⟨bJ,_,p1,_⟩:=I.tuple ha
 exact call_tuple_same (items:=bJ.toArray) p1 ⟨.ref a,H,I,rfl,q⟩
end
end L2
namespace L2
open PySem PySem.Spec PyProof.Rows
def Dt(n:Nat)(i:Int):Option Nat:=if 0<=i then(if i<n then some i.toNat else none)else if -(n:Int)<=i then some (i+n).toNat else none
def sO(xs:List α)(i:Int):Option α:=(Dt xs.length i).bind fun j=>xs[j]?
theorem Du{i:Int}(h:Dt n i=some j):seqIndex? i n=some j/\j<n/\-(n:Int)<=i/\i<n:=by
 unfold Dt at h
 by_cases h0:0<=i
 ·rw[aF h0]at h
  by_cases h1:i<n
  ·rw[aF h1]at h
   have e:i.toNat=j:=bu h
   exact⟨by rw[seqIndex_of h0 h1,e],by omega,by omega,h1⟩
  ·rw[aO h1]at h;cases h
 ·rw[aO h0]at h
  by_cases h1:-(n:Int)<=i
  ·rw[aF h1]at h
   have e:(i+n).toNat=j:=bu h
   exact⟨by rw[sy #[0] h1,e],by omega,h1,by omega⟩
  ·rw[aO h1]at h;cases h
theorem yD{xs:List α}{i:Int}{v:α}(h:sO xs i=some v):∃j,seqIndex? i xs.length=some j/\xs[j]?=some v/\j<xs.length/\-(xs.length:Int)<=i/\i<xs.length:=by
 unfold sO at h
 cases e:Dt xs.length i with
 |none=>rw[e]at h;cases h
 |some j=>
  rw[e]at h
  obtain⟨h1,h2,h3,h4⟩:=Du e
  exact⟨j,h1,h,h2,h3,h4⟩
def Dv(b:Expr):Prop:=∀o i,subscripted b false o i=operate [o,i] (getItem o i)
def Jt(X:Cx)(r:R2):Prop:=
 ∀(value slice:Expr) (ak:List (Addr×Obj)) (s:Shared) (σ:St) (H:Hp) (x y:V) (v u:Value) (Q:VK),bQ X ak σ H s->c8 s.toks x v->c8 s.toks y u->r x y H Q ->
  subscripted slice false v u=operate [v,u] (getItem v u)->wpAny #[3] X.A (subscriptTail value slice v u) (EP X ak σ Q) X.xe s
def EA(X:Cx)(id:String)(r:V->List V->Hp->VK->Prop):Prop:=
 ∀(ak:List (Addr×Obj)) (s:Shared) (σ:St) (H:Hp) (x:V) (xs:List V) (v:Value) (us:List Value) (Q:VK),bQ X ak σ H s->c8 s.toks x v->cL s.toks xs us->r x xs H Q ->
  wpAny #[3] X.A (call (.builtin id) (v::us)) (EP X ak σ Q) X.xe s
section
variable{a b:Expr}{ta tb:TE}
theorem Jt.or{r r':R2}(h:Jt X r)(h':Jt X r'):Jt X (fun x y H Q=>r x y H Q\/r' x y H Q):=by
 intro value slice ak s σ H x y v u Q I rx ry q hs
 rcases q with q|q
 ·exact h value slice ak s σ H x y v u Q I rx ry q hs
 ·exact h' value slice ak s σ H x y v u Q I rx ry q hs
theorem QD{r:R2}(hr:Jt X r)(ha:PE X a ta)(hb:PE X b tb)(hs:Dv b):PE X (.Subscript a b pos) (Qo r ta tb):=by
 intro ak s σ H Q I h
 exact Subscript_ (M4 ha hb I h fun v u s2 x y H2 I2 rx ry q=>hr a b ak s2 σ H2 x y v u Q I2 rx ry q (hs _ _))
def QF(K:Frag):R2:=fun x y H Q=>∃p xs i v,x=.ref p/\y=.int i/\sK K H p xs/\sO xs i=some v/\Q v H
def QH(K:Frag):R2:=fun x y H Q=>∃p xs i v,x=.ref p/\y=.int i/\gc K H p xs/\sO xs i=some v/\Q v H
def QJ:R2:=fun x y H Q=>∃z i c,x=.str z/\y=.int i/\z.length<=sizeLine/\sO z.cps.toList i=some c/\Q (.str ⟨#[c]⟩) H
theorem J1:Jt X (QF X.K):=by
 intro value slice ak s σ H x y v u Q I rx ry h hs
 obtain⟨p,xs,i,z,rfl,rfl,hq,he,q⟩:=h
 cases rx
 obtain⟨t,rfl⟩:=ry
 obtain⟨bJ,r,pl,hz⟩:=I.list hq
 obtain⟨j,h1,h2,h3,h4,h5⟩:=yD he
 obtain⟨w,ew,oq⟩:=r.get h2
 have hl:=r.length
 have hn:=sM
 have kL:EP X ak σ Q w s:=⟨z,H,I,oq,q⟩
 by_cases h0:0<=i
 ·have hj:i.toNat=j:=by
   rw[seqIndex_of h0 h5]at h1
   exact bu h1
  exact item_listR pl.isList h0 #[0] (by rw[hj];simpa using ew) kL hs
 ·have hj:(i+(bJ.toArray.size:Int)).toNat=j:=by
   rw[sy #[0] h4]at h1
   rw[aU,<- hl]
   exact bu h1
  exact ny (x:=w) pl.isList.typeIs slot_list_getitem.lookup
   (wpAny_getItem_list_neg (Q:=fun r s'=>r=w/\EP X ak σ Q r s') pl.isList #[0] (by rw[aU]<;>omega) #[0] (by rw[hj];simpa using ew) ⟨rfl,kL⟩) hs
theorem Nl:Jt X (QH X.K):=by
 intro value slice ak s σ H x y v u Q I rx ry h hs
 obtain⟨p,xs,i,z,rfl,rfl,hq,he,q⟩:=h
 cases rx
 obtain⟨t,rfl⟩:=ry
 obtain⟨bJ,r,pl,hz⟩:=I.tuple hq
 obtain⟨j,h1,h2,h3,h4,h5⟩:=yD he
 obtain⟨w,ew,oq⟩:=r.get h2
 have hl:=r.length
 have hn:=sM
 have kL:EP X ak σ Q w s:=⟨z,H,I,oq,q⟩
 exact ny (x:=w) pl.typeIs slot_tuple_getitem.lookup
  (getItem_tuple (j:=j) (Q:=fun r s'=>r=w/\EP X ak σ Q r s') pl #[0] #[0] (by rw[aU,<- hl];exact h1) (by simpa using ew) ⟨rfl,kL⟩) hs
theorem Nm:Jt X QJ:=by
 intro value slice ak s σ H x y v u Q I rx ry h hs
 obtain⟨z,i,c,rfl,rfl,hz,he,q⟩:=h
 obtain⟨t,rfl⟩:=rx
 obtain⟨t',rfl⟩:=ry
 obtain⟨j,h1,h2,h3,h4,h5⟩:=yD he
 have hl:z.cps.toList.length=z.length:=by simp[Str.length]
 rw[hl]at h1 h4 h5
 have hn:=sM
 exact tail_any (lF s z t) slot_str_getitem.lookup (getItem_str (c:=c) (by
  have e1:decide (i < -(2^63:Int))=false:=aV #[0]
  have e2:decide (i≥2^63)=false:=aV #[0]
  rw[e1,e2,mv]) (by rw[h1];simpa using h2) ⟨.str ⟨#[c]⟩,H,I.tok _,I.tkS,q⟩) hs
def Vr(K:Frag):R2:=fun x y H Q=>QF K x y H Q\/QH K x y H Q\/QJ x y H Q
theorem Nn:Jt X (Vr X.K):=J1.or (Nl.or Nm)
theorem B'(bJ:List Value)(n j:Nat)(u:Value):Obj.mapSeq (·.setIfInBounds j u) { cls:=.type "list",data:=.seq bJ.toArray n }={ cls:=.type "list",data:=.seq (bJ.set j u).toArray n }:=by
 simp[Obj.mapSeq]
theorem bQ.lst{p:Addr}(I:bQ X ak σ H s)(h:H p=some (.lst xs)) :
  ∃(bJ:List Value) (n:Nat),cL s.toks xs bJ/\s.heap.get? p=some { cls:=.type "list",data:=.seq bJ.toArray n }/\xs.length<=sizeLine:=by
 obtain⟨z,bJ,n,r,e⟩:=I.hok p _ h
 exact⟨bJ,n,r,e,z⟩
theorem bQ.lstUpd{p:Addr}{ys:List V}{its':List Value}{f:Obj->Obj}(I:bQ X ak σ H s)(h:H p=some (.lst xs))
  (ho:s.heap.get? p=some { cls:=.type "list",data:=.seq bJ.toArray n }) (hf:f { cls:=.type "list",data:=.seq bJ.toArray n }={ cls:=.type "list",data:=.seq its'.toArray n' }) (r:cL s.toks ys its') (hz:ys.length<=sizeLine) (t:Nat) (hk:s.toks<=t:=by first|exact az _|exact bt _|assumption|omega) :
  bQ X ak σ (f_ H p (.lst ys)) { s with heap:=s.heap.update p f,toks:=t }:=by
 have e:(s.heap.update p f).get? p=some { cls:=.type "list",data:=.seq its'.toArray n' }:=by
  rw[dI f ho (by rw[hf]<;>rfl),hf]
 refine I.write (x:=p) (e:=p) (by rw[h];trivial) (.inl rfl) (fun b u hb q=>(cK _ _ (Ne.symm hb)).trans q) ⟨_,e⟩ ?_
 exact⟨hz,its',n',r.up hk,e⟩
def QK:V->V->V->Hp->(Hp->Prop)->Prop:=fun o i v H Q=>∃p xs k j,o=.ref p/\i=.int k/\H p=some (.lst xs)/\Dt xs.length k=some j/\Q (f_ H p (.lst (xs.set j v)))
theorem F3:En X QK:=by
 intro ak s σ H o i v ov iv u Q I ro ri rv h
 obtain⟨p,xs,k,j,rfl,rfl,hp,hj,q⟩:=h
 cases ro
 obtain⟨t,rfl⟩:=ri
 obtain⟨bJ,n,r,ho,hz⟩:=I.lst hp
 obtain⟨h1,h2,h3,h4⟩:=Du hj
 have hl:=r.length
 have hn:=sM
 have I':bQ X ak σ (f_ H p (.lst (xs.set j v))) { s with heap:=s.heap.update p (Obj.mapSeq (·.setIfInBounds j u)) }:=
  I.lstUpd hp ho (B' bJ n j u) (r.set rv j) (by rw[nX];exact hz) s.toks
 by_cases h0:0<=k
 ·have hk:k.toNat=j:=by
   rw[seqIndex_of h0 h4]at h1
   exact bu h1
  exact PySem.W.ki_setAt ho h0 #[0] (by rw[aU,<- hl];exact h4) (by rw[hk];exact⟨_,I',q⟩)
 ·have hk:(k+(bJ.toArray.size:Int)).toNat=j:=by
   rw[sy #[0] h3]at h1
   rw[aU,<- hl]
   exact bu h1
  exact PySem.W.ki_setBack ho #[0] (by rw[aU,<- hl];exact h3) #[0] (by rw[hk];exact⟨_,I',q⟩)
theorem yE(lo hi:Option Int)(n:Nat):(sliceBounds lo hi none n).1=((HT.sIx n 0 lo:Nat):Int)/\(sliceBounds lo hi none n).2.1=((HT.sIx n n hi:Nat):Int)/\(sliceBounds lo hi none n).2.2=1:=by
 refine⟨?_,?_,rfl⟩
 ·cases lo with
  |none=>simp[sliceBounds,HT.sIx]
  |some i=>
   simp only[sliceBounds,HT.sIx,Option.getD_none,show(1:Int)>0 by decide,f7]
   by_cases h:i<0
   ·simp only[h,f7]<;>omega
   ·simp only[h,ke]<;>omega
 ·cases hi with
  |none=>simp[sliceBounds,HT.sIx]
  |some i=>
   simp only[sliceBounds,HT.sIx,Option.getD_none,show(1:Int)>0 by decide,f7]
   by_cases h:i<0
   ·simp only[h,f7]<;>omega
   ·simp only[h,ke]<;>omega
theorem wQ(bJ:List Value)(lo hi:Option Int):slicePick bJ.toArray lo hi none=((bJ.drop (HT.sIx bJ.length 0 lo)).take (HT.sIx bJ.length bJ.length hi-HT.sIx bJ.length 0 lo)).toArray:=by
 obtain⟨h1,h2,h3⟩:=yE lo hi bJ.toArray.size
 unfold slicePick
 rw[h1,h2,h3]
 simp only[sliceRange_one,pick_run,aU]<;>rfl
def T7(K:Frag):V->Option Int->Option Int->Hp->VK->Prop:=fun x lo hi H Q=>∃a xs,x=.ref a/\sK K H a xs/\∀p,H p=none->Q (.ref p) (f_ H p (.lst (vd xs lo hi)))
theorem J2:QB X (T7 X.K):=by
 intro ak s σ H x v vl vu lo hi sl Q I rx hs pl pu h
 obtain⟨a,xs,rfl,hx,q⟩:=h
 cases rx
 obtain⟨bJ,r,ht,hz⟩:=I.list hx
 have fY:=r.length
 refine⟨"list",_,slot_list_getitem.lookup,ht.isList.typeIs,?_⟩
 refine wpAny_getItem_list_slice ht.isList hs pl pu .none #[15] ?_ (by rw[aU]<;>omega)
 rw[wQ,<- fY]
 refine⟨.ref s.heap.objs.size,_,I.laid (t':=s.toks) (o:=.lst (vd xs lo hi)) (fun b ob q=>aw _ q) (az _) ?_,rfl,q _ (I.hok.fresh (az _))⟩
 exact⟨aN (t7 xs lo hi) hz,_,0,(r.drop (HT.sIx xs.length 0 lo)).take (HT.sIx xs.length xs.length hi-HT.sIx xs.length 0 lo),aC _ rfl⟩
theorem q5:i' X (.builtin "len") (fun xs H Q=>∃p ys,xs=[.ref p]/\(sK X.K H p ys\/gc X.K H p ys)/\Q (.int ys.length) H):=by
 intro ak s σ H xs us Q I r h
 obtain⟨p,ys,rfl,hq,q⟩:=h
 obtain⟨u,rfl,rx⟩:=oz r
 cases rx
 have hn:=sM
 rcases hq with hq|hq
 ·obtain⟨bJ,r',pl,hz⟩:=I.list hq
  have fY:=r'.length
  exact Calls.call_len_list pl.isList (by simp only[aU]<;>omega) ⟨.int ys.length,H,I.tok _,⟨s.toks+1,by rw[aU,fY]⟩,q⟩
 ·obtain⟨bJ,r',pl,hz⟩:=I.tuple hq
  have fY:=r'.length
  exact len_tuple pl (by simp only[aU]<;>omega) ⟨.int ys.length,H,I.tok _,⟨s.toks+1,by rw[aU,fY]⟩,q⟩
theorem yF:i' X (.builtin "len") (fun xs H Q=>∃z,xs=[.str z]/\z.length<=sizeLine/\Q (.int z.length) H):=by
 intro ak s σ H xs us Q I r h
 obtain⟨z,rfl,hz,q⟩:=h
 obtain⟨u,rfl,t,rfl⟩:=oz r
 have hn:=sM
 exact len_str #[0] ⟨.int z.length,H,I.tok _,⟨_,rfl⟩,q⟩
theorem yG:i' X (.type "list") (fun xs H Q=>∃p ys,xs=[.ref p]/\(sK X.K H p ys\/gc X.K H p ys)/\∀l,H l=none->Q (.ref l) (f_ H l (.lst ys))):=by
 intro ak s σ H xs us Q I r h
 obtain⟨p,ys,rfl,hq,q⟩:=h
 obtain⟨u,rfl,rx⟩:=oz r
 cases rx
 have kL:∀(bJ:List Value),cL _ ys bJ->ys.length<=sizeLine->∀(h':Heap) (c':Nat),(∀b o',s.heap.get? b=some o'->h'.get? b=some o') ->
   h'.get? s.heap.objs.size=some { cls:=.type "list",dict:=none,data:=.seq bJ.toArray c',slots:=#[] }->EP X ak σ Q (.ref s.heap.objs.size) { s with heap:=h' }:=fun bJ r' hz h' c' kp e=>
  ⟨.ref s.heap.objs.size,_,I.laid (t':=s.toks) kp (az _) (show fA X.prog X.w _ _ h' _ (.lst ys)from⟨hz,bJ,c',r',e⟩),rfl,q _ (I.hok.fresh (az _))⟩
 rcases hq with hq|hq
 ·obtain⟨bJ,r',pl,hz⟩:=I.list hq
  have fY:=r'.length
  obtain⟨o,ho,hc,n,hd⟩:=pl.isList
  exact call_list_seq p (.inl rfl) ho hc hd (fun h' c' kp e=>kL bJ r' hz h' c' kp e) (by simp only[aU]<;>omega)
 ·obtain⟨bJ,r',pl,hz⟩:=I.tuple hq
  have fY:=r'.length
  obtain⟨o,ho,hc,n,hd⟩:=pl
  exact call_list_seq p (.inr rfl) ho hc hd (fun h' c' kp e=>kL bJ r' hz h' c' kp e) (by simp only[aU]<;>omega)
theorem wR:i' X (.type "tuple") (fun xs H Q=>∃p ys,xs=[.ref p]/\((sK X.K H p ys/\∀l,H l=none->Q (.ref l) (f_ H l (.tup ys)))\/(gc X.K H p ys/\Q (.ref p) H))):=by
 intro ak s σ H xs us Q I r h
 obtain⟨p,ys,rfl,h⟩:=h
 obtain⟨u,rfl,rx⟩:=oz r
 cases rx
 rcases h with⟨hq,q⟩|⟨hq,q⟩
 ·obtain⟨bJ,r',pl,hz⟩:=I.list hq
  have fY:=r'.length
  refine call_tuple_list pl.isList (fun h' kp=>?_) (by simp only[aU]<;>omega)
  have I1:bQ X ak σ H { s with heap:=h' }:=I.kept (t':=s.toks) kp
  have I2:bQ X ak σ (f_ H h'.objs.size (.tup ys)) { s with heap:=h'.push { cls:=.type "tuple",data:=.seq bJ.toArray } }:=
   I1.laid (t':=s.toks) (fun b o e=>aw _ e) (az _) (show fA X.prog X.w _ _ _ _ (.tup ys)from⟨hz,bJ,r',IsTup.new _ _⟩)
  exact⟨.ref h'.objs.size,_,I2,rfl,q _ (I1.hok.fresh (az _))⟩
 ·obtain⟨bJ,r',pl,hz⟩:=I.tuple hq
  exact call_tuple_same pl ⟨.ref p,H,I,rfl,q⟩
def S9(K:Frag)(T:String)(x:V)(H:Hp):Prop:=match x with
 |.str _=>T="str"
 |.int _=>T="int"
 |.ref p=>(T="list"/\∃xs,sK K H p xs)\/(T="tuple"/\∃o,K.lookup p=some o/\o.cls=.type "tuple"/\o.dict=none) \/
   (T="dict"/\((∃kvs,H p=some (.dK kvs))\/∃kvs,H p=some (.dT kvs)))\/(T="set"/\∃S n,H p=some (.set S n))
 |_=>False
theorem Ca{x:V}(I:bQ X ak σ H s)(r:c8 s.toks x v)(ty:S9 X.K T x H) :
  s.TypeIs v T/\∀a,v=.ref a->∃ob,s.heap.get? a=some ob/\ob.dict=none:=by
 cases x with
 |str z=>
  obtain⟨t,rfl⟩:=r
  cases(show T="str" from ty)
  exact⟨lF s z t,fun _ e=>nomatch e⟩
 |int i=>
  obtain⟨t,rfl⟩:=r
  cases(show T="int" from ty)
  exact⟨typeIs_int s i t,fun _ e=>nomatch e⟩
 |ref p=>
  cases r
  rcases ty with⟨rfl,xs,hq⟩|⟨rfl,o,hk,hc,hd⟩|⟨rfl,hk⟩|⟨rfl,S,n,hk⟩
  ·obtain⟨bJ,_,pl,_⟩:=I.list hq
   refine⟨pl.isList.typeIs,fun a e=>?_⟩
   cases e
   obtain⟨o,n,e,c,hd,_⟩:=pl
   exact⟨o,e,hd⟩
  ·refine⟨⟨o,I.kIn p o hk,hc⟩,fun a e=>?_⟩
   cases e
   exact⟨o,I.kIn _ o hk,hd⟩
  ·have z:∃o,s.heap.get? p=some o/\o.ExactDict:=by
    rcases hk with⟨kvs,hk⟩|⟨kvs,hk⟩
    ·obtain⟨_,_,_,_,o,_,_,e,ex,_⟩:=I.hok p _ hk
     exact⟨o,e,ex⟩
    ·obtain⟨_,_,_,_,o,_,_,e,ex,_⟩:=I.hok p _ hk
     exact⟨o,e,ex⟩
   obtain⟨o,e,ex⟩:=z
   refine⟨⟨o,e,ex.1⟩,fun a e2=>?_⟩
   cases e2
   exact⟨o,e,ex.2.1⟩
  ·obtain⟨o,_,_,_,e,ex,_⟩:=I.hok p _ hk
   refine⟨⟨o,e,ex.1⟩,fun a e2=>?_⟩
   cases e2
   exact⟨o,e,ex.2.1⟩
 |_=>exact False.elim ty
variable{to:TE}{t:TA}{id:String}{r:V->List V->Hp->VK->Prop}
end
end L2
namespace L2
open PySem PySem.Spec PyProof.Rows
def UZ(X:Cx)(id:String)(r:V->List V->Hp->VK->Prop):Prop:=
 ∀(ak:List (Addr×Obj)) (s:Shared) (σ:St) (H:Hp) (x:V) (xs:List V) (v:Value) (us:List Value) (Q:VK),bQ X ak σ H s->c8 s.toks x v->cL s.toks xs us->r x xs H Q ->
  wpAny #[3] X.A (call (.builtin id) (v::us)) (EP X ak σ Q) X.xe s
theorem cL.one{x:V}(h:cL nk [x] us):∃u,us=[u]/\c8 nk x u:=by cases h with|cons r t=>cases t;exact⟨_,rfl,r⟩
theorem cL.two{x y:V}(h:cL nk [x,y] us):∃u v,us=[u,v]/\c8 nk x u/\c8 nk y v:=by cases h with|cons r t=>obtain⟨v,rfl,q⟩:=cL.one t;exact⟨_,v,rfl,r,q⟩
theorem cL.zero:∀{us:List Value},cL nk [] us->us=[]
 |_,.nil=>rfl
theorem cL.dropLast(h:cL nk xs us):cL nk xs.dropLast us.dropLast:=by
 induction h with
 |nil=>exact .nil
 |cons r t ih=>
  cases t with
  |nil=>exact .nil
  |cons q t'=>exact .cons r ih
theorem Cb(l:List α):l.eraseIdx (l.length-1)=l.dropLast:=by
 induction l with
 |nil=>rfl
 |cons a r ih=>
  cases r with
  |nil=>rfl
  |cons b r=>
   have e:(a::b::r).length-1=((b::r).length-1)+1:=by
    have h1:(a::b::r).length=r.length+2:=rfl
    have h2:(b::r).length=r.length+1:=rfl
    omega
   rw[e,List.eraseIdx_cons_succ,ih]
   all_goals rfl
section
variable{l b:Addr}{ys zs:List V}
theorem bQ.lset{its':List Value}{f:Array Value->Array Value}(I:bQ X ak σ H s)(hH:H l=some (.lst xs))
  (e:s.heap.get? l=some { cls:=.type "list",data:=.seq bJ.toArray n }) (hf:f bJ.toArray=its'.toArray) (hv:cL t' ys its') (hz:ys.length<=sizeLine) (hk:s.toks<=t':=by first|exact az _|exact bt _|assumption|omega) :
  bQ X ak σ (f_ H l (.lst ys)) { s with heap:=s.heap.update l (Obj.mapSeq f),toks:=t' }:=by
 have q:=PySem.IsL.update e f
 rw[hf]at q
 refine I.write (x:=l) (e:=l) (by rw[hH];exact trivial) (.inl rfl) (fun b' u hb hu=>(cK s.heap (Obj.mapSeq f) (Ne.symm hb)).trans hu) ⟨_,q⟩ ?_
 exact⟨hz,its',_,hv,q⟩
theorem bQ.lnew{t':Nat}(I:bQ X ak σ H s)(hv:cL t' ys bJ)(hz:ys.length<=sizeLine)(hk:s.toks<=t':=by first|exact az _|exact bt _|assumption|omega) :
  bQ X ak σ (f_ H s.heap.objs.size (.lst ys)) { s with heap:=s.heap.push { cls:=.type "list",data:=.seq bJ.toArray },toks:=t' }:=
 I.laid (fun _ _ q=>aw _ q) (az _) ⟨hz,bJ,0,hv,aC _ rfl⟩
theorem bQ.fresh(I:bQ X ak σ H s):H s.heap.objs.size=none:=I.hok.fresh (az _)
theorem bQ.lstM(I:bQ X ak σ H s)(hH:H l=some (.lst xs)):xs.length<=sizeLine/\∃(bJ:List Value) (n:Nat),cL s.toks xs bJ/\xs.length=bJ.length/\s.heap.get? l=some { cls:=.type "list",data:=.seq bJ.toArray n }:=by
 obtain⟨z,bJ,n,r,e⟩:=I.hok l _ hH
 exact⟨z,bJ,n,r,r.length,e⟩
end
section
def Dw:V->List V->Hp->VK->Prop:=fun x vs H Q=>∃l xs y,x=.ref l/\vs=[y]/\H l=some (.lst xs)/\xs.length<sizeLine/\Q .non (f_ H l (.lst (xs++[y])))
theorem EB:UZ X "list.append" Dw:=by
 intro ak s σ H x vs v us Q I rx rv h
 obtain⟨l,xs,y,rfl,rfl,hH,hz,q⟩:=h
 cases rx
 obtain⟨u,rfl,ru⟩:=rv.one
 obtain⟨z,bJ,n,r,hl,e⟩:=I.lstM hH
 refine qZ F.slot_list_append ⟨_,e,rfl⟩ F.entry_list_append (F.args_list_append_2 _ _) (PySem.list_append l bJ.toArray n u (by rw[aU];omega)) ⟨e,?_⟩
 refine⟨.non,_,I.lset (its':=bJ++[u]) hH e #[15] (r.append (.cons ru .nil)) ?_,rfl,q⟩
 rw[ai,cm]
 omega
def QL:V->List V->Hp->VK->Prop:=fun x vs H Q=>∃l xs y,x=.ref l/\vs=[]/\H l=some (.lst xs)/\xs[xs.length-1]?=some y/\Q y (f_ H l (.lst xs.dropLast))
theorem No:UZ X "list.pop" QL:=by
 intro ak s σ H x vs v us Q I rx rv h
 obtain⟨l,xs,y,rfl,rfl,hH,hy,q⟩:=h
 cases rx
 have hus:=rv.zero
 subst hus
 obtain⟨z,bJ,n,r,hl,e⟩:=I.lstM hH
 obtain⟨u,hu,ru⟩:=r.get hy
 have hy':bJ.toArray[bJ.toArray.size-1]?=some u:=by
  show bJ.toArray[bJ.length-1]?=some u
  rw[<- fN,<- hl]
  exact hu
 refine qZ F.slot_list_pop ⟨_,e,rfl⟩ F.entry_list_pop (F.args_list_pop_1 _) (MeetsSeq.list_pop_last l bJ.toArray n u hy' (by rw[aU];omega)) ⟨e,?_⟩
 refine⟨y,_,I.lset (its':=bJ.dropLast) hH e ?_ r.dropLast ?_,ru,q⟩
 ·show bJ.toArray.eraseIdxIfInBounds (bJ.toArray.size-1)=bJ.dropLast.toArray
  rw[aU,List.eraseIdxIfInBounds_toArray,Cb]
 ·rw[List.length_dropLast]
  omega
def T9:R2:=fun x y H Q=>∃l b xs zs,x=.ref l/\y=.ref b/\H l=some (.lst xs)/\H b=some (.lst zs)/\xs.length+zs.length<=sizeLine/\∀p,H p=none->Q (.ref p) (f_ H p (.lst (xs++zs)))
theorem Np:oy X (binaryOp .Add) T9:=by
 intro ak s σ H x y v u Q I rx ry h
 obtain⟨l,b,xs,zs,rfl,rfl,hH,hB,hz,q⟩:=h
 cases rx
 cases ry
 obtain⟨z,bJ,n,r,hl,e⟩:=I.lstM hH
 obtain⟨z2,its2,n2,r2,hl2,e2⟩:=I.lstM hB
 refine PySem.P.add_list e e2 ?_ (by rw[aU,aU];omega)
 have ea:bJ.toArray++its2.toArray=(bJ++its2).toArray:=by simp
 rw[ea]
 exact⟨.ref _,_,I.lnew (t':=s.toks) (r.append r2) (by rw[ai];omega),rfl,q _ I.fresh⟩
end
section
variable{w:World}
end
section
end
end L2
namespace Att
open PySem PySem.W PySem.Calls PyProof.Rows
theorem uy{P:Params}:∀(ns:List Int) (vs:List Value),WellAll P h vs (ns.map WData.int)->IntsAre vs ns:=by
 intro ns
 induction ns with
 |nil=>
  intro vs w
  rw[sA]at w
  cases w
  exact .nil
 |cons n ns ih=>
  intro vs w
  rw[a9]at w
  cases w with
  |cons a b=>
   cases a
   exact .cons _ _ (ih _ b)
theorem EC{l:OpenLaw}(hn:l.most=some n){P:Params}{args:List WData}{uQ:List Value}
  (BH:l.row.toRowW.claim.pre args=true) (UM:WellAll P h uQ args) :
  ∃a vs ns,uQ=[Value.ref a]/\args=[WData.list (ns.map WData.int)]/\h.get? a=some { cls:=.type "list",data:=.seq vs.toArray }/\IntsAre vs ns/\ns.length<=n:=by
 have hsh:WShape.hasAll [] args [.list .int]=true:=(pre_splitW BH).1
 have hc:l.pre.holds [] { args:=args }=true:=(pre_splitW BH).2
 obtain⟨d,r,rfl,h1,h2⟩:=hasAllW_cons hsh
 obtain rfl:=hasAllW_nil h2
 obtain⟨xs,rfl,h3⟩:=hasW_list h1
 obtain⟨ns,rfl⟩:=items_int h3
 have fY:ns.length<=n:=by
  unfold OpenLaw.pre at hc
  have h4:(WTm.not (.lt (.lit (.int (n:Int))) (.len (.arg 0)))).holds [] { args:=[.list (ns.map .int)] }=true:=by
   have h4:=(holds_andW hc).1
   rw[hn]at h4
   exact h4
  have h5:=condW_of h4 (w_not (w_lt w_lit (w_len_list (w_arg rfl))))
  rw[aD]at h5
  refine Nat.le_of_not_lt fun q=>?_
  have q':(n:Int)<((ns.length:Nat):Int):=by omega
  first
   |(rw[bn q']at h5;exact absurd h5 (by decide))
   |(simp at h5;omega)
 cases UM with
 |cons w1 w2=>
  cases w2
  cases w1 with
  |list ho hall=>exact⟨_,_,ns,rfl,rfl,ho,uy ns _ hall,fY⟩
theorem ED(l:OpenLaw)(args:List WData):l.row.toRowW.claim.post args (.bool true) args=true:=
 postW_of (r:=l.row.toRowW) (X:=(true==true))
  (show WShape.has [] (.bool true) .bool=true by first|rfl|decide|simp[WShape.has,WShape.arms,WShape.armsAll])
  (show(WTm.eq .res (.lit (.bool true))).value [] { args:=args,res:=some (.bool true),after:=args }=some (.bool (true==true))from w_eq_bool (w_res rfl) w_lit) rfl
theorem attach_call{l:OpenLaw}{q:Program}{yr:List Str}{d:DefRec}
  (hn:l.most=some n) (SN:d.params.defaults=[])
  (call:∀(w:World) (s₀ s₁:Shared) (mg mb:Str->Option Value) (fa:Addr) (o:Obj) (pm cd sI:Value) (a:Addr) (vs:List Value) (ns:List Int),
   Ground q yr [] XP w s₀ mg mb s₁.heap->YP w s₁.heap ->
   s₁.heap.get? fa=some o->o.data=.func (docDef d.name d.params d.body d.scope pm cd sI)->s₁.heap.CodeRec cd d.name->mg d.name=some (.ref fa) ->
   s₁.heap.get? a=some { cls:=.type "list",data:=.seq vs.toArray }->IntsAre vs ns->ns.length<=n->s₁.gens=#[] ->
   codeAny (model l.prog w) callerA (.call (.ref fa) ⟨[.ref a],[]⟩) (fun r s'=>r=.ok (.ret (.bool true))/\OldK s₁.heap s'.heap/\s'.os=s₁.os/\AllBare s'.gens) s₁) :
  WalkO q yr XP YP l.row.toRowW d [] (fun f vs=>PySem.call f vs):=by
 intro w s₀ s₁ mg mb G Y fa o pm cd sI dV kV ho hd Fh hD hmg hg args uQ as BH hlay hrd UM hlo
 obtain rfl:dV=.none:=Dflts.none hD SN
 obtain rfl:kV=.none:=Dflts.noKw hD
 obtain⟨a,vs,ns,rfl,rfl,hobj,hints,fY⟩:=EC hn BH UM
 refine enter_call (iw (call w s₀ s₁ mg mb fa o pm cd sI a vs ns G Y ho (fd_plain hd) Fh hmg hobj hints fY hg) fun r s' hq=>?_)
 obtain⟨rfl,h2,h3,h4⟩:=hq
 exact⟨.inl ⟨.bool true,.bool true,[],rfl,fun _=>rfl,.bool true,ED l _,fun _=>⟨List.Pairwise.nil,fun _ hm=>(nomatch hm)⟩⟩,h2,h3,h4⟩
section
variable{w:World}
end
end Att
namespace L2
open PySem PySem.Spec PyProof.Rows
theorem xD:∀{vs:List Value} {ns:List Int},IntsAre vs ns->cL nk (ns.map V.int) vs
 |_,_,.nil=>.nil
 |_,_,.cons n t h=>.cons ⟨t,rfl⟩ (xD h)
def J3(H:Hp):Prop:=∀b,H b=none\/∃o xs,H b=some (.frz o (.lst xs))
theorem F4{P:Program}{w:World}{mb:Str->Option Value}{CX:Ex}{k:Nat}{fa a:Addr}{fd:FuncData}{x:Str}{sp:Sp}{s₁:Shared}{vs:List Value}
  (KX:K.In s₁.heap) (UF:s₁.heap.Ns mainGlobals mg) (hb:s₁.heap.Ns builtinsNs mb) (VE:∀x:Str,x ≠ "__name__"->mb x=bootBuiltins x) (UJ:s₁.heap.NoLimit) (hg:s₁.gens=#[])
  (ha:s₁.heap.get? a=some { cls:=.type "list",data:=.seq vs.toArray }) (hi:IntsAre vs ns) (hl:ns.length<=sizeLine) (hr:iL k callerA)
  (F:∀base:Heap,K.In base->base.Ns mainGlobals mg->c7 P w K mg base CX k fa fd [x] sp) (Sy:∀(s:Shared) (u:Value),BindsTo s fd ⟨[u],[]⟩ [(x,u)]) (PR:fd.scope.names.lookup x=some .local)
  (MC:∀H:Hp,J3 H->sK K H a (ns.map V.int)->sp [.ref a] H (fun v _=>v=.bl true) fun _ _ _=>False)
  (UV:∀H e s',CX [] H s₁ (fun _ _ _=>False) e s'->False) :
  codeAny (model P w) callerA (.call (.ref fa) ⟨[.ref a],[]⟩) (fun r s'=>r=.ok (.ret (.bool true))/\OldK s₁.heap s'.heap/\s'.os=s₁.os/\AllBare s'.gens) s₁:=by
 have rv:cL 0 _ _:=xD hi
 have lenV:=hi.length
 have core:∀H:Hp,J3 H->sK K H a (ns.map V.int)->pN P w s₁.toks H s₁.heap->(∀b,H b≠none->b=a)->(H a≠none->K.lookup a=none) ->
   codeAny (model P w) callerA (.call (.ref fa) ⟨[.ref a],[]⟩) (fun r s'=>r=.ok (.ret (.bool true))/\OldK s₁.heap s'.heap/\s'.os=s₁.os/\AllBare s'.gens) s₁:=by
  intro H hO hS hok hA hK
  have base_of:∀{b:Addr} {o:Obj},s₁.heap.get? b=some o->H b=none->(yz s₁.heap H).get? b=some o:=fun e n=>FD e n
  have noA:∀{b:Addr} {o:Obj} {es:Array DictEntry} {ep:Nat},s₁.heap.get? b=some o->o.data=.dict es ep->H b=none:=fun{b o es ep} e d=>by
   cases q:H b with
   |none=>rfl
   |some u=>
    have e':b=a:=hA b (by rw[q];simp)
    subst e'
    rw[ha]at e;cases e
    have d':Data.seq vs.toArray _=Data.dict es ep:=d
    cases d'
  have nsK:∀{b:Addr} {m:Str->Option Value},s₁.heap.Ns b m->(yz s₁.heap H).Ns b m:=fun{b m} ⟨o,es,ep,e,d,r⟩=>⟨o,es,ep,base_of e (noA e d),d,r⟩
  have hKb:K.In (yz s₁.heap H):=fun b o e=>base_of (KX b o e) (by
   cases q:H b with
   |none=>rfl
   |some u=>
    have e':b=a:=hA b (by rw[q];simp)
    subst e'
    rw[hK (by rw[q];simp)]at e;cases e)
  have hM:Mod K mg (yz s₁.heap H):=⟨hKb,nsK UF,⟨mb,nsK hb,VE⟩,let ⟨mc,h1,h2⟩:=UJ;⟨mc,nsK h1,h2⟩⟩
  have e0:B5 P w K mg (yz s₁.heap H) callerA [] s₁ H:=⟨rfl,hM,fun b o e=>JD e,Nat.le_of_eq (Ek _ _),trivial,fun b hb=>absurd (show b∈([]:List Addr)from hb) #[15],hok,.of_eq hg⟩
  refine iw ((F _ hKb (nsK UF)).run callerA [] s₁ H ⟨[.ref a],[]⟩ [.ref a] [.ref a] _ _ hr e0 (.inr ⟨x,rfl,PR⟩) (Sy s₁ (.ref a)) (.cons rfl .nil) (MC H hO hS)) fun r s' h=>?_
  cases r with
  |error e=>exact(UV H e s' h).elim
  |ok fl=>
   cases fl with
   |next=>exact False.elim h
   |brk=>exact False.elim h
   |cont=>exact False.elim h
   |ret u=>
    obtain⟨v,H',os,bare,un,hok',r',q⟩:=h
    have q':v=.bl true:=q
    subst q'
    obtain rfl:u=Value.bool true:=r'
    refine⟨rfl,OldK.of_keep fun b o e=>?_,os,bare⟩
    cases q:H b with
    |none=>exact un.keep b o e q (by intro z;exact absurd (show b∈([]:List Addr)from z) (by simp)) (by simp)
    |some u=>
     rcases hO b with z|⟨ob,xs,z⟩
     ·rw[q]at z;cases z
     ·have z2:=un.frzs b ob _ z
      obtain⟨e1,_⟩:=hok b _ z
      obtain⟨e2,_⟩:=hok' b _ z2
      rw[e]at e1;cases e1
      exact e2
 cases hk:K.lookup a with
 |some o=>
  have e:=KX a o hk
  rw[ha]at e
  cases e
  refine core (fun _=>none) (fun _=>.inl rfl) (.inr ⟨_,vs.toArray,_,hk,rfl,rfl,rfl,by rw[aU,lenV];exact hl,by simpa using rv⟩) (fun b u z=>by have z':(none:Option HO)=some u:=z;cases z') (fun b z=>absurd rfl z) fun z=>absurd rfl z
 |none=>
  refine core (fun b=>if b=a then some (.frz { cls:=.type "list",data:=.seq vs.toArray } (.lst (ns.map V.int)))else none) (fun b=>?_) (.inl (.inr ⟨{ cls:=.type "list",data:=.seq vs.toArray },aF rfl⟩)) (fun b u z=>?_) (fun b z=>?_) fun _=>hk
  ·by_cases hb:b=a
   ·exact .inr ⟨_,_,aF hb⟩
   ·exact .inl (aO hb)
  ·by_cases hb:b=a
   ·have z':=(aF hb).symm.trans z
    cases z'
    subst hb
    exact⟨ha,by rw[aD];exact hl,vs,_,rv.up (cx _),ha⟩
   ·have z':=(aO hb).symm.trans z
    cases z'
  ·by_cases hb:b=a
   ·exact hb
   ·exact absurd (aO hb) z
end L2
namespace L2
open PySem PySem.Spec PyProof.Rows
theorem walk_of{l:PySem.W.OpenLaw}{n k:Nat}{q:Program}{yr:List Str}{d:DefRec}{K:Params->Frag}{CX:World->Ex}{sp:World->Sp}{x:Str}
  (hn:l.most=some n) (SV:n<=sizeLine) (SN:d.params.defaults=[]) (hr:iL k callerA)
  (hY:∀(w:World) (h:Heap),YP w h->(K w.params).In h)
  (F:∀(w:World) (mg:Str->Option Value) (fa:Addr) (h:Heap),(K w.params).In h->h.Ns mainGlobals mg->mg d.name=some (.ref fa) ->
   ∃fd:FuncData,fd.scope.names.lookup x=some .local/\(∀(s:Shared) (u:Value),BindsTo s fd ⟨[u],[]⟩ [(x,u)]) /\
    ∀base:Heap,(K w.params).In base->base.Ns mainGlobals mg->c7 l.prog w (K w.params) mg base (CX w) k fa fd [x] (sp w))
  (MC:∀(w:World) (H:Hp) (a:Addr) (ns:List Int),ns.length<=n->J3 H->sK (K w.params) H a (ns.map V.int)->sp w [.ref a] H (fun v _=>v=.bl true) fun _ _ _=>False)
  (UV:∀(w:World) (H:Hp) (s:Shared) (e:Value) (s':Shared),CX w [] H s (fun _ _ _=>False) e s'->False) :
  PySem.W.WalkO q yr XP YP l.row.toRowW d [] (fun f vs=>PySem.call f vs):=by
 refine Att.attach_call hn SN fun w s₀ s₁ mg mb fa o pm cd sI a vs ns G Y ho hd Fh hmg hobj hints fY hg=>?_
 have KX:=hY w _ Y
 obtain⟨fd,PR,hb,hF⟩:=F w mg fa _ KX G.T.g hmg
 exact F4 KX G.T.g G.T.b G.T.builtins G.T.nolimit hg hobj hints (aN fY SV) hr hF hb PR (fun H hO hS=>MC w H a ns fY hO hS) fun H e s'=>UV w H s₁ e s'
end L2
namespace L2
open PySem PySem.Spec PyProof.Rows
def ii(s:Stmt):Arguments:=match s with
 |.FunctionDef _ a _ _ _ _ _ _ _ _=>a
 |_=>{ posonlyargs:=[],args:=[],vararg:=none,kwonlyargs:=[],kw_defaults:=[],kwarg:=none,defaults:=[] }
def gE(s:Stmt):List Stmt:=match s with
 |.FunctionDef _ _ b _ _ _ _ _ _ _=>b
 |_=>[]
def aQ(s:Stmt):Scope:=match s with
 |.FunctionDef _ _ _ _ _ _ sc _ _ _=>sc
 |_=>{ kind:=.function,names:=[],isGenerator:=false,isCoroutine:=false }
structure iA(K:Frag)(x fG:Str)(st:Stmt)(f:Addr)(fd:FuncData):Prop where
 ex:∃(oc:Value) (od:Option Addr) (kV sI pm:Value) (an:Option Addr) (fq ct:Value) (MD:Array (Option Value)),
  fd=fnOf x fG (ii st) (gE st) (aQ st) .none kV sI pm an fq ct/\K.lookup f=some ⟨oc,od,.func fd,MD⟩/\codeIn K fq fG=true
 kp:keepIn K (.ref f)=true
section
variable{w:World}
theorem iA.binds{x:Str}{st:Stmt}{f:Addr}(F:iA K x fG st f fd)
  (h:∀(kV sI pm:Value) (an:Option Addr) (fq ct:Value) (us:List Value),us.length=ps.length->bindArgs (fnOf x fG (ii st) (gE st) (aQ st) .none kV sI pm an fq ct) ⟨us,[]⟩=pure (ps.zip us)):qf K fd ps []:=by
 obtain⟨oc,od,kV,sI,pm,an,fq,ct,MD,rfl,lk,Fh⟩:=F.ex
 exact .all (h kV sI pm an fq ct)
theorem yH{x:Str}{st:Stmt}{f:Addr}{oc:Value}{od an:Option Addr}{MD:Array (Option Value)}{kV sI pm fq ct:Value}(l:K.lookup f=some ⟨oc,od,.func (fnOf x fG (ii st) (gE st) (aQ st) .none kV sI pm an fq ct),MD⟩)
  (c:codeIn K fq fG=true) (k:keepIn K (.ref f)=true):iA K x fG st f (fnOf x fG (ii st) (gE st) (aQ st) .none kV sI pm an fq ct):=⟨⟨oc,od,kV,sI,pm,an,fq,ct,MD,rfl,l,c⟩,k⟩
end
theorem Lj{k:Nat}(hr:iL k A):A.units+1<cLine:=gJ (Nat.add_le_add_left (by decide:1<=64) _) hr.units
section
theorem pv(i:Nat){x:Str}{pos:Pos}(hN:X.N[i]?=some x:=by rfl)(hv:P' X.env.scope x:=by first|exact Or.inl rfl|exact Or.inr (Or.inl rfl)|exact Or.inr (Or.inr rfl))(hd:(x==("__debug__":Str))=false:=by decide)
  (Fh:(x==("__classdict__":Str))=false:=by decide):PE X (.Name x pos) (Qa i):=MK hN hv hd Fh
end
def uz(H H':Hp):Prop:=∀b o,H b=some o->H' b=some o
theorem uz.refl(H:Hp):uz H H:=fun _ _ h=>h
end L2
namespace L2
open PySem PySem.Spec PyProof.Rows
section
variable{κ:Type}[DecidableEq κ]
def sP(kvs:List (κ×V))(k:κ):Option V:=(kvs.find? fun kv=>decide (kv.1=k)).map (·.2)
def yI(kvs:List (κ×V))(k:κ)(v:V):List (κ×V):=
 if (kvs.any fun kv=>decide (kv.1=k))=true then kvs.map (fun kv=>if kv.1=k then(kv.1,v)else kv)else kvs++[(k,v)]
theorem F5{p:κ×V}{r:List (κ×V)}{k:κ}(e:p.1=k):sP (p::r) k=some p.2:=by simp[sP,fU,e]
theorem F6{p:κ×V}{r:List (κ×V)}{k:κ}(e:¬ p.1=k):sP (p::r) k=sP r k:=by simp[sP,fU,e]
theorem t8(kvs:List (κ×V))(k:κ)(v:V):(yI kvs k v).length<=kvs.length+1:=by
 unfold yI
 split
 ·rw[aD];omega
 ·rw[ai,bh,kG];omega
end
theorem F7{w:World}{k:mz}(r:c8 nk (kV k) u):(gD P w).is k u=true:=by
 cases k with
 |inl i=>obtain⟨t,e⟩:=(show ∃t,u=Value.int i t from r);subst e;exact Ab P w i t
 |inr x=>obtain⟨t,e⟩:=(show ∃t:Tk _ x,u=Value.str x t.1 from r);subst e;exact Ac P w x t
theorem xE{w:World}:∀{ks:List mz} {us:List Value},cL nk (ks.map kV) us->ItemsAre (gD P w) ks us
 |[],_,r=>by rw[sA]at r;cases r;exact .nil
 |k::ks,_,r=>by
  rw[a9]at r
  cases r with
  |cons h t=>exact .cons (F7 h) (xE t)
abbrev KT(nk:Nat)(H:Hp):List (List mz×V)->List (List mz×Addr×Value)->Prop:=Paired fun p q=>p.1=q.1/\H q.2.1=some (.tup (p.1.map kV))/\c8 nk p.2 q.2.2
section
variable{w:World}{a:Addr}
theorem Lk{u:HO}(ok:pN P w nk H h)(e:Rd H a u):fA P w nk H h a u:=e.ok ok
theorem F8{kvs:List (mz×V)}(ok:pN P w nk H h)(e:Rd H a (.dK kvs)):kvs.length<=sizeLine/\(a==sysModules)=false/\∃vs,KV nk kvs vs/\h.DictOf (gD P w) a vs:=
 show fA P w _ H h a (.dK kvs)from Lk ok e
theorem QM{kvs:List (mz×V)}(ok:pN P w nk H h)(e:H a=some (.dK kvs)):kvs.length<=sizeLine/\(a==sysModules)=false/\∃vs,KV nk kvs vs/\h.DictOf (gD P w) a vs:=F8 ok (.inl e)
theorem Cc{ks:List mz}(ok:pN P w nk H h)(e:H a=some (.tup (ks.map kV))):(tupleKind (gD P w)).is h ks a:=by
 obtain⟨_,bJ,r,o,h1,h2,n,h3⟩:=(show fA P w _ H h a (.tup (ks.map kV))from ok a _ e)
 exact⟨o,bJ.toArray,n,h1,h2,h3,by simpa using xE r⟩
theorem F9{kvs:List (List mz×V)}(ok:pN P w nk H h)(e:Rd H a (.dT kvs)):kvs.length<=sizeLine/\(a==sysModules)=false /\
  ∃xs,KT nk H kvs xs/\h.DictOfH (tupleKind (gD P w)) a xs:=by
 obtain⟨z,y,xs,r,o,es,ep,h1,h2,h3,h4,h5⟩:=(show fA P w _ H h a (.dT kvs)from Lk ok e)
 refine⟨z,y,xs,r,o,es,ep,h1,h2,h3,h4,fun x hx=>?_,h5⟩
 have all:∀{l:List (List mz×V)} {m:List (List mz×Addr×Value)},KT nk H l m->∀x∈m,(tupleKind (gD P w)).is h x.1 x.2.1:=by
  intro l m q
  induction q with
  |nil=>intro x hx;exact nomatch hx
  |@cons p q ps qs hq t ih=>
   intro x hx
   rcases aT.mp hx with e|hx
   ·subst e
    exact Cc ok (by rw[<- hq.1];exact hq.2.1)
   ·exact ih x hx
 exact all r x hx
theorem QN{kvs:List (List mz×V)}(ok:pN P w nk H h)(e:H a=some (.dT kvs)):kvs.length<=sizeLine/\(a==sysModules)=false /\
  ∃xs,KT nk H kvs xs/\h.DictOfH (tupleKind (gD P w)) a xs:=F9 ok (.inl e)
end
def EE(H:Hp)(a:Addr)(y:V)(r:Option V):Prop:=
 (∃kvs k,Rd H a (.dK kvs)/\y=kV k/\r=sP kvs k)\/∃kvs k b,Rd H a (.dT kvs)/\y=.ref b/\H b=some (.tup (k.map kV))/\r=sP kvs k
def J4(H:Hp)(a:Addr)(y v:V)(H':Hp):Prop:=
 (∃kvs k,H a=some (.dK kvs)/\y=kV k/\kvs.length<sizeLine/\H'=f_ H a (.dK (yI kvs k v))) \/
 ∃kvs k b,H a=some (.dT kvs)/\y=.ref b/\H b=some (.tup (k.map kV))/\kvs.length<sizeLine/\H'=f_ H a (.dT (yI kvs k v))
theorem J4.k{a:Addr}{kvs:List (mz×V)}{k:mz}{v:V}(e:H a=some (.dK kvs))(hl:kvs.length<sizeLine):J4 H a (kV k) v (f_ H a (.dK (yI kvs k v))):=.inl ⟨kvs,k,e,rfl,hl,rfl⟩
section
variable{a:Addr}{y v:V}{r:Value}{o:Option V}
theorem Dx{ob:HO}(I:bQ X ak σ H s)(mu:P_ (H a))(hs:Heap.SameBut a s.heap h')(he:∃q,h'.get? a=some q)(new:fA X.prog X.w s.toks (f_ H a ob) h' a ob)(hk:s.toks<=t':=by first|exact az _|exact bt _|assumption|omega) :
  bQ X ak σ (f_ H a ob) { s with heap:=h',toks:=t' }:=
 I.write (x:=a) (e:=a) mu (.inl rfl) (fun b q hb z=>(hs.2 b hb).trans z) he (new.up hk)
theorem Nq{w:World}{kvs:List (mz×V)}{vs:List (mz×Value)}(z:kvs.length<=sizeLine)(hd:(a==sysModules)=false)(rel:KV nk kvs vs)(dd:h'.DictOf (gD P w) a vs) :
  fA P w nk H' h' a (.dK kvs):=⟨z,hd,vs,rel,dd⟩
theorem EF{Q:Unit->Shared->Prop}(hu:A.units+1<cLine)(I:bQ X ak σ H s)(g:J4 H a y v H')(ry:c8 s.toks y u)(rv:c8 s.toks v r)(h:∀s',bQ X ak σ H' s'->Q () s') :
  wpAny #[3] A (setItem (.ref a) u r) Q E s:=by
 rcases g with⟨kvs,k,e,ey,l,eH⟩|⟨kvs,k,b,e,ey,eb,l,eH⟩
 ·subst ey eH
  obtain⟨z,hd,vs,rel,dd⟩:=QM I.hok e
  have hz:vs.length<=sizeLine:=by rw[<- rel.length];exact z
  have hl:(yI kvs k v).length<=sizeLine:=by have:=t8 kvs k v;omega
  refine wpAny_setItem_pairs (hsz:=hz) (F7 ry) dd fun h' dd' hs=>h _ ?_
  have he:∃q,h'.get? a=some q:=let ⟨q,_,_,hq,_⟩:=dd';⟨q,hq⟩
  exact Dx I (by rw[e];exact True.intro) hs he (Nq hl hd (rel.put k rv) dd')
 ·subst ey eH
  cases(show u=Value.ref b from ry)
  obtain⟨z,hd,xs,rel,dd⟩:=QN I.hok e
  have hz:xs.length<=sizeLine:=by rw[<- Paired.length rel];exact z
  have hl:(yI kvs k v).length<=sizeLine:=by have:=t8 kvs k v;omega
  refine wpAny_setItem_heap (hsz:=hz) (tupleKind_room_in1 hu) (Cc I.hok eb) dd fun h' dd' hs=>h _ ?_
  obtain⟨q,es,ep,hq,h2,h3,h4,_,h5⟩:=dd'
  refine Dx I (by rw[e];exact True.intro) hs ⟨q,hq⟩ ⟨hl,hd,_,(rel.put k eb rv).keeps fun c ys ec=>?_,q,es,ep,hq,h2,h3,h4,h5⟩
  rw[df (P9 ec e (fun z=>nomatch z))]
  exact ec
end
section
variable{a:Addr}{kvs:List (mz×V)}{k:mz}
end
section
variable{i value:Expr}{UO:Pos}{td ty tv:TE}
end
section
end
structure M1(X:Cx)(o:Expr)(m:Str)(fH:Pos)(e:Expr)(dH:Pos):Prop where
 base:attributeBase o m X.env (eval o X.env)=eval o X.env
 few:((backTo dH (starEach [e] X.env)).all (fun x=>!x.1)&&(backToKw dH (keywordEach [] X.env)).all (fun x=>x.1.isSome)
  && decide (([e]:List Expr).length+([]:List Keyword).length+(if ([]:List Keyword).isEmpty then 0 else 1)<30))=true
 line:(fH.endLine==dH.line)=true
 trees:backTo dH (starEach [e] X.env)=[(false,eval e X.env)]
def U0(H:Hp)(a:Addr):Prop:=(∃kvs,Rd H a (.dK kvs))\/∃kvs,Rd H a (.dT kvs)
theorem Nr{a:Addr}(I:bQ X ak σ H s)(d:U0 H a) :
  s.TypeIs (.ref a) "dict"/\(∀b,Value.ref a=.ref b->∃ob,s.heap.get? b=some ob/\ob.dict=none)/\(a==sysModules)=false:=by
 rcases d with⟨kvs,e⟩|⟨kvs,e⟩
 ·obtain⟨_,hd,vs,_,dd⟩:=F8 I.hok e
  refine⟨dd.typeIs,fun b q=>?_,hd⟩
  cases q
  obtain⟨ob,_,_,h1,h2,_⟩:=dd
  exact⟨ob,h1,h2.2.1⟩
 ·obtain⟨_,hd,xs,_,dd⟩:=F9 I.hok e
  refine⟨dd.typeIs,fun b q=>?_,hd⟩
  cases q
  obtain⟨ob,_,_,h1,h2,_⟩:=dd
  exact⟨ob,h1,h2.2.1⟩
section
variable{a:Addr}{y d:V}{r:Value}{o:Option V}
theorem Nt(hu:A.units+1<cLine)(I:bQ X ak σ H s)(g:EE H a y o)(ry:c8 s.toks y u)(h:∀w' s',bQ X ak σ H s'->c8 s'.toks (o.getD .non) w'->Q w' s') :
  wpAny #[3] A (call (.builtin "dict.get") [.ref a,u]) Q E s:=by
 rcases g with⟨kvs,k,e,ey,l⟩|⟨kvs,k,b,e,ey,eb,l⟩
 ·subst ey
  obtain⟨z,hd,vs,rel,dd⟩:=F8 I.hok e
  refine call_meetsIn PySem.F.slot_dict_get dd.typeIs PySem.F.entry_dict_get (PySem.F.args_dict_get_2 _ _) (meets_dict_get (gD X.prog X.w) a (F7 ry) hd) ⟨_,dd.mapOf,h _ _ (I.tok _) ?_⟩
  rw[l]
  exact((rel.val k).getD (show c8 s.toks .non Value.none from rfl)).up (iu _ _)
 ·subst ey
  cases(show u=Value.ref b from ry)
  obtain⟨z,hd,xs,rel,dd⟩:=F9 I.hok e
  refine call_meetsIn PySem.F.slot_dict_get dd.typeIs PySem.F.entry_dict_get (PySem.F.args_dict_get_2 _ _) (meetsH_dict_get (tupleKind (gD X.prog X.w)) a b hd) ⟨tupleKind_room_in1 hu,k,xs,Cc I.hok eb,dd,h _ _ (I.tok _) ?_⟩
  rw[l]
  exact((rel.val k).getD (show c8 s.toks .non Value.none from rfl)).up (iu _ _)
end
def Nu(td ty:TE):TE:=fun σ H Q=>td σ H fun x H1=>∃a,x=.ref a/\U0 H1 a/\ty σ H1 fun y H2=>∃o,EE H2 a y o/\Q (o.getD .non) H2
section
variable{f:Expr}{td ty tx:TE}
theorem F_(hu:X.A.units+1<cLine)(ho:PE X o td)(he:PE X e ty)(m:M1 X o "get" fH e dH):PE X (.Call (.Attribute o "get" fH) [e] [] dH) (Nu td ty):=by
 intro ak s σ H Q I h
 refine wpAny_Call_method m.base m.few m.line PySem.F.plainAttrs_dict PySem.F.slot_dict_get PySem.F.type_dict_get (jC (ho ak s σ H _ I h) fun u s1 kt1 zq=>?_)
 obtain⟨x,H1,I1,rx,a,ex,d,q1⟩:=zq
 subst ex
 obtain rfl:u=Value.ref a:=rx
 obtain⟨t1,t2,_⟩:=Nr I1 d
 refine⟨t1,t2,?_⟩
 rw[m.trees]
 refine gK rfl (ie (eR (jC (he ak s1 σ H1 _ I1 q1) fun iv s2 kt2 ⟨y,H2,I2,ry,ov,g,q2⟩=>f6 ?_)))
 exact Nt hu I2 g ry fun w' s3 I3 oq=>⟨_,H2,I3,oq,q2⟩
end
section
variable{a:Addr}{kvs:List (mz×V)}
end
section
variable{a:Addr}{y:V}
end
end L2
namespace L2
open PySem PySem.Spec PyProof.Rows
section
end
section
variable{κ:Type}[DecidableEq κ]
end
end L2
set_option maxHeartbeats 4000000
namespace L2
open PySem PySem.Spec PyProof.Rows
theorem sQ{t:Sem α}{Q Q':α->Shared->Prop}(h:wpAny M A t Q (fun _ _=>False) s)(hQ:∀a s',s.toks<=s'.toks->Q a s'->Q' a s'):wpAny M A t Q' E s:=
 up (lv h (fun a s' q k=>hQ a s' k q) fun _ _ z=>z.elim)
abbrev dZ(X:Cx)(nm:List Str)(scope:Scope)(cl:List (Str×Addr))(C:Addr)(s0:Shared)(H0:Hp)(fp:List Addr):Cx:=
 { X with N:=nm,s₀:=s0,H₀:=H0,env:=compEnvC scope cl C X.env,outer:=X.stack,stack:=X.stack,ex:=fp,fn:=fun _=>false,pn:=[],xe:=fun _ _=>False }
def F'(X:Cx)(mU:List Expr)(t:TT):Prop:=
 ∀(ak:List (Addr×Obj)) (s:Shared) (σ:St) (H:Hp) (Q:Bool->Hp->Prop),bQ X ak σ H s->t σ H Q ->
  wpAny #[3] X.A (forIn mU true fun c r=>if r=true then do let ok <- isTrue c X.env (eval c X.env);pure (ForInStep.yield ok)else pure (ForInStep.yield r)) (TP X ak σ Q) X.xe s
def T_:TT:=fun _ H Q=>Q true H
theorem J5:F' X [] T_:=fun _ _ _ H _ I h=>wpAny_tests_nil ⟨H,I,h⟩
theorem J6{t:TT}(hc:PT X c t):F' X [c] t:=fun ak s σ H Q I h=>wpAny_tests_one (hc ak s σ H Q I h)
def qg(cap:List (Option Nat))(σ:St):St:=cap.map fun o=>o.bind fun j=>(σ[j]?).join
def ve(cap:List (Option Nat))(wi:TI)(g:TG)(tc:TT)(te:TE):TE:=fun σ H Q=>wi σ H fun J H1=>∃W:Nat->Nat->List V->Hp->Prop,(∃m,W 0 m [] H1)/\∀i m ys H2,W i m ys H2 ->
 (J.stop i H2/\ys.length<=sizeLine/\∀p,H2 p=none->Q (.ref p) (f_ H2 p (.lst ys))) \/
 (J.go i H2/\∀x H3,J.yld i H2 x H3->g x (qg cap σ) H3 fun σ2 H4=>tc σ2 H4 fun b H5=>if b=true then te σ2 H5 fun y H6=>ys.length<sizeLine/\∃m',m'<m/\W (i+1) m' (ys++[y]) H6 else ∃m',m'<m/\W (i+1) m' ys H5)
theorem Un.cellK{fs ex:List Addr}(u:Un fs ex H H' h h'){c:Addr}{v:Option Value}(x:h.IsCell c v)(n:H c=none)(he:c∉ex):h'.IsCell c v:=by
 obtain⟨o,ho,hd⟩:=x
 obtain⟨sl,q⟩:=u.any ho n he
 exact⟨_,q,hd⟩
structure vf(X:Cx)(scope:Scope)(cl:List (Str×Addr))(x:Str):Prop where
 vis:P' X.env.scope x
 nl:X.env.scope.names.lookup x≠some .local
 cl:cl.lookup x=X.env.cells.lookup x
 kd:(relabel scope X.env).names.lookup x=some .cell\/(relabel scope X.env).names.lookup x=some .free
theorem l_:∀(names:List (Str×NameKind)) (n:Nat) (iT:List (Str×Addr)) {y:Str} {c:Addr},(y,c)∈cellsFrom n names iT->(y,NameKind.cell)∈names\/(y,c)∈iT
 |[],_,_,_,_,h=>.inr h
 |(x,k)::r,n,iT,y,c,h=>by
  have h:(y,c)∈(if k==.cell then cellsFrom (n+1) r ((x,n)::iT)else cellsFrom n r iT):=h
  split at h
  ·rename_i hk
   rcases l_ r _ _ h with q|q
   ·exact .inl (aS _ q)
   ·rcases aT.mp q with e|q
    ·cases e
     exact .inl (by rw[mQ hk];exact bC)
    ·exact .inr q
  ·rcases l_ r _ _ h with q|q
   ·exact .inl (aS _ q)
   ·exact .inr q
theorem ja:∀{l:List (Str×β)} {x:Str} {b:β},l.lookup x=some b->(x,b)∈l
 |[],_,_,h=>by simp at h
 |(y,c)::r,x,b,h=>by
  rw[jT]at h
  cases hx:x==y with
  |true=>rw[hx]at h;have:=mQ hx;subst this;cases h;exact bC
  |false=>rw[hx]at h;exact aS _ (ja h)
theorem jV:∀(names:List (Str×NameKind)) (n:Nat) (iT:List (Str×Addr)),cellsFrom n names iT=cellsFrom n names []++iT
 |[],_,_=>rfl
 |(x,k)::r,n,iT=>by
  show(if k==.cell then cellsFrom (n+1) r ((x,n)::iT)else cellsFrom n r iT)=(if k==.cell then cellsFrom (n+1) r [(x,n)]else cellsFrom n r [])++iT
  split
  ·rw[jV r (n+1) ((x,n)::iT),jV r (n+1) [(x,n)],al];rfl
  ·exact jV r n iT
abbrev e_(X:Cx)(nm:List Str)(scope:Scope)(cl:List (Str×Addr))(C:Addr)(s0:Shared)(H0:Hp)(fp:List Addr):Cx:=
 { dZ X nm scope cl C s0 H0 fp with fn:=fun y=>scope.names.lookup y==some .cell }
theorem J7{M:Model}{A:Around}{E:Value->Shared->Prop}{globals:Addr}{Q:Env->Shared->Prop}
  (hQ:∀h':Heap,h'.Ns s.heap.objs.size (fun x=>([]:List (Str×Value)).reverse.lookup x)->(∀b o,s.heap.get? b=some o->h'.get? b=some o)->CellsOk h' #[7] (cellsFrom #[7] scope.names []) ->
   Q (newEnv scope s.heap.objs.size globals (cellsFrom #[7] scope.names []++cl) fG none .none (some env) builtinsNs) { s with heap:=h' }) :
  wpAny M A (newFunctionEnv scope globals cl [] fG none .none (some env)) Q E s:=by
 simp only[newFunctionEnv,Option.isSome_some,f7]
 refine af (wpAny_alloc ?_)
 refine af (wpAny_layCells _ (fun name kind cells=>by cases hkc:kind==NameKind.cell<;>simp[hkc]) _ _ _ _ ?_)
 have ok:=cellsFrom_ok scope.names (s.heap.push { cls:=.type "dict",data:=.dict #[] }) #[7] [] ⟨fun _ _ hm=>(nomatch hm),List.Pairwise.nil⟩ (by rw[bx];exact az _)
 rw[bx]at ok
 rw[show({ s with heap:=s.heap.push { cls:=.type "dict",data:=.dict #[] } }:Shared).heap.objs.size=s.heap.objs.size+1 from bx ..,jV _ _ cl]
 exact af (ay (ay (hQ _ ((Heap.Ns.new s.heap (.type "dict")).keeps (kD _ _)) (fun b o e=>kD _ _ b o (aw _ e)) ok)))
section
variable{wi:TI}{g:TG}{tc:TT}
theorem yJ{prog:Program}{w:World}{A:Around}{E:Value->Shared->Prop}{l:Addr}{u:Value}{Q:Value->Shared->Prop}
  (e:s.heap.get? l=some { cls:=.type "list",data:=.seq bJ.toArray n }) (hz:bJ.length<sizeLine)
  (h:∀(h':Heap) (n' tk:Nat),h'.get? l=some { cls:=.type "list",data:=.seq (bJ++[u]).toArray n' }->(∀b o,b≠l->s.heap.get? b=some o->h'.get? b=some o)->Q .none { s with heap:=h',toks:=tk }) :
  wpAny #[8] A (call (.builtin "list.append") [.ref l,u]) Q E s:=by
 refine qZ F.slot_list_append ⟨_,e,rfl⟩ F.entry_list_append (F.args_list_append_2 _ _) (PySem.list_append l bJ.toArray n u (by rw[aU];omega)) ⟨e,?_⟩
 have q:=PySem.IsL.update e (fun a=>a.push u)
 have q2:(s.heap.update l (Obj.mapSeq fun x=>x.push u)).get? l=some { cls:=.type "list",data:=.seq (bJ++[u]).toArray (if ((bJ.toArray.push u).size==bJ.toArray.size)=true then n else n+1) }:=by
  rw[show(s.heap.update l (Obj.mapSeq fun x=>x.push u)).get? l=_ from q];simp
 exact h _ _ s.toks q2 fun b o hb ho=>(cK s.heap (Obj.mapSeq _) (Ne.symm hb)).trans ho
structure Aj(X:Cx)(ak:List (Addr×Obj))(H:Hp)(s:Shared)(C:Addr)(m:Str->Option Value):Prop where
 ns:s.heap.Ns C m
 fr:H C=none
 nl:C≠X.env.locals
 nf:C∉X.fs
 hi:X.s₀.heap.objs.size<=C
 nc:∀x c,X.env.cells.lookup x=some c->c≠C
 np:∀p∈X.pn++ak,p.1≠C
theorem Aj.off{m:Str->Option Value}(B:Aj X ak H s C m)(I:bQ X ak σ H s)(hs:Heap.SameBut C s.heap h'):bQ X ak σ H { s with heap:=h' }:=I.turned (t':=s.toks) (it:=C) (fun b o hb e=>hs.extBut b o hb e) B.fr B.nl (.inr B.hi) B.nc B.np
theorem Ga{ME:List (Addr×Obj)}{σ2:St}{H1:Hp}{s2:Shared}
  (uS:∀(i j:Nat),cap[i]?=some (some j)->∃x,nm[i]?=some x/\X.N[j]?=some x/\vf X scope cl x) (fY:cap.length=nm.length)
  (I2:bQ X ak σ H1 s2) (S5:∀b∈fp,∀x c,X.env.cells.lookup x=some c->c≠b)
  (I:bQ (e_ X nm scope cl C s2 H1 fp) ME σ2 H s):bQ (e_ X nm scope cl C s2 H1 fp) ME (qg cap σ) H s:=by
 refine⟨I.ok,I.os,I.bare,I.base,?_,I.cell,I.free,I.freeC,I.pin,I.hok,by show(qg cap σ).length=nm.length;unfold qg;rw[aD];exact fY,I.pos,I.tk⟩
 obtain⟨m,hn,_⟩:=I.loc
 refine⟨m,hn,fun i x v e1 e2 e3=>?_⟩
 unfold qg at e2
 rw[aI]at e2
 cases hc:cap[i]? with
 |none=>rw[hc]at e2;cases e2
 |some oj=>
  cases oj with
  |none=>rw[hc]at e2;cases e2
  |some j=>
   rw[hc]at e2
   have e2':(σ[j]?).join=some v:=by simpa using e2
   have e2:σ[j]?=some (some v):=by
    cases hs:σ[j]? with
    |none=>rw[hs]at e2';cases e2'
    |some ov=>rw[hs]at e2';simp at e2';rw[e2']
   obtain⟨x',f1,f2,k⟩:=uS i j hc
   have hx:x'=x:=by
    have z:nm[i]?=some x:=e1
    rw[f1]at z;exact bu z
   subst hx
   obtain⟨m2,_,hl2⟩:=I2.loc
   obtain⟨u,r,l⟩:=hl2 j x' v f2 e2 k.vis
   refine⟨u,r.up I.tk,?_⟩
   rcases l with⟨kl,_⟩|⟨_,c,hcc,hU⟩
   ·exact absurd kl k.nl
   ·refine .inr ⟨k.kd,c,by rw[<- hcc];exact k.cl,?_⟩
    exact I.base.cellK hU (I2.freeC _ _ hcc) fun z=>S5 c z _ _ hcc rfl
theorem Cd{Qk:VK}(jI:X.calm=true)(wL:closureFor scope X.env=pure cl)(BO:∀x c,cl.lookup x=some c->X.env.cells.lookup x=some c)
  (jH:scope.kind=.function) (qU:∀x∈scope.names,x.2=.local->scope.names.lookup x.1=some .local) (Vx:∀y∈scope.names,y.2=.cell->cl.lookup y.1=none)
  (Di:∀x,scope.names.lookup x≠some .cell->#[12]->∃c,cl.lookup x=some c)
  (uS:∀(i j:Nat),cap[i]?=some (some j)->∃x,nm[i]?=some x/\X.N[j]?=some x/\vf X scope cl x/\(x,NameKind.cell)∉scope.names) (fY:cap.length=nm.length)
  (hi:PI X tg ef wi) (hg:∀k C s0 H0 fp,PG (e_ X nm scope (cellsFrom k scope.names []++cl) C s0 H0 fp) tg g) (ht:∀k C s0 H0 fp,F' (e_ X nm scope (cellsFrom k scope.names []++cl) C s0 H0 fp) mU tc)
  (he:∀k C s0 H0 fp,PE (e_ X nm scope (cellsFrom k scope.names []++cl) C s0 H0 fp) qX te) (hs:∀x,foldedSetIterable ef X.env x=pure x)
  (I:bQ X ak σ H s) (h:ve cap wi g tc te σ H Qk) (kL:∀(s4:Shared) (C D:Addr) (m4:Str->Option Value) (Hn:Hp),bQ X ak σ Hn s4->Aj X ak Hn s4 C m4->Qk (.ref D) Hn->compPost #[3] X.A X.xe use Qv (.ref D) C (.ok .next) s4) :
  wpAny #[3] X.A (comprehension #[10] scope X.env (firstIterPos [⟨tg,ef,mU,0⟩] pos) (newList []) (firstAsync [⟨tg,ef,mU,0⟩]) (firstIter [⟨tg,ef,mU,0⟩] X.env) use) Qv X.xe s:=by
 refine wpAny_comprehension_free (use:=use) rfl hs wL jH qU (Dq (hi ak s σ H _ I h) fun v s1 h1=>Dq h1 fun UR s2 h2=>?_)
 obtain⟨it,fp,tn,J,H1,e,I2,T,cZ,f2,W,⟨m0,w0⟩,turn⟩:=h2
 subst e
 have hfpn:∀b∈fp,b<s2.heap.objs.size:=fun b hb=>let ⟨o,ho,_⟩:=T.obj _ _ cZ b hb;aJ ho
 have hfpc:∀b∈fp,∀x c,X.env.cells.lookup x=some c->c≠b:=fun b hb=>(f2 b hb).2.2.2.2.1
 refine cC (J7 (fun h₁ hns₁ hsb₁ cok=>?_))
 dsimp only at hns₁ hsb₁ cok ⊢
 generalize hH2:s2.heap.push { cls:=.type "list",dict:=none,data:=.seq ([]:List Value).toArray }=G2 at hns₁ hsb₁ cok ⊢
 have hC:G2.objs.size=s2.heap.objs.size+1:=by rw[<- hH2,bx]
 have hDC:s2.heap.objs.size≠G2.objs.size:=by rw[hC];exact bf (b9 _)
 have old:∀b o,s2.heap.get? b=some o->h₁.get? b=some o:=fun b o e=>hsb₁ b o (hH2▸aw _ e)
 have hacc:h₁.get? s2.heap.objs.size=some { cls:=.type "list",data:=.seq ([]:List Value).toArray }:=hsb₁ _ _ (hH2▸aC _ rfl)
 have both:∀y c,(cellsFrom (G2.objs.size+1) scope.names []++cl).lookup y=some c->(cellsFrom (G2.objs.size+1) scope.names []).lookup y=some c\/cl.lookup y=some c:=fun y c e=>by
  rw[i9]at e
  cases h:(cellsFrom (G2.objs.size+1) scope.names []).lookup y with
  |none=>rw[h]at e;exact .inr e
  |some b=>rw[h]at e;exact .inl e
 have ownhi:∀y c,(cellsFrom (G2.objs.size+1) scope.names []).lookup y=some c->h₁.IsCell c none/\G2.objs.size+1<=c:=fun y c e=>cok.empty y c (PySem.mem_of_lookup e)
 have cllow:∀y c,cl.lookup y=some c->c<s2.heap.objs.size:=fun y c e=>by obtain⟨v,hv⟩:=I2.cell y c (BO _ _ e);exact hv.lt
 have hcap0:=uS
 have uS:∀(i j:Nat),cap[i]?=some (some j)->∃x,nm[i]?=some x/\X.N[j]?=some x/\vf X scope (cellsFrom (G2.objs.size+1) scope.names []++cl) x:=fun i j e=>by
  obtain⟨x,q1,q2,k,q3⟩:=hcap0 i j e
  refine⟨x,q1,q2,k.vis,k.nl,?_,k.kd⟩
  rw[i9]
  cases h:(cellsFrom (G2.objs.size+1) scope.names []).lookup x with
  |none=>exact k.cl
  |some c=>
   rcases l_ _ _ _ (PySem.mem_of_lookup h)with z|z
   ·exact absurd z q3
   ·cases z
 have okB:#[2].Ok:=by
  refine⟨I2.ok.mod,jH,I2.ok.glob,I2.ok.blt,by show s2.heap.objs.size<=G2.objs.size;omega,fun x y c h1 h2=>?_,fun x hx=>?_,fun x c h0 hc=>?_,fun hc=>I2.ok.hd jI,I2.ok.frames,.inl rfl,?_,?_,?_,?_,?_,?_,?_⟩
  ·rcases both x c h1 with q1|q1<;>rcases both y c h2 with q2|q2
   ·exact name_of_addr cok.apart (PySem.mem_of_lookup q1) (PySem.mem_of_lookup q2)
   ·exact absurd (cllow y c q2) (i_.mpr (aN #[0] (ownhi x c q1).2))
   ·exact absurd (cllow x c q1) (i_.mpr (aN #[0] (ownhi y c q2).2))
   ·exact I2.ok.inj x y c (BO _ _ q1) (BO _ _ q2)
  ·show ∃c,(cellsFrom (G2.objs.size+1) scope.names []++cl).lookup x=some c
   rw[i9]
   by_cases hq:scope.names.lookup x=some .cell
   ·obtain⟨c,e⟩:=mC (n:=G2.objs.size+1) hq
    exact⟨c,by rw[e];rfl⟩
   ·obtain⟨c,e⟩:=Di x hq hx
    cases h:(cellsFrom (G2.objs.size+1) scope.names []).lookup x with
    |none=>exact⟨c,e⟩
    |some b=>exact⟨b,rfl⟩
  ·have hq:scope.names.lookup x=some .cell:=by simpa using h0
   obtain⟨b,e⟩:=mC (n:=G2.objs.size+1) hq
   have hc:(cellsFrom (G2.objs.size+1) scope.names []++cl).lookup x=some c:=hc
   rw[i9,e]at hc
   cases hc
   have:=(ownhi x _ e).2
   show s2.heap.objs.size<=_
   omega
  ·intro b hb
   exact⟨bf (aP (hfpn b hb) (by show _<=G2.objs.size;omega)),fun x c hx=>(both x c hx).elim (fun q=>et (aP (hfpn b hb) (aN #[0] (ownhi x c q).2))) fun q=>hfpc b hb x c (BO _ _ q)⟩
  ·exact fun b o hb=>I2.bs b o hb
  ·exact aN I2.ok.bsz I2.sz
  ·intro b o hb z
   rcases(f2 b z).2.2.2.1 with q|q
   ·exact I2.ok.noex b o hb q
   ·exact absurd (aJ (I2.ok.bs b o hb).1) (i_.mpr q)
  ·intro b hb z
   rcases aT.mp (I2.stkSub b z)with q|q
   ·exact(f2 b hb).2.1 q
   ·exact(f2 b hb).2.2.1 q
  ·exact I2.stack
  ·exact I2.stkFree
 have I4:bQ #[2] [] (qg cap σ) H1 { s2 with heap:=h₁ }:=by
  refine Ga uS fY I2 hfpc (σ2:=List.replicate nm.length none) ⟨okB,rfl,I2.bare,Un.kept old,⟨_,hns₁,fun i x v _ e2=>?_⟩,fun x c hx=>?_,?_,fun x c hx=>(both x c hx).elim (fun q=>I2.hok.fresh (by have:=(ownhi x c q).2;omega)) fun q=>I2.freeC x c (BO _ _ q),fun p hp=>absurd hp #[15],I2.hok.kept old,by simp,I2.pos,az _⟩
  ·rw[jf]at e2;split at e2<;>cases e2
  ·rcases both x c hx with q|q
   ·exact⟨none,(ownhi x c q).1⟩
   ·obtain⟨v,hv⟩:=I2.cell x c (BO _ _ q)
    exact⟨v,hv.keeps old⟩
  ·exact I2.hok.fresh (by show _<=G2.objs.size;omega)
 have hsz0:∀{Hx:Hp} {sx:Shared} {px:List (Addr×Obj)} {σx:St},bQ #[2] px σx Hx sx->Hx s2.heap.objs.size=none->∀{oa:Obj},sx.heap.get? s2.heap.objs.size=some oa->(∀v,oa.data≠.cell v) ->
   bQ #[2] [(s2.heap.objs.size,oa)] σx Hx sx:=fun{Hx sx px σx} Ix hn {oa} ho hd=>Ix.pins_of fun p hp=>by
  have e:p=(s2.heap.objs.size,oa):=by simpa using hp
  subst e
  exact⟨ho,hn,hDC,fun z=>by
   obtain⟨_,o,q,_⟩:=I2.stack.mem z
   exact absurd (aJ q) (dL _),hd⟩
 have hfpB:∀{Hx:Hp} {oa:Obj},(∀b∈fp,Hx b=none)->∀b∈fp,sL #[2] [(s2.heap.objs.size,oa)] Hx b:=fun{Hx oa} hn b hb=>
  ⟨hn b hb,(okB.exf b hb).1,okB.exfs b hb,.inl hb,(okB.exf b hb).2,fun p hp=>by
   have e:p=(s2.heap.objs.size,oa):=by simpa using hp
   subst e
   exact et (hfpn b hb)⟩
 have hcalmB:#[2].calm=true:=jI
 have loop:∀sx:Shared,sx={ s2 with heap:=h₁ } ->
   codeAny #[3] X.A (.compLoop #[10] 0 (.ref it) (.ref s2.heap.objs.size) (compEnvC scope (cellsFrom (G2.objs.size+1) scope.names []++cl) G2.objs.size X.env))
    (compPost #[3] X.A X.xe use Qv (.ref s2.heap.objs.size) G2.objs.size) sx:=by
  rintro sx rfl
  refine codeAny_loop rfl (fun n s'=>∃i ys H',bQ #[2] [] (qg cap σ) H' s'/\tn i s'.heap/\(∀b∈fp,H' b=none)/\H' s2.heap.objs.size=none /\
   (∃bJ k,cL s'.toks ys bJ/\s'.heap.get? s2.heap.objs.size=some { cls:=.type "list",data:=.seq bJ.toArray k })/\W i n ys H') ?_ m0
   ⟨0,[],H1,I4,T.keep _ _ _ cZ (fun b _ o e=>old b o e),fun b hb=>(f2 b hb).1,I2.fresh,⟨[],0,.nil,hacc⟩,w0⟩
  rintro n s3 ⟨i,ys,H3,I3,lZ,fr3,na3,⟨bJ,ka,rv,ea⟩,w3⟩
  show wpAny _ X.A ((compTurn #[10] 0 (.ref it) (.ref s2.heap.objs.size) (compEnvC scope (cellsFrom (G2.objs.size+1) scope.names []++cl) G2.objs.size X.env)).onRaise (fun x=>do noteFrame x (compEnvC scope (cellsFrom (G2.objs.size+1) scope.names []++cl) G2.objs.size X.env);theTreesLotGoes x)) _ _ s3
  refine wpAny_noted ?_
  rw[compTurn_list]
  refine af (qu ?_)
  have I3p:=hsz0 I3 na3 ea (fun v z=>by cases z)
  rcases turn i n ys H3 w3 with⟨stop,hz,qn⟩|⟨go,step⟩
  ·refine af (sQ (T.done #[2] rfl rfl rfl hcalmB i _ s3 _ H3 (fun _ _=>False) I3p (hfpB fr3) lZ stop) (fun r s4 kt4 hr=>?_))
   obtain⟨hr,I4'⟩:=hr
   subst hr
   refine ay ?_
   obtain⟨m4,hn4,_⟩:=id I4'.loc
   have pa:=I4'.pin (s2.heap.objs.size,{ cls:=.type "list",data:=.seq bJ.toArray ka }) #[15]
   have ne:∀b o,s2.heap.get? b=some o->b≠s2.heap.objs.size/\b≠G2.objs.size:=fun b o e=>⟨bf (aJ e),bf (by rw[hC];exact cU (aJ e))⟩
   have I5:bQ X ak σ (f_ H3 s2.heap.objs.size (.lst ys)) s4:=by
    refine I2.call' (ch:=fp) I4'.os ⟨fun b o e n hb hx=>?_,fun b o e n hb hx=>?_,fun b o e n hx=>?_,fun b o e hx=>?_,fun b xs e=>?_,fun b o u e=>?_,fun b ps e=>?_⟩ ?_ I4'.bare (fun b hb=>?_) I4'.tk
    ·exact I4'.base.keep b o e n hb hx
    ·exact I4'.base.slot b o e n hb hx
    ·rw[df (ne b o e).1];exact I4'.base.free b o e n hx
    ·exact I4'.base.there b o e hx
    ·have q:=I4'.base.tups b xs e
     rw[df (fz q na3)];exact q
    ·have q:=I4'.base.frzs b o u e
     rw[df (fz q na3)];exact q
    ·obtain⟨mr,q⟩:=I4'.base.tbls b ps e
     exact⟨mr,by rw[df (fz q na3)];exact q⟩
    ·intro b o e
     by_cases hb:b=s2.heap.objs.size
     ·subst hb
      rw[gN]at e;cases e
      exact⟨hz,bJ,ka,rv.up kt4,pa.1⟩
     ·rw[df hb]at e
      exact(I4'.hok b o e).stay (fun c u hc q=>q) (fun c q=>by rw[df (fz q na3)];exact q) fun c xs q=>by rw[df (fz q na3)];exact q
    ·obtain⟨_,g1,_,g3,g4,g5⟩:=f2 b hb
     exact⟨g3,g1,g4,g5⟩
   have lC:s2.heap.objs.size<=G2.objs.size:=by rw[hC];exact bt _
   exact kL s4 G2.objs.size _ m4 _ I5 ⟨hn4,by rw[df (Ne.symm hDC)];exact I4'.free,et (aP I2.lt lC),I2.nofs lC,aN I2.sz lC,fun x c hx z=>(by
    obtain⟨v,o,ho,_⟩:=I2.cell x c hx
    exact absurd (aJ ho) (by rw[z];exact i_.mpr lC)),fun p hp z=>(by
    have:=(I2.pin p hp).1
    exact absurd (aJ this) (by rw[z];exact i_.mpr lC))⟩ (qn _ na3)
  ·refine af (sQ (T.item #[2] rfl rfl rfl hcalmB i _ s3 _ H3 (fun _ _=>False) I3p (hfpB fr3) lZ go) (fun r s4 kt4 hr=>?_))
   obtain⟨u,hr,h4⟩:=hr
   subst hr
   dsimp only
   refine af (sQ h4 (fun _ s5 kt5 h5=>?_))
   obtain⟨x,H5,I5,r5,y5,st5,fr5⟩:=h5
   have I5':=I5.pinned (hfpB fr5) (T.obj _ _ st5)
   refine af (sQ (hg _ _ _ _ _ _ s5 _ H5 x u _ I5' r5 (step x H5 y5)) (fun _ s6 kt6 h6=>?_))
   obtain⟨σ6,H6,I6,q6⟩:=h6
   refine af (sQ (ht _ _ _ _ _ _ s6 σ6 H6 _ I6 q6) (fun ok s7 kt7 h7=>?_))
   obtain⟨H7,I7,q7⟩:=h7
   have back:∀{H8:Hp} {s8:Shared} {P6:List V} {its':List Value} {k':Nat},bQ #[2] [] σ6 H8 s8->(∀b∈fp,∀o,s5.heap.get? b=some o->s8.heap.get? b=some o)->(∀b∈fp,H8 b=none)->H8 s2.heap.objs.size=none ->
     cL s8.toks P6 its'->s8.heap.get? s2.heap.objs.size=some { cls:=.type "list",data:=.seq its'.toArray k' }->(∃m',m'<n/\W (i+1) m' P6 H8) ->
     ∃m,m<n/\∃i ys H',bQ #[2] [] (qg cap σ) H' s8/\tn i s8.heap/\(∀b∈fp,H' b=none)/\H' s2.heap.objs.size=none /\
      (∃bJ k,cL s8.toks ys bJ/\s8.heap.get? s2.heap.objs.size=some { cls:=.type "list",data:=.seq bJ.toArray k })/\W i m ys H':=
    fun{H8 s8 P6 its' k'} I8 kf f8 n8 rv8 e8 ⟨m',hm,w8⟩=>⟨m',hm,i+1,P6,H8,Ga uS fY I2 hfpc I8,T.keep _ _ _ st5 kf,f8,n8,⟨its',k',rv8,e8⟩,w8⟩
   cases ok with
   |false=>
    refine ay ⟨rfl,?_⟩
    have q7':∃m',m'<n/\W (i+1) m' ys H7:=by simpa using q7
    have pa:=I7.pin (s2.heap.objs.size,{ cls:=.type "list",data:=.seq bJ.toArray ka }) #[15]
    refine back (I7.pins_of fun p hp=>absurd hp #[15]) (fun b hb o e=>?_) (fun b hb=>?_) pa.2.1 (rv.up #[0]) pa.1 q7'
    ·exact(I7.pin (b,o) (aR _ (aR _ (jL hb e)))).1
    ·obtain⟨o,e,d⟩:=T.obj _ _ st5 b hb
     exact(I7.pin (b,o) (aR _ (aR _ (jL hb e)))).2.1
   |true=>
    rw[aF rfl]at q7
    refine af (af (sQ (he _ _ _ _ _ _ s7 σ6 H7 _ I7 q7) (fun xv s8 kt8 h8=>?_)))
    obtain⟨y,H8,I8,r8,hzy,q8⟩:=h8
    have pa:=I8.pin (s2.heap.objs.size,{ cls:=.type "list",data:=.seq bJ.toArray ka }) #[15]
    refine af (up (yJ pa.1 (by rw[<- rv.length];exact hzy) fun h' k' tk e9 sb hk=>?_))
    refine ay (ay ⟨rfl,?_⟩)
    have I9:bQ #[2] [] σ6 H8 { s8 with heap:=h',toks:=tk }:=
     (bQ.pins_of (pins':=[]) I8 fun p hp=>absurd hp #[15]).turned (it:=s2.heap.objs.size) (fun b o hb e=>sb b o hb e) pa.2.1 hDC (.inr (az _)) (fun x c hx z=>by
      rcases both x c hx with q|q
      ·exact i_.mpr (ownhi x c q).2 (by rw[z];omega)
      ·exact dL _ (by have:=cllow x c q;rw[z]at this;exact this)) (fun p hp=>absurd hp #[15])
    refine back I9 (fun b hb o e=>?_) (fun b hb=>?_) pa.2.1 ((rv.up #[0]).append (.cons (r8.up hk) .nil)) e9 q8
    ·exact sb b o (bf (hfpn b hb)) (I8.pin (b,o) (aR _ (aR _ (jL hb e)))).1
    ·obtain⟨o,e,d⟩:=T.obj _ _ st5 b hb
     exact(I8.pin (b,o) (aR _ (aR _ (jL hb e)))).2.1
 exact codeAny_compStart_list (loop _ rfl) (T.self _ _ _ _ _ (T.keep _ _ _ cZ fun b _ o e=>old b o e) (loop _ rfl))
theorem q9:∀(names:List (Str×NameKind)) (n:Nat),(∀y∈names,y.2≠.cell)->cellsFrom n names []=[]
 |[],_,_=>rfl
 |(x,k)::r,n,h=>by
  show(if k==.cell then cellsFrom (n+1) r [(x,n)]else cellsFrom n r [])=[]
  rw[aO (by have:=h (x,k) #[15];simpa using this)]
  exact q9 r n fun y hy=>h y (by simp[hy])
theorem xF{Qk:VK}(jI:X.calm=true)(wL:closureFor scope X.env=pure cl)(BO:∀x c,cl.lookup x=some c->X.env.cells.lookup x=some c)
  (jH:scope.kind=.function) (qU:∀x∈scope.names,x.2=.local->scope.names.lookup x.1=some .local) (hU:∀y∈scope.names,y.2≠.cell)
  (Di:∀x,#[12]->∃c,cl.lookup x=some c)
  (uS:∀(i j:Nat),cap[i]?=some (some j)->∃x,nm[i]?=some x/\X.N[j]?=some x/\vf X scope cl x) (fY:cap.length=nm.length)
  (hi:PI X tg ef wi) (hg:∀C s0 H0 fp,PG #[9] tg g) (ht:∀C s0 H0 fp,F' #[9] mU tc)
  (he:∀C s0 H0 fp,PE #[9] qX te) (hs:∀x,foldedSetIterable ef X.env x=pure x)
  (I:bQ X ak σ H s) (h:ve cap wi g tc te σ H Qk) (kL:∀(s4:Shared) (C D:Addr) (m4:Str->Option Value) (Hn:Hp),bQ X ak σ Hn s4->Aj X ak Hn s4 C m4->Qk (.ref D) Hn->compPost #[3] X.A X.xe use Qv (.ref D) C (.ok .next) s4) :
  wpAny #[3] X.A (comprehension #[10] scope X.env (firstIterPos [⟨tg,ef,mU,0⟩] pos) (newList []) (firstAsync [⟨tg,ef,mU,0⟩]) (firstIter [⟨tg,ef,mU,0⟩] X.env) use) Qv X.xe s:=by
 have nc:∀k,cellsFrom k scope.names []++cl=cl:=fun k=>by rw[q9 _ _ hU];rfl
 have nx:∀C s0 H0 fp,e_ X nm scope cl C s0 H0 fp=dZ X nm scope cl C s0 H0 fp:=fun C s0 H0 fp=>by
  have:(fun y=>scope.names.lookup y==some .cell)=fun _=>false:=funext fun y=>by
   rw[bz]
   exact fun e=>hU _ (ja e) rfl
  unfold e_ dZ
  rw[this]
 exact Cd jI wL BO jH qU (fun y hy h=>absurd h (hU y hy)) (fun x _ h=>Di x h) (fun i j h=>let ⟨x,a,b,d⟩:=uS i j h;⟨x,a,b,d,fun z=>hU _ z rfl⟩) fY hi
  (fun k C s0 H0 fp=>by rw[nc,nx];exact hg C s0 H0 fp) (fun k C s0 H0 fp=>by rw[nc,nx];exact ht C s0 H0 fp) (fun k C s0 H0 fp=>by rw[nc,nx];exact he C s0 H0 fp) hs I h kL
theorem J8(jI:X.calm=true)(wL:closureFor scope X.env=pure cl)(BO:∀x c,cl.lookup x=some c->X.env.cells.lookup x=some c)
  (jH:scope.kind=.function) (qU:∀x∈scope.names,x.2=.local->scope.names.lookup x.1=some .local) (hU:∀y∈scope.names,y.2≠.cell)
  (Di:∀x,#[12]->∃c,cl.lookup x=some c)
  (uS:∀(i j:Nat),cap[i]?=some (some j)->∃x,nm[i]?=some x/\X.N[j]?=some x/\vf X scope cl x) (fY:cap.length=nm.length)
  (hi:PI X tg ef wi) (hg:∀C s0 H0 fp,PG #[9] tg g) (ht:∀C s0 H0 fp,F' #[9] mU tc)
  (he:∀C s0 H0 fp,PE #[9] qX te) (hs:∀x,foldedSetIterable ef X.env x=pure x:=by intro _;rfl) :
  PE X #[10] (ve cap wi g tc te):=by
 intro ak s σ H Q I h
 rw[eval_ListComp]
 exact xF jI wL BO jH qU hU Di uS fY hi hg ht he hs I h fun s4 C D m4 Hn I4 B q=>⟨m4,B.ns,fun h' hs'=>⟨.ref D,Hn,B.off I4 hs',rfl,q⟩⟩
end
end L2
namespace L2
open PySem PySem.Spec PyProof.Rows
def tx(l:List Nat):Str:=⟨l.toArray⟩
theorem Nv(l:List Nat):(tx l).cps.toList=l:=rfl
theorem QO(z:Str):tx z.cps.toList=z:=by cases z;rfl
theorem i6(l:List Nat):(tx l).length=l.length:=by show l.toArray.size=_;simp
theorem Ce(a b:List Nat):tx a++tx b=tx (a++b):=by
 show(⟨a.toArray++b.toArray⟩:Str)=⟨(a++b).toArray⟩
 simp
theorem yK{a b:List Nat}:tx a=tx b↔a=b:=⟨fun h=>by have:=ic (fun z:Str=>z.cps.toList) h;exact this,fun h=>by rw[h]⟩
def T'(uQ:List V):It:=⟨fun i _=>i<uQ.length,fun i H x H'=>H'=H/\uQ[i]?=some x,fun i _=>uQ.length<=i⟩
section
def jm(l:List Nat):List V:=l.map fun c=>.str (tx [c])
def Ua(tl:TE):TI:=fun σ H R=>tl σ H fun x H1=>∃l,x=.str (tx l)/\R (T' (jm l)) H1
theorem vg{w:World}{K:Frag}{tg:Expr}{l:List Nat}{t:Tok}{ty:String}(Dc:["enumerate","zip","dict_itemiterator","dict_reverseitemiterator","odict_iterator","itertools.zip_longest","itertools.pairwise"].contains ty=false)
  (next:∀{A:Around} {s:Shared} {i c:Nat} {Q:Option Value->Shared->Prop} {E:Value->Shared->Prop},s.heap.IsStrIter it ty (tx l) t i->(tx l).cps[i]?=some c ->
   (∀h',h'.IsStrIter it ty (tx l) t (i+1)->Heap.SameBut it s.heap h'->Q (some (.str ⟨#[c]⟩ s.toks)) { s with heap:=h',toks:=s.toks+1 })->wpAny (model P w) A (pyNext (.ref it)) Q E s)
  (stop:∀{A:Around} {s:Shared} {i:Nat} {Q:Option Value->Shared->Prop} {E:Value->Shared->Prop},A.handled=none->s.heap.IsStrIter it ty (tx l) t i->(tx l).cps[i]?=none ->
   (∀h',Heap.ExtBut it s.heap h'->Q none { s with heap:=h' })->wpAny (model P w) A (pyNext (.ref it)) Q E s)
  (SR:∀(A:Around) (i:Nat) (s:Shared) (Q:Value->Shared->Prop) (E:Value->Shared->Prop),s.heap.IsStrIter it ty (tx l) t i->Q (.ref it) s->wpAny (model P w) A (pyIter (.ref it)) Q E s) :
  BV P w K tg (T' (jm l)) [it] it (fun i h=>h.IsStrIter it ty (tx l) t i) where
 mem:=by simp
 obj:=fun i h st b hb=>by
  have e:b=it:=by simpa using hb
  subst e
  obtain⟨o,e,_,d⟩:=st
  exact⟨o,e,fun v z=>by rw[d]at z;cases z⟩
 keep:=fun i h h' st k=>by
  obtain⟨o,e,r⟩:=st
  exact⟨o,k it #[15] o e,r⟩
 item:=by
  intro X hP hw hK hc i ak s σ H E I hf st hg
  subst hP hw hK
  obtain⟨f0,f1,f2,f3,f4,f5⟩:=hf it #[15]
  have hg:i<l.length:=by have hg:i<(jm l).length:=hg;simpa[jm]using hg
  obtain⟨c,hx⟩:∃c,l[i]?=some c:=⟨_,aj hg⟩
  refine next st (c:=c) (by simpa[tx]using hx) fun h' bp hs=>?_
  have I1:bQ X ak σ H { s with heap:=h',toks:=s.toks+1 }:=I.turned (fun b o hb e=>hs.extBut b o hb e) f0 f1 f3 f4 f5
  obtain⟨o,e,cl,d⟩:=id bp
  exact⟨_,rfl,Dr (s:={ s with heap:=h',toks:=s.toks+1 }) e cl d Dc ⟨.str (tx [c]),H,I1,I.tkS,⟨rfl,by unfold jm;rw[aI,hx];rfl⟩,bp,fun b hb=>(hf b hb).1⟩⟩
 done:=by
  intro X hP hw hK hc i ak s σ H E I hf st hg
  subst hP hw hK
  obtain⟨f0,f1,f2,f3,f4,f5⟩:=hf it #[15]
  have hg:l.length<=i:=by have hg:(jm l).length<=i:=hg;simpa[jm]using hg
  exact stop (I.ok.hd hc) st (by simpa[tx]using hg) fun h' hs=>⟨rfl,I.turned (t':=s.toks) (fun b o hb e=>hs b o hb e) f0 f1 f3 f4 f5⟩
 self:=fun A i s Q E st h=>SR A i s Q E st h
theorem Nw{l:Expr}{tl:TE}(hl:PE X l tl):PI X tg l (Ua tl):=by
 intro ak s σ H R I h
 refine jC (hl ak s σ H _ I h) fun v s1 kt1 zq=>?_
 obtain⟨x,H1,I1,r1,q1⟩:=zq
 obtain⟨l,e,q⟩:=q1
 subst e
 obtain⟨t,rfl⟩:=r1
 have fp:∀b∈[s1.heap.objs.size],sL X ak H1 b:=fun b hb=>by
  have e:b=s1.heap.objs.size:=by simpa using hb
  subst e
  exact I1.fpOk (az _) (I1.hok.fresh (az _))
 cases ha:(tx l).cps.all (· < 128)
 ·exact l6 ha ⟨s1.heap.objs.size,[s1.heap.objs.size],_,_,H1,rfl,I1.kept (t':=s1.toks) fun b o e=>aw _ e,vg (l:=l) (t:=t.1) (ty:="str_iterator") #[13] (fun a b c=>jy a b c) (fun hh a b c=>wpAny_pyNext_wide_end hh a b c) (fun A i s Q E st h=>wpAny_pyIter_striter_wide st h),⟨_,aC _ rfl,rfl,rfl⟩,fp,q⟩
 ·exact lG ha ⟨s1.heap.objs.size,[s1.heap.objs.size],_,_,H1,rfl,I1.kept (t':=s1.toks) fun b o e=>aw _ e,vg (l:=l) (t:=t.1) (ty:="str_ascii_iterator") #[13] (fun a b c=>jg a b c) (fun hh a b c=>wpAny_pyNext_ascii_end hh a b c) (fun A i s Q E st h=>wpAny_pyIter_striter_ascii st h),⟨_,aC _ rfl,rfl,rfl⟩,fp,q⟩
def Cf(l:List Nat)(lo hi:Option Int):List Nat:=(l.drop (HT.sIx l.length 0 lo)).take (HT.sIx l.length l.length hi-HT.sIx l.length 0 lo)
theorem Ak(l:List Nat)(lo hi:Option Int):(Cf l lo hi).length<=l.length:=by unfold Cf;rw[aM,cz];omega
theorem Cg(l:List Nat)(i k:Nat):((List.range k).map fun(m:Nat)=>i+m).filterMap (fun j=>l[j]?)=(l.drop i).take k:=by
 induction k generalizing i with
 |zero=>simp
 |succ k ih=>
  rw[nz,a9,cf]
  have e:((fun m=>i+m)∘Nat.succ)=fun m=>(i+1)+m:=by funext m;simp[Function.comp];omega
  rw[e]
  by_cases h:i<l.length
  ·rw[gj]
   simp only[sB,aj h]
   rw[ih (i+1),fQ h,List.take_succ_cons]
  ·rw[gj]
   have h':l.length<=i:=by omega
   simp only[sB,cn h']
   rw[ih (i+1),nC h',nC #[0]]
   simp
theorem Ll(v:Int)(n d:Nat):(if (1:Int)>0 then max 0 (min (if v<0 then v+(n:Int)else v) (n:Int))else max (-1) (min (if v<0 then v+(n:Int)else v) ((n:Int)-1)))=((HT.sIx n d (some v):Nat):Int):=by
 rw[aF #[0]]
 show _=(((if v<0 then(v+(n:Int)).toNat else min v.toNat n):Nat):Int)
 by_cases hv:v<0
 ·simp only[aF hv];omega
 ·simp only[aO hv];omega
theorem Nx(lo hi:Option Int)(n:Nat):Builtin.Str.strSliceIndices lo hi 1 n=(List.range (HT.sIx n n hi-HT.sIx n 0 lo)).map fun(m:Nat)=>HT.sIx n 0 lo+m:=by
 have key:∀a b:Nat,sliceRange (a:Int) (b:Int) 1=(List.range (b-a)).map fun(m:Nat)=>a+m:=fun a b=>by
  unfold sliceRange
  have e:(if (1:Int)>0 then(if (a:Int)<(b:Int)then((b:Int)-a+1-1)/1 else 0)else(if (a:Int)>b then((a:Int)-b-1-1)/(-1)else 0)).toNat=b-a:=by
   rw[aF #[0]]
   by_cases h:(a:Int)<b
   ·rw[aF h];omega
   ·rw[aO h];omega
  dsimp only
  rw[e]
  refine eY fun k _=>?_
  omega
 unfold Builtin.Str.strSliceIndices
 rw[<- key]
 dsimp only
 congr 1
 ·cases lo with
  |none=>rfl
  |some v=>exact Ll v n 0
 ·cases hi with
  |none=>rfl
  |some v=>exact Ll v n n
theorem Gb(l:List Nat)(lo hi:Option Int):Txt.slice (tx l) lo hi=tx (Cf l lo hi):=by
 unfold Txt.slice
 rw[Nx,i6]
 split
 ·rename_i h
  simp only[beq_self_eq_true,Bool.true_and,c_,aD,List.length_range]at h
  unfold Cf
  have h1:=HT.sIx_le l.length l.length (az _) hi
  have h2:=HT.sIx_le l.length 0 (cx _) lo
  by_cases hz:l.length=0
  ·have:l=[]:=gC hz
   subst this;simp
  ·have e0:HT.sIx l.length 0 lo=0:=by omega
   rw[e0,List.drop_zero,bB #[0]]
 ·unfold Cf tx
  have:∀j:Nat,(l.toArray)[j]?=l[j]?:=fun j=>by simp
  simp only[this]
  rw[Cg]
def Ub:V->Option Int->Option Int->Hp->VK->Prop:=fun x lo hi H Q=>∃l,x=.str (tx l)/\l.length<=sizeLine/\Q (.str (tx (Cf l lo hi))) H
theorem Dy{o:Option Int}(p:IsPart v o):∃q:Option (Int×Tok),v=partValue q/\q.map (·.1)=o:=by
 cases p with
 |none=>exact⟨none,rfl,rfl⟩
 |int i t=>exact⟨some (i,t),rfl,rfl⟩
theorem Ny:QB X Ub:=by
 intro ak s σ H x v vl vu lo hi sl Q I rx hs pl pu h
 obtain⟨l,e,hz,q⟩:=h
 subst e
 obtain⟨t,rfl⟩:=rx
 obtain⟨pl',rfl,rfl⟩:=Dy pl
 obtain⟨pu',rfl,rfl⟩:=Dy pu
 refine⟨"str",_,F.slot_str_getitem.lookup,lF _ _ _,?_⟩
 refine wpAny_getItem_str_slice (l:=pl') (u:=pu') (st:=none) hs rfl ?_
 have e:=Gb l (pl'.map (·.1)) (pu'.map (·.1))
 unfold Txt.slice at e
 have hl:(tx (Cf l (pl'.map (·.1)) (pu'.map (·.1)))).length<=sizeLine:=by rw[i6];exact aN (Ak l _ _) hz
 show(if ((1:Int)==1&&(Builtin.Str.strSliceIndices (pl'.map (·.1)) (pu'.map (·.1)) 1 (tx l).length).length==(tx l).length)=true then Made.val (.str (tx l) t.1)else Made.str ⟨((Builtin.Str.strSliceIndices (pl'.map (·.1)) (pu'.map (·.1)) 1 (tx l).length).filterMap ((tx l).cps[·]?)).toArray⟩).post (EP X ak σ Q) s
 split
 ·rename_i hc
  rw[aF hc]at e
  rw[<- e]at q
  exact⟨.str (tx l),H,I,⟨t,rfl⟩,q⟩
 ·rename_i hc
  rw[aO hc]at e
  rw[e]
  exact⟨hl,⟨.str _,H,I.tok _,I.tkS,q⟩⟩
theorem Nz(c:Nat)(l:List Nat):(!(Builtin.Str.occurrences (tx l) (tx [c]) 0 (tx l).length 1).isEmpty)=decide (c∈l):=StrLaws.found_one (tx l) c
def Uc(Sx:Bool):R2:=fun x y H Q=>∃c l,x=.str (tx [c])/\y=.str (tx l)/\Q (.bl (if Sx then !decide (c∈l)else decide (c∈l))) H
theorem EG:oy X (compareOp .In) (Uc false):=by
 intro ak s σ H x y v u Q I rx ry h
 obtain⟨c,l,rfl,rfl,q⟩:=h
 exact Es ak s σ H _ _ v u Q I rx ry ⟨_,_,rfl,rfl,by rw[Nz];exact q⟩
theorem vh:∀{ys:List (List Nat)} {bJ:List Value},cL nk (ys.map fun l=>V.str (tx l)) bJ->StrsAre bJ (ys.map tx)
 |[],_,r=>by cases r;exact .nil
 |y::ys,_,r=>by
  cases r with
  |cons r rr=>
   obtain⟨t,rfl⟩:=r
   exact .cons _ _ (vh rr)
def iM(n:Nat)(bJ:List Value):Prop:=∀(x:Str) (t:Tok),Value.str x t∈bJ->x.length=1->0<t/\t<n
theorem mV:∀{bJ:List Value} {ss:List Str},StrsAre bJ ss->iM nk bJ->cL nk (ss.map fun z=>V.str z) bJ
 |_,_,.nil,_=>.nil
 |_,_,.cons y t r,h=>.cons ⟨⟨t,h y t bC⟩,rfl⟩ (mV r fun x u hx=>h x u (aS _ hx))
theorem q_:∀{vs:List V} {bJ:List Value},cL nk vs bJ->iM nk bJ
 |_,_,.nil=>fun _ _ h=>nomatch h
 |v::_,_,.cons r t=>fun x u hx=>by
  rcases aT.mp hx with e|hx
  ·subst e
   cases v with
   |str y=>obtain⟨tk,e⟩:=r;cases e;exact tk.2
   |non=>cases r
   |bl b=>cases r
   |int i=>obtain⟨_,e⟩:=r;cases e
   |byt b=>obtain⟨_,e⟩:=r;cases e
   |flt b=>obtain⟨_,e⟩:=r;cases e
   |ref a=>cases r
   |ty n=>cases r
  ·exact q_ t x u hx
theorem Dz:∀{ys:List (List Nat)} {bJ:List Value},cL nk (ys.map fun l=>V.str (tx l)) bJ->∃zs:List (Str×Tok),bJ=strValues zs/\zs.map (·.1)=ys.map tx
 |[],_,r=>by cases r;exact⟨[],rfl,rfl⟩
 |y::ys,_,r=>by
  cases r with
  |cons r rr=>
   obtain⟨t,rfl⟩:=r
   obtain⟨zs,rfl,e⟩:=Dz rr
   exact⟨(tx y,t.1)::zs,rfl,by rw[a9,a9,e]⟩
def kZ(sep:List Nat):List (List Nat)->List Nat
 |[]=>[]
 |[x]=>x
 |x::y::r=>x++sep++kZ sep (y::r)
theorem mD:∀ys:List (List Nat),kZ [] ys=ys.flatten
 |[]=>rfl
 |[x]=>by simp[kZ]
 |x::y::r=>by rw[kZ,mD (y::r)];simp
theorem DA(sep:List Nat):∀ys:List (List Nat),Txt.join (tx sep) (ys.map tx)=tx (kZ sep ys):=fun ys=>by
 show Builtin.Str.glued (tx sep) (ys.map tx)=_
 rw[g9]
 induction ys with
 |nil=>rfl
 |cons x r ih=>
  cases r with
  |nil=>rfl
  |cons y r=>
   show tx x++tx sep++Str.join (tx sep) ((y::r).map tx)=tx (x++sep++kZ sep (y::r))
   rw[ih,Ce,Ce]
def QP(K:Frag):V->List V->Hp->VK->Prop:=fun x vs H Q=>∃(sep:List Nat) (a:Addr) (ys:List (List Nat)),x=.str (tx sep)/\vs=[.ref a]/\sK K H a (ys.map fun l=>V.str (tx l))/\(ys.map List.length).sum+ys.length*sep.length<=16777216/\Q (.str (tx (kZ sep ys))) H
theorem bQ.joinS{Q:VK}{sep:Str}{zs:List (Str×Tok)}(I:bQ X ak σ H s)(hl:(Builtin.Str.glued sep (zs.map (·.1))).length<=sizeLine)(hk:iM s.toks (strValues zs))(q:Q (.str (Txt.join sep (zs.map (·.1)))) H):(joinMade sep zs).post (EP X ak σ Q) s:=by
 have kL:(Made.str (Builtin.Str.glued sep (zs.map (·.1)))).post (EP X ak σ Q) s:=⟨hl,⟨.str _,H,I.tok _,I.tkS,q⟩⟩
 cases zs with
 |nil=>exact kL
 |cons p r=>
  cases r with
  |nil=>
   have e:Txt.join sep [p.1]=p.1:=by
    show Builtin.Str.glued sep [p.1]=_
    rw[g9];rfl
   rw[show([p]:List (Str×Tok)).map (·.1)=[p.1]from rfl,e]at q
   exact⟨.str p.1,H,I,⟨⟨p.2,hk p.1 p.2 (by simp[strValues])⟩,rfl⟩,q⟩
  |cons _ _=>exact kL
theorem J9:EA X "str.join" (QP X.K):=by
 intro ak s σ H x vs v us Q I rx rv h
 obtain⟨sep,a,ys,rfl,rfl,hS,hz,q⟩:=h
 obtain⟨t,rfl⟩:=rx
 obtain⟨u,rfl,ru⟩:=rv.one
 cases ru
 obtain⟨bJ,r,p,_⟩:=I.list hS
 have hk:iM s.toks bJ:=q_ r
 obtain⟨zs,rfl,ez⟩:=Dz (by simpa using r)
 have hok:JoinOk (tx sep) (zs.map (·.1))=true:=joinOk_of (by
  rw[ez,cf,i6,aD]
  have e:((fun z:Str=>z.length)∘tx)=List.length:=by funext l;exact i6 l
  rw[e];exact hz)
 have hj:=hok
 unfold JoinOk at hj
 rw[hX]at hj
 exact qZ F.slot_str_join (lF _ _ _) F.entry_str_join (F.args_str_join_2 _ _) (meets_str_join_list (tx sep) t.1 a zs hj) ⟨p.isList,I.joinS (joinFit_length hj) hk (by rw[ez,DA];exact q)⟩
end
end L2
namespace L2
open PySem PySem.Spec PyProof.Rows
inductive D where
 |non|bl (b:Bool)|int (i:Int)|str (l:List Nat)|tnil|tcons (d r:D)
 deriving DecidableEq
structure fw(K:Frag)(H H':Hp):Prop where
 t:∀p xs,gc K H p xs->gc K H' p xs
 z:∀b o u,H b=some (.frz o u)->H' b=some (.frz o u)
instance {K:Frag} {H H':Hp}:CoeFun (fw K H H') (fun _=>∀p xs,gc K H p xs->gc K H' p xs):=⟨fw.t⟩
theorem gc.same{K:Frag}(e:uz H H'):fw K H H':=⟨fun p xs h=>by
 rcases h with(h|⟨o,h⟩)|h
 ·exact .inl (.inl (e _ _ h))
 ·exact .inl (.inr ⟨o,e _ _ h⟩)
 ·exact .inr h,fun b o u h=>e _ _ h⟩
theorem dg{p:Addr}(h:H p=none)(o:HO):uz H (f_ H p o):=fun b u q=>by rw[df (fz q h)];exact q
def S_(l:Addr)(H H':Hp):Prop:=∀b o,b≠l->H b=some o->H' b=some o
theorem jn{l:Addr}{o:HO}:S_ l H (f_ H l o):=fun b u h q=>by rw[df h];exact q
theorem gc.but{l:Addr}(e:S_ l H H')(hl:H l=some (.lst xs)):fw K H H':=by
 have z9:∀{p:Addr} {o:HO},H p=some o->(∀zs,o≠.lst zs)->p≠l:=fun{p o} q hn z=>by subst z;rw[hl]at q;cases q;exact hn _ rfl
 refine⟨fun p ys h=>?_,fun b o u h=>e _ _ (z9 h (fun _ z=>by cases z)) h⟩
 rcases h with(h|⟨o,h⟩)|h
 ·exact .inl (.inl (e _ _ (z9 h (fun _ z=>by cases z)) h))
 ·exact .inl (.inr ⟨o,e _ _ (z9 h (fun _ z=>by cases z)) h⟩)
 ·exact .inr h
theorem fw.refl:fw K H H:=⟨fun _ _ h=>h,fun _ _ _ h=>h⟩
theorem fw.trans{H1 H2:Hp}(a:fw K H H1)(b:fw K H1 H2):fw K H H2:=⟨fun p xs h=>b p xs (a p xs h),fun c o u h=>b.z c o u (a.z c o u h)⟩
theorem gc.new{p:Addr}:gc K (f_ H p (.tup xs)) p xs:=gc.of gN
end L2
namespace L2
open PySem PySem.Spec PyProof.Rows
theorem QQ{x:Str}{v:V}{pos:Pos}(h:∃u,X.mg x=some u/\c8 0 v u)(hg:Gl X x:=by rfl)(hd:(x==("__debug__":Str))=false:=by decide):PE X (.Name x pos) (tC v):=by
 obtain⟨u,a,b⟩:=h
 exact JG hg a b hd
end L2
namespace L2
open PySem PySem.Spec PyProof.Rows
section
variable{to:TE}{t:TA}{id:String}{r:V->List V->Hp->VK->Prop}
def Vs(r:V->List V->Hp->VK->Prop)(to:TE)(t:TA):TE:=fun σ H Q=>to σ H fun x H1=>(∃l ys,x=.ref l/\H1 l=some (.lst ys))/\t σ H1 fun xs H2=>r x xs H2 Q
def Vt(r:V->List V->Hp->VK->Prop)(to:TE)(t:TA):TE:=fun σ H Q=>to σ H fun x H1=>(∃l,x=.str (tx l))/\t σ H1 fun xs H2=>r x xs H2 Q
def Ud(r:V->List V->Hp->VK->Prop)(to:TE):TE:=fun σ H Q=>to σ H fun x H1=>(∃l ys,x=.ref l/\H1 l=some (.lst ys))/\r x [] H1 Q
theorem Al{x:V}(h:∃l ys,x=.ref l/\H l=some (.lst ys)):S9 K "list" x H:=by
 obtain⟨l,ys,rfl,h⟩:=h
 exact .inl ⟨rfl,_,.of h⟩
theorem DB{x:V}(h:∃l,x=.str (tx l)):S9 K "str" x H:=by
 obtain⟨l,rfl⟩:=h
 exact rfl
theorem Gd{ty:V->Hp->Prop}(UP:∀x H,ty x H->S9 X.K T x H)(pa:PlainAttrs T)(slot:Slot T name id)(Dc:typeOf (.builtin id)=pure (.type "method_descriptor"))(hm:EA X id r)(ho:PE X o to)(ha:PA X (e::es) t)
  (j9:attributeBase o name X.env (eval o X.env)=eval o X.env)
  (qV:((backTo dH (starEach (e::es) X.env)).all (fun x=>!x.1)&&(backToKw dH (keywordEach [] X.env)).all (fun x=>x.1.isSome)
   && decide #[19])=true)
  (j_:(fH.endLine==dH.line)=true) (hs:starEach (e::es) X.env=(false,eval e X.env)::starEach es X.env) (nr:(backTo dH (starEach es X.env)).any (·.1)=false) :
  PE X (.Call (.Attribute o name fH) (e::es) [] dH) (fun σ H Q=>to σ H fun x H1=>ty x H1/\t σ H1 fun xs H2=>r x xs H2 Q):=by
 intro ak s σ H Q I h
 refine nD j9 qV j_ rfl (jC (ho ak s σ H _ I h) fun v s1 kt1 zq=>?_)
 obtain⟨x,H1,I1,r1,ty,q1⟩:=zq
 obtain⟨h1,h2⟩:=Ca I1 r1 (UP _ _ ty)
 refine⟨T,id,pa,slot,Dc,h1,h2,?_⟩
 have hA:=ha dH ak s1 σ H1 _ I1 q1
 rw[hs]at hA ⊢
 refine gK (by show(false||(backTo dH (starEach es X.env)).any (·.1))=false;rw[nr]<;>rfl) (ie ?_)
 exact jC hA fun us s2 kt2 ⟨vs,H2,I2,r2,q2⟩=>hm ak s2 σ H2 x vs v us Q I2 (r1.up kt2) r2 q2
theorem QR(slot:Slot "list" name id)(Dc:typeOf (.builtin id)=pure (.type "method_descriptor"))(hm:EA X id r)(ho:PE X o to)(ha:PA X (e::es) t)
  (j9:attributeBase o name X.env (eval o X.env)=eval o X.env:=by rfl)
  (qV:((backTo dH (starEach (e::es) X.env)).all (fun x=>!x.1)&&(backToKw dH (keywordEach [] X.env)).all (fun x=>x.1.isSome)
   && decide #[19])=true:=by rfl)
  (j_:(fH.endLine==dH.line)=true:=by rfl) (hs:starEach (e::es) X.env=(false,eval e X.env)::starEach es X.env:=by rfl) (nr:(backTo dH (starEach es X.env)).any (·.1)=false:=by rfl) :
  PE X (.Call (.Attribute o name fH) (e::es) [] dH) (Vs r to t):=Gd (ty:=fun x H1=>∃l ys,x=.ref l/\H1 l=some (.lst ys)) (fun _ _ h=>Al h) F.plainAttrs_list slot Dc hm ho ha j9 qV j_ hs nr
theorem QT(slot:Slot "str" name id)(Dc:typeOf (.builtin id)=pure (.type "method_descriptor"))(hm:EA X id r)(ho:PE X o to)(ha:PA X (e::es) t)
  (j9:attributeBase o name X.env (eval o X.env)=eval o X.env:=by rfl)
  (qV:((backTo dH (starEach (e::es) X.env)).all (fun x=>!x.1)&&(backToKw dH (keywordEach [] X.env)).all (fun x=>x.1.isSome)
   && decide #[19])=true:=by rfl)
  (j_:(fH.endLine==dH.line)=true:=by rfl) (hs:starEach (e::es) X.env=(false,eval e X.env)::starEach es X.env:=by rfl) (nr:(backTo dH (starEach es X.env)).any (·.1)=false:=by rfl) :
  PE X (.Call (.Attribute o name fH) (e::es) [] dH) (Vt r to t):=Gd (ty:=fun x H1=>∃l,x=.str (tx l)) (fun _ _ h=>DB h) F.plainAttrs_str slot Dc hm ho ha j9 qV j_ hs nr
theorem NA(slot:Slot "list" name id)(Dc:typeOf (.builtin id)=pure (.type "method_descriptor"))(hm:EA X id r)(ho:PE X o to)
  (j9:attributeBase o name X.env (eval o X.env)=eval o X.env:=by rfl) (j_:(fH.endLine==dH.line)=true:=by rfl):PE X (.Call (.Attribute o name fH) [] [] dH) (Ud r to):=by
 intro ak s σ H Q I h
 refine wpAny_Call_method0_late j9 j_ (jC (ho ak s σ H _ I h) fun v s1 kt1 zq=>?_)
 obtain⟨x,H1,I1,r1,ty,q1⟩:=zq
 obtain⟨h1,h2⟩:=Ca I1 r1 (Al ty)
 exact⟨"list",id,F.plainAttrs_list,slot,Dc,h1,h2,gK rfl (PySem.evalArgs_none (hm ak s1 σ H1 x [] v [] Q I1 r1 .nil q1))⟩
end
end L2
namespace L2
open PySem PySem.Spec PyProof.Rows
end L2
namespace L2
open PySem PySem.Spec PyProof.Rows
section
variable{t:TA}
def QU(t:TA):TE:=fun σ H Q=>t σ H fun xs H1=>xs.length<=sizeLine/\∀p H2,H1 p=none->H2=f_ H1 p (.tup xs)->Q (.ref p) H2
def QV(t:TA):TE:=fun σ H Q=>t σ H fun xs H1=>xs.length<=sizeLine/\∀p H2,H1 p=none->H2=f_ H1 p (.lst xs)->Q (.ref p) H2
theorem J_{x1}(h:PA X es t):PE X (.Tuple es x1 pos) (QU t):=by
 intro ak s σ H Q I hq
 refine wpAny_Tuple_spliced (jC (h pos ak s σ H _ I hq) fun us s1 kt1 ⟨xs,H1,I1,r,z,q⟩=>⟨by rw[<- r.length];exact z,?_⟩)
 have hf:H1 s1.heap.objs.size=none:=I1.hok.fresh (az _)
 refine⟨.ref s1.heap.objs.size,f_ H1 s1.heap.objs.size (.tup xs),I1.laid (t':=s1.toks) (fun b u e=>aw _ e) (az _) ?_,rfl,q _ _ hf rfl⟩
 exact⟨z,us,r,⟨_,aC _ rfl,rfl,_,rfl⟩⟩
theorem J'(h:PA X es t):PE X (.List es pos) (QV t):=by
 intro ak s σ H Q I hq
 refine wpAny_List_spliced (jC (h pos ak s σ H _ I hq) fun us s1 kt1 ⟨xs,H1,I1,r,z,q⟩=>⟨by rw[<- r.length];exact z,?_⟩)
 have hf:H1 s1.heap.objs.size=none:=I1.hok.fresh (az _)
 refine⟨.ref s1.heap.objs.size,f_ H1 s1.heap.objs.size (.lst xs),I1.laid (t':=s1.toks) (fun b u e=>aw _ e) (az _) ?_,rfl,q _ _ hf rfl⟩
 exact⟨z,us,0,r,aC _ rfl⟩
theorem EA.imp{id:String}{r r':V->List V->Hp->VK->Prop}(h:EA X id r)(i:∀x xs H Q,r' x xs H Q->r x xs H Q):EA X id r':=fun ak s σ H x xs v us Q I rx rv q=>h ak s σ H x xs v us Q I rx rv (i _ _ _ _ q)
theorem i'.imp{f:Value}{r r':List V->Hp->VK->Prop}(h:i' X f r)(i:∀xs H Q,r' xs H Q->r xs H Q):i' X f r':=fun ak s σ H xs us Q I rv q=>h ak s σ H xs us Q I rv (i _ _ _ q)
theorem oy.imp{f:Value->Value->Sem Value}{r r':R2}(h:oy X f r)(i:∀x y H Q,r' x y H Q->r x y H Q):oy X f r':=fun ak s σ H x y v u Q I rx ry q=>h ak s σ H x y v u Q I rx ry (i _ _ _ _ q)
def Ge:V->List V->Hp->VK->Prop:=fun x vs H Q=>∃l xs y,x=.ref l/\vs=[y]/\H l=some (.lst xs)/\xs.length<sizeLine/\∀H2,H2=f_ H l (.lst (xs++[y]))->Q .non H2
theorem Ch:EA X "list.append" Ge:=EA.imp (r:=Dw) EB fun _ _ _ _ ⟨l,xs,y,a,b,c,d,q⟩=>⟨l,xs,y,a,b,c,d,q _ rfl⟩
def QW:V->List V->Hp->VK->Prop:=fun x vs H Q=>∃l xs y,x=.ref l/\vs=[]/\H l=some (.lst (xs++[y]))/\∀H2,H2=f_ H l (.lst xs)->Q y H2
theorem Ka:EA X "list.pop" QW:=EA.imp (r:=QL) No fun _ _ _ _ ⟨l,xs,y,a,b,c,q⟩=>⟨l,xs++[y],y,a,b,c,by simp,by rw[List.dropLast_concat];exact q _ rfl⟩
def NB:V->V->V->Hp->(Hp->Prop)->Prop:=fun o i v H Q=>∃p xs k j,o=.ref p/\i=.int k/\H p=some (.lst xs)/\Dt xs.length k=some j/\∀H2,H2=f_ H p (.lst (xs.set j v))->Q H2
theorem EH:En X NB:=fun ak s σ H o i v ov iv u Q I r1 r2 r3 q=>by
 obtain⟨p,xs,k,j,a,b,c,d,q⟩:=q
 exact F3 ak s σ H o i v ov iv u Q I r1 r2 r3 ⟨p,xs,k,j,a,b,c,d,q _ rfl⟩
def Gf(K:Frag):List V->Hp->VK->Prop:=fun xs H Q=>∃p ys,xs=[.ref p]/\sK K H p ys/\∀l H2,H l=none->H2=f_ H l (.tup ys)->Q (.ref l) H2
theorem Am:i' X (.type "tuple") (Gf X.K):=i'.imp wR fun _ _ _ ⟨p,ys,a,b,q⟩=>⟨p,ys,a,.inl ⟨b,fun l hl=>q l _ hl rfl⟩⟩
def Kb(K:Frag):List V->Hp->VK->Prop:=fun xs H Q=>∃p ys,xs=[.ref p]/\(sK K H p ys\/gc K H p ys)/\∀l H2,H l=none->H2=f_ H l (.lst ys)->Q (.ref l) H2
theorem vi:i' X (.type "list") (Kb X.K):=i'.imp yG fun _ _ _ ⟨p,ys,a,b,q⟩=>⟨p,ys,a,b,fun l hl=>q l _ hl rfl⟩
def QX:R2:=fun x y H Q=>∃l b xs zs,x=.ref l/\y=.ref b/\H l=some (.lst xs)/\H b=some (.lst zs)/\xs.length+zs.length<=sizeLine/\∀p H2,H p=none->H2=f_ H p (.lst (xs++zs))->Q (.ref p) H2
theorem Kc:oy X (binaryOp .Add) QX:=oy.imp Np fun _ _ _ _ ⟨l,b,xs,zs,h1,h2,h3,h4,h5,q⟩=>⟨l,b,xs,zs,h1,h2,h3,h4,h5,fun p hp=>q p _ hp rfl⟩
end
end L2
namespace L2
open PySem PySem.Spec PyProof.Rows
end L2
namespace L2
open PySem PySem.Spec PyProof.Rows
def Gh(T:String):Prop:=T="tuple"\/T="bool"\/T="int"\/T="str"
end L2
namespace L2
end L2
namespace L2
open PySem PySem.Spec PyProof.Rows
end L2
namespace L2
open PySem PySem.Spec PyProof.Rows
structure QE(X:Cx)(e:Expr)(t:TE):Prop where
 h:PE X e t
structure QA(X:Cx)(es:List Expr)(t:TA):Prop where
 h:PA X es t
structure QS(X:Cx)(s:Stmt)(t:TS):Prop where
 h:PS X s t
structure QG(X:Cx)(e:Expr)(t:TG):Prop where
 h:PG X e t
structure QI(X:Cx)(tg it:Expr)(t:TI):Prop where
 h:PI X tg it t
structure Ue(X:Cx)(es:List Expr)(t:TT):Prop where
 h:F' X es t
structure U1(X:Cx)(f:Value->Value->Sem Value)(r:R2):Prop where
 h:oy X f r
structure Lm(X:Cx)(f:Value)(r:List V->Hp->VK->Prop):Prop where
 h:i' X f r
section
variable{a b:Expr}{ta tb tc to:TE}{t u:TA}{x:Str}{tA UI:TT}{iF:List Expr}
theorem Gi:U1 X (binaryOp .LShift) (rI M7 fun i j=>.int (i*2^j.toNat)):=⟨FV⟩
variable{st:Stmt}{sr:List Stmt}{ts us:TS}{g:TG}
end
section
variable{body:List Stmt}{wi:TI}{g:TG}{tb:TS}{tA:TT}
end
end L2
namespace L2
open PySem PySem.Spec PyProof.Rows
end L2
namespace L2
open PySem PySem.Spec PyProof.Rows
end L2
namespace L2
open PySem PySem.Spec PyProof.Rows
def jo(env:Env):List (Str×NameKind)->List (Str×Addr)->List (Str×Addr)
 |[],cs=>cs
 |(n,k)::r,cs=>jo env r (if k==.free then(n,(env.cells.lookup n).getD 0)::cs else cs)
theorem QY(h:∀x∈scope.names,x.2=.free->∃c,env.cells.lookup x.1=some c):closureFor scope env=pure (jo env scope.names []):=by
 unfold closureFor
 have key:∀(ns:List (Str×NameKind)) (cs:List (Str×Addr)),(∀x∈ns,x.2=.free->∃c,env.cells.lookup x.1=some c) ->
   (forIn ns cs fun(x:Str×NameKind) (r:List (Str×Addr))=>if (x.2==NameKind.free)=true then(do let a <- cellOf env x.1;pure (ForInStep.yield ((x.1,a)::r)))else(pure (ForInStep.yield r):Sem _))=pure (jo env ns cs):=by
  intro ns
  induction ns with
  |nil=>intro cs _;rfl
  |cons y r ih=>
   intro cs hc
   obtain⟨n,k⟩:=y
   rw[kE]
   have ihr:=fun cs=>ih cs fun x hx=>hc x (aS _ hx)
   by_cases hk:(k==NameKind.free)=true
   ·obtain⟨c,e⟩:=hc (n,k) bC (mQ hk)
    have e2:cellOf env n=pure c:=by unfold cellOf;rw[e]
    show((if (k==NameKind.free)=true then _ else _) >>= _)=pure (jo env r (if (k==NameKind.free)=true then _ else _))
    rw[aF hk,aF hk,e2]
    simp only[pure_bind]
    have e3:(env.cells.lookup n).getD 0=c:=by rw[show env.cells.lookup n=some c from e];rfl
    rw[e3]
    exact ihr _
   ·show((if (k==NameKind.free)=true then _ else _) >>= _)=pure (jo env r (if (k==NameKind.free)=true then _ else _))
    rw[aO hk,aO hk]
    simp only[pure_bind]
    exact ihr _
 have:=key scope.names [] h
 dsimp only
 rw[this];simp only[pure_bind]
theorem xG:∀(ns:List (Str×NameKind)) (cs:List (Str×Addr)),(∀x∈ns,x.2=.free->∃c,env.cells.lookup x.1=some c)->(∀y∈cs,env.cells.lookup y.1=some y.2)->∀y∈jo env ns cs,env.cells.lookup y.1=some y.2
 |[],cs,_,h=>h
 |(n,k)::r,cs,hf,h=>by
  refine xG r _ (fun x hx=>hf x (aS _ hx)) ?_
  by_cases hk:(k==NameKind.free)=true
  ·rw[aF hk]
   intro y hy
   rcases aT.mp hy with rfl|hy
   ·obtain⟨c,e⟩:=hf (n,k) bC (mQ hk)
    show env.cells.lookup n=some ((env.cells.lookup n).getD 0)
    rw[show env.cells.lookup n=some c from e];rfl
   ·exact h y hy
  ·rw[aO hk];exact h
theorem vj:∀(ns:List (Str×NameKind)) (cs:List (Str×Addr)) (y:Str×Addr),y∈cs->y∈jo env ns cs
 |[],_,_,h=>h
 |(n,k)::r,cs,y,h=>by
  refine vj r _ y ?_
  split
  ·exact aS _ h
  ·exact h
theorem vk{env:Env}:∀(ns:List (Str×NameKind)) (cs:List (Str×Addr)) (x:Str),(x,NameKind.free)∈ns->∃c,(x,c)∈jo env ns cs
 |[],_,_,h=>by simp at h
 |(n,k)::r,cs,x,h=>by
  rcases aT.mp h with e|h
  ·obtain⟨e1,e2⟩:=Prod.mk.inj e
   subst e1;subst e2
   exact⟨_,vj r _ (x,_) (by rw[aF (by rfl:(NameKind.free==NameKind.free)=true)];exact bC)⟩
  ·exact vk r _ x h
theorem vm:∀{l:List (Str×β)} {x:Str} {b:β},(x,b)∈l->∃c,l.lookup x=some c
 |(y,c)::r,x,b,h=>by
  rw[jT]
  cases hx:x==y with
  |true=>exact⟨c,rfl⟩
  |false=>
   rcases aT.mp h with e|h
   ·cases e;simp at hx
   ·exact vm h
theorem t9{env:Env}{g:Str×NameKind->Bool}:∀{names:List (Str×NameKind)} {x:Str},names.lookup x=some .free ->
  (names.map fun y=>if g y then(y.1,NameKind.cell)else y).lookup x=some .cell\/(names.map fun y=>if g y then(y.1,NameKind.cell)else y).lookup x=some .free
 |[],_,h=>by simp at h
 |(n,k)::r,x,h=>by
  rw[jT]at h
  rw[a9]
  have e1:∀y:Str×NameKind,(if g y then(y.1,NameKind.cell)else y).1=y.1:=fun y=>by split<;>rfl
  have e2:∀(y:Str×NameKind) (l:List (Str×NameKind)),(y::l).lookup x=if (x==y.1)=true then some y.2 else l.lookup x:=fun y l=>by
   obtain⟨a,b⟩:=y
   rw[jT]
   cases x==a<;>rfl
  rw[e2,e1]
  cases hx:x==n with
  |true=>
   rw[hx]at h
   cases h
   rw[aF rfl]
   by_cases hg:g (n,.free)=true
   ·rw[aF hg];exact .inl rfl
   ·rw[aO hg];exact .inr rfl
  |false=>
   rw[hx]at h
   rw[aO (by exact eQ)]
   exact t9 (env:=env) h
def EI(dn:List (Str×NameKind))(sn:List (Str×NameKind))(nm:List Str)(cap:List (Option Nat))(N:List Str):Bool:=
 (sn.all fun x=>!(x.2==.local)||sn.lookup x.1==some .local)&&(sn.all fun y=>!(y.2==.cell))&&(sn.all fun x=>!(x.2==.free)||dn.lookup x.1==some .cell)&&(cap.length==nm.length) &&
 ((List.range cap.length).all fun i=>match cap[i]? with
  |some (some j)=>(match nm[i]?,N[j]? with
   |some x,some y=>x==y&&dn.lookup x==some .cell&&sn.lookup x==some .free
   |_,_=>false)
  |_=>true)
structure Uf(X:Cx)(scope:Scope)(nm:List Str)(cap:List (Option Nat)):Prop where
 clos:closureFor scope X.env=pure (jo X.env scope.names [])
 cl:∀x c,(jo X.env scope.names []).lookup x=some c->X.env.cells.lookup x=some c
 nms:∀x∈scope.names,x.2=.local->scope.names.lookup x.1=some .local
 cell:∀y∈scope.names,y.2≠.cell
 has:∀x,#[12]->∃c,(jo X.env scope.names []).lookup x=some c
 cp:∀(i j:Nat),cap[i]?=some (some j)->∃x,nm[i]?=some x/\X.N[j]?=some x/\vf X scope (jo X.env scope.names []) x
 len:cap.length=nm.length
theorem QZ{nm:List Str}{cap:List (Option Nat)}(hf:∀x,X.env.scope.names.lookup x=some .cell->∃c,X.env.cells.lookup x=some c)(hB:EI X.env.scope.names scope.names nm cap X.N=true):Uf X scope nm cap:=by
 simp only[EI,dA,List.all_eq_true,Bool.or_eq_true,hX,c_,bz]at hB
 obtain⟨⟨⟨⟨b1,b2⟩,b3⟩,b4⟩,b5⟩:=hB
 have has:∀x∈scope.names,x.2=.free->∃c,X.env.cells.lookup x.1=some c:=fun x hx hk=>by
  rcases b3 x hx with z|z
  ·exact absurd hk z
  ·exact hf _ z
 have BO:∀x c,(jo X.env scope.names []).lookup x=some c->X.env.cells.lookup x=some c:=fun x c h=>xG scope.names [] has #[15] (x,c) (ja h)
 have hin:∀x,(x,NameKind.free)∈scope.names->∃c,(jo X.env scope.names []).lookup x=some c:=fun x h=>let ⟨_,q⟩:=vk (env:=X.env) scope.names [] x h;vm q
 have hmap:(relabel scope X.env).names=scope.names.map fun y=>if (y.2==.free&&X.env.scope.kind==.function&&X.env.kindOf y.1==some .cell)then(y.1,NameKind.cell)else y:=by
  show scope.names.map _=_
  refine eY fun y _=>?_
  obtain⟨a,b⟩:=y
  rfl
 have fr:∀x,#[12]->(x,NameKind.free)∈scope.names:=fun x h=>by
  have h':∃k,(x,k)∈(relabel scope X.env).names/\(k=.cell\/k=.free):=by
   rcases h with h|h
   ·exact⟨_,ja h,.inl rfl⟩
   ·exact⟨_,ja h,.inr rfl⟩
  obtain⟨k,hm,hk⟩:=h'
  rw[hmap]at hm
  obtain⟨y,hy,e⟩:=c5.mp hm
  obtain⟨a,b⟩:=y
  by_cases hb:b=.free
  ·subst hb
   have:a=x:=by split at e<;>(cases e;rfl)
   subst this;exact hy
  ·rw[aO (by simp[hb])]at e
   cases e
   rcases hk with rfl|rfl
   ·exact absurd rfl (b2 _ hy)
   ·exact absurd rfl hb
 refine⟨QY has,BO,fun x hx hk=>(b1 x hx).resolve_left fun z=>z hk,fun y hy=>b2 y hy,fun x hx=>hin x (fr x hx),fun i j e=>?_,b4⟩
 have hi':i<cap.length:=(au.mp e).1
 have q:=b5 i (lr.mpr hi')
 rw[e]at q
 dsimp only at q
 cases hx:nm[i]? with
 |none=>rw[hx]at q;simp at q
 |some x=>
  cases hy:X.N[j]? with
  |none=>rw[hx,hy]at q;simp at q
  |some y=>
   rw[hx,hy]at q
   simp only[dA,c_]at q
   obtain⟨⟨rfl,q1⟩,q2⟩:=q
   refine⟨x,rfl,rfl,.inr (.inl q1),(by rw[q1];decide),?_,?_⟩
   ·obtain⟨c,hc⟩:=hin x (ja q2)
    rw[hc,BO _ _ hc]
   ·rw[hmap];exact t9 (env:=X.env) q2
theorem NC{pos:Pos}{wi:TI}{g:TG}{tc:TT}{m:Nat}(jI:X.calm=true)
  (qT:X.env.cells=cellsFrom m X.env.scope.names []) (jH:scope.kind=.function) (hB:EI X.env.scope.names scope.names nm cap X.N=true)
  (hi:QI X tg ef wi) (hg:∀cl C s0 H0 fp,QG #[9] tg g) (ht:∀cl C s0 H0 fp,Ue #[9] mU tc)
  (he:∀cl C s0 H0 fp,QE #[9] qX te) (hs:∀x,foldedSetIterable ef X.env x=pure x:=by intro _;rfl) :
  QE X #[10] (ve cap wi g tc te):=by
 have F:=QZ (nm:=nm) (cap:=cap) (fun x z=>by rw[qT];exact mC z) hB
 exact⟨J8 jI F.clos F.cl jH F.nms F.cell F.has F.cp F.len hi.h (fun C s0 H0 fp=>(hg _ C s0 H0 fp).h) (fun C s0 H0 fp=>(ht _ C s0 H0 fp).h) (fun C s0 H0 fp=>(he _ C s0 H0 fp).h) hs⟩
def Kd(K:Frag):List V->Hp->VK->Prop:=fun xs H Q=>∃(p:Addr) (ys:List (List Nat)),xs=[.ref p]/\sK K H p (ys.map fun l=>V.str (tx l))/\ys.length<64 /\
 ∀zs:List (List Nat),zs.Perm ys->sortedS (zs.map tx)=true->∀l H2,H l=none->H2=f_ H l (.lst (zs.map fun l=>V.str (tx l)))->Q (.ref l) H2
theorem DC(z:Str):tx z.cps.toList=z:=by cases z;rfl
theorem vn{vs:List Value}{xs:Array (Value×Value)}(hp:xs.Perm (pairsOf vs)):∀v∈(xs.map (·.2)).toList,v∈vs:=fun v hv=>by
 have hl:xs.toList.Perm (vs.zip vs):=by rw[<- pairsOf_toList];exact Array.perm_iff_toList_perm.mp hp
 rw[Array.toList_map]at hv
 obtain⟨p,hp',rfl⟩:=c5.mp hv
 have:=mem_zip_self (hl.mem_iff.mp hp')
 rw[<- this.1];exact this.2
theorem yL{prog:Program}{w:World}{A:Around}{E:Value->Shared->Prop}{l:Addr}{vs:List Value}{ss:List Str}(hl:s.heap.IsList l vs.toArray)(hS:StrsAre vs ss)(UU:vs.length<64)
  (h:∀(out:Array Value) (JC:List Str),(∀v∈out.toList,v∈vs)->StrsAre out.toList JC->JC.Perm ss->sortedS JC=true->Q (.ref #[7]) { s with heap:=sortedAll s.heap vs out }) :
  wpAny #[8] A (call (.builtin "sorted") [.ref l]) Q E s:=by
 refine sortedK qw hl hS.keysOf (fun v₁ v₂ iF e=>sD (by rw[<- e];exact hS)) UU fun bp hp hs=>?_
 obtain⟨JC,h1,h2,h3⟩:=pH hS hp hs
 exact h _ JC (vn hp) h1 h2 h3
theorem iM.sub{vs:List Value}(h:iM n vs)(hs:∀v∈us,v∈vs):iM n us:=fun x t hx=>h x t (hs _ hx)
theorem wS:Lm X (.builtin "sorted") (Kd X.K):=⟨by
 intro ak s σ H xs us Q I r h
 obtain⟨p,ys,rfl,hS,UU,q⟩:=h
 obtain⟨u,rfl,ru⟩:=oz r
 cases ru
 obtain⟨bJ,rv,pl,hz⟩:=I.list hS
 have hl:=rv.length
 rw[aD]at hl
 refine yL (ss:=ys.map tx) pl.isList (vh (by simpa using rv)) #[0] fun out JC hm h1 h2 h3=>?_
 obtain⟨ep,hat⟩:=sortedAll_at s.heap bJ out
 have Dg:H #[7]=none:=I.hok.fresh (bt _)
 have hmap:(JC.map fun z=>z.cps.toList).map tx=JC:=by
  rw[cf]
  have:(tx∘fun z:Str=>z.cps.toList)=id:=funext fun z=>DC z
  rw[this,jh]
 have hperm:(JC.map fun z=>z.cps.toList).Perm ys:=by
  have e:=h2.map fun z:Str=>z.cps.toList
  rw[cf]at e
  have:((fun z:Str=>z.cps.toList)∘tx)=id:=funext fun l=>by simp[tx]
  rw[this,jh]at e
  exact e
 have hvals:cL s.toks ((JC.map fun z=>z.cps.toList).map fun l=>V.str (tx l)) out.toList:=by
  have e:=mV h1 ((q_ rv).sub hm)
  rw[<- hmap,cf]at e
  exact e
 refine⟨.ref #[7],_,I.laid (t':=s.toks) (fun b o e=>sortedAll_old e) (bt _) ?_,rfl,q _ hperm (by rw[hmap];exact h3) _ _ Dg rfl⟩
 refine⟨?_,out.toList,ep,hvals,hat⟩
 rw[aD,hperm.length_eq]
 exact aN (fZ UU) #[13]⟩
theorem bQ.turned2{t':Nat}{e:Addr}(I:bQ X ak σ H s)(k:∀b o,b≠e->b≠it->s.heap.get? b=some o->h'.get? b=some o)
  (he:∃o,h'.get? e=some o) (f1:sL X ak H e) (f2:sL X ak H it) (hk:s.toks<=t':=by first|exact az _|exact bt _|assumption|omega):bQ X ak σ H { s with heap:=h',toks:=t' }:=by
 have nit:∀b u,H b=some u->b≠e/\b≠it:=fun b u q=>⟨fun z=>(by rw[z,f1.1]at q;cases q),fun z=>(by rw[z,f2.1]at q;cases q)⟩
 have nin:∀b,b∉[e,it]->b≠e/\b≠it:=fun b h=>⟨fun z=>h (by simp[z]),fun z=>h (by simp[z])⟩
 refine I.step (g':=s.gens) (d':=s.drawn) (ch:=[e,it]) (fun b hb=>?_) (fun b o _ _ hc q _=>k b o (nin b hc).1 (nin b hc).2 q) (fun b o _ _ hc q _=>⟨o.slots,k b o (nin b hc).1 (nin b hc).2 q⟩) (fun _ _ _ _ n=>n)
  (fun b o hc q=>⟨o,k b o (nin b hc).1 (nin b hc).2 q⟩) (fun _ _ q=>q) (fun _ _ _ q=>q) (fun b ps q=>⟨#[],by rw[q];simp⟩) (fun m hm=>?_) (fun b u q=>?_) I.bare hk
 ·have z:b=e\/b=it:=by simpa using hb
  rcases z with rfl|rfl
  ·exact⟨f1.2.2.2.1,f1.2.1,f1.2.2.2.2.1,f1.2.2.2.2.2⟩
  ·exact⟨f2.2.2.2.1,f2.2.1,f2.2.2.2.2.1,f2.2.2.2.2.2⟩
 ·obtain⟨o,es,ep,ho,r⟩:=hm
  exact⟨o,es,ep,k _ o (Ne.symm f1.2.1) (Ne.symm f2.2.1) ho,r⟩
 ·refine((I.hok b u q).up hk).stay (fun c v hc z=>?_) (fun _ z=>z) fun _ _ z=>z
  rcases hc with y|y
  ·rw[y]at z ⊢;exact k b v (nit b u q).1 (nit b u q).2 z
  ·exact k c v (nit c _ y).1 (nit c _ y).2 z
section
variable{w:World}
theorem jW{t:Addr}{bJ:Array Value}{x:Value}(st:s.heap.IsTupleIter it t i)(ht:s.heap.IsTuple t bJ)(hx:bJ[i]?=some x)
  (q:∀g,g.IsTupleIter it t (i+1)->Heap.SameBut it s.heap g->Q x { s with heap:=g }):wpAny #[8] A (Builtin.SmallTypes.nextOf (.ref it)) Q E s:=by
 obtain⟨ob,e1,e2,e3⟩:=id st
 obtain⟨ot,g1,_,nt,g3⟩:=ht
 have T:=st.typeIs
 unfold Builtin.SmallTypes.nextOf
 refine af (bT (name:=Str.ofString "__next__") T fL (b_ fL T kT ?_ (kH _)))
 show wpAny _ _ (field (.ref it) 0 >>= _) _ _ s
 refine af (dh e1 e3 (x:=.ref t) rfl ?_)
 dsimp only
 rw[aO (show ¬ ((Value.ref t==Value.none)=true)from eQ)]
 refine af (dh e1 e3 (x:=.int i 0) rfl ?_)
 dsimp only
 refine af (eu g1 g3 ?_)
 simp only[bX,hx]
 refine af (wpAny_setField e1 e3 #[15] (ay ⟨x,rfl,ay (q _ ?_ (iI ..))⟩))
 exact⟨_,dI _ e1 (Obj.isFreed_of_fields (Obj.data_mapFields e3 _)),(Obj.cls_mapFields ..).trans e2,by rw[Obj.data_mapFields e3];simp[rawInt]⟩
theorem kO{t:Addr}{bJ:Array Value}(hh:A.handled=none)(st:s.heap.IsTupleIter it t i)(ht:s.heap.IsTuple t bJ)(hx:bJ[i]?=none)
  (q:∀g e,Heap.ExtBut it s.heap g->(∃o,g.get? e=some o/\o.cls=.type "StopIteration")->E (.ref e) { s with heap:=g }):wpAny #[8] A (Builtin.SmallTypes.nextOf (.ref it)) Q E s:=by
 obtain⟨ob,e1,e2,e3⟩:=id st
 obtain⟨ot,g1,_,nt,g3⟩:=ht
 have T:=st.typeIs
 unfold Builtin.SmallTypes.nextOf
 refine af (bT (name:=Str.ofString "__next__") T fL (b_ fL T kT ?_ (kH _)))
 show wpAny _ _ (field (.ref it) 0 >>= _) _ _ s
 refine af (dh e1 e3 (x:=.ref t) rfl ?_)
 dsimp only
 rw[aO (show ¬ ((Value.ref t==Value.none)=true)from eQ)]
 refine af (dh e1 e3 (x:=.int i 0) rfl ?_)
 dsimp only
 refine af (eu g1 g3 ?_)
 simp only[bX,hx]
 refine af (jU (af (wpAny_setField e1 e3 #[15] (af ?_))))
 simp only[newExc,newTuple]
 refine af (cC (af (m:=firstArgMember _ _) (wpAny_of_eq (a:=Value.none) (by first|rfl|(simp only[firstArgMember];rfl)) (cC ?_ (by size_fits)))) (by size_fits))
 simp only[raiseNew]
 refine af (wpAny_handled ?_)
 rw[show A.in1.handled=none from hh]
 exact af (ay (wpAny_throw (q _ _ (((iI ..).extBut.push _).push _) ⟨_,aC _ rfl,rfl⟩)))
end
theorem Gj{w:World}{A:Around}(hh:A.handled=none)(it t:Addr)(z9:t≠it)(bJ:Array Value) :
  Draws prog w A it [it,t] bJ.size (fun i v=>bJ[i]?=some v) (fun i h=>h.IsTupleIter it t i/\h.IsTuple t bJ) where
 live:=fun _ _ st=>let ⟨o,e,_⟩:=st.1;⟨o,e⟩
 frame:=fun _ h h' st k=>⟨st.1.at fun o e=>k it #[15] o e,let ⟨o,e,r⟩:=st.2;⟨o,k t #[15] o e,r⟩⟩
 item:=fun i s Q E hi st q=>jW st.1 st.2 (x:=bJ[i]) (by simp[hi]) fun g a b=>q _ g s.toks (by simp[hi]) ⟨a,st.2.extBut b.extBut z9⟩ b
 done:=fun s Q E st q=>kO hh st.1 st.2 #[15] q
open AutoSeq1 (wpAny_loadPart')
def U2(K:Frag)(a:Addr):It:=
 ⟨fun i H=>∃xs x,gc K H a xs/\xs[i]?=some x,fun i H v H'=>∃p,H p=none/\v=.ref p/\∀xs x,gc K H a xs->xs[i]?=some x->H'=f_ H p (.tup [.int i,x]),fun i H=>∃xs,gc K H a xs/\xs.length<=i⟩
theorem EJ{w:World}(a it e:Addr)(UN:e≠it) :
  BV P w K (.Tuple wF kk pos) (U2 K a) [e,it] e (fun i h=>(∃old,IsEnum h e it i old)/\h.IsTupleIter it a i) where
 mem:=by simp
 obj:=fun i h st b hb=>by
  have z:b=e\/b=it:=by simpa using hb
  rcases z with rfl|rfl
  ·obtain⟨old,q⟩:=st.1
   exact⟨_,q,fun v z=>by cases z⟩
  ·obtain⟨o,q,c,d⟩:=st.2
   exact⟨o,q,fun v z=>by rw[d]at z;cases z⟩
 keep:=fun i h h' st k=>⟨let ⟨old,q⟩:=st.1;⟨old,k e #[15] _ q⟩,st.2.at fun o q=>k it #[15] o q⟩
 item:=by
  intro X hP hw hK hc i ak s σ H E I hf st hg
  subst hP hw hK
  obtain⟨xs,x,hq,hx⟩:=hg
  obtain⟨bJ,rv,p,hz⟩:=I.tuple hq
  obtain⟨u,hu,ru⟩:=rv.get hx
  obtain⟨⟨old,he⟩,pz⟩:=st
  have hT:s.heap.IsTuple a bJ.toArray:=p
  obtain⟨oa,ha,hca,_⟩:=id hT
  obtain⟨oi,hi,hci,_⟩:=id pz
  have nai:a≠it:=fun z=>by
   rw[z,hi]at ha;cases ha
   rw[hci]at hca;injection hca with z;exact absurd z #[13]
  have nae:a≠e:=fun z=>by
   rw[z,he]at ha;cases ha
   injection hca with z;exact absurd z #[13]
  have hlt:i<bJ.toArray.size:=by
   have:=(au.mp hu).1
   simpa using this
  refine up (wpAny_pyNext_enum_itemD (Gj (A:=X.A.in1) (I.ok.hd hc) it a nai bJ.toArray) he ⟨pz,hT⟩ hlt UN (by simp[UN,Ne.symm nae]) fun x' g tk hx' ho' bp htup hsz hk TF=>⟨_,rfl,?_⟩)
  have ex:x'=u:=by
   have e1:bJ[i]?=some x':=by simpa using hx'
   rw[hu]at e1;exact(bu e1).symm
  subst ex
  refine wpAny_letOwnedTupleGo_enum ho' fun g2 UL tX=>?_
  have Dg:H s.heap.objs.size=none:=I.hok.fresh (az _)
  have I1:bQ X ak σ (f_ H s.heap.objs.size (.tup [.int i,x])) { s with heap:=s.heap.push { cls:=.type "tuple",data:=.seq #[.int i tk,x'] },toks:=tk+1 }:=I.laid (fun b o q=>aw _ q) (az _)
   ⟨by show 2<=sizeLine;decide,[.int i tk,x'],.cons ⟨tk,rfl⟩ (.cons (ru.up TF) .nil),⟨_,aC _ rfl,rfl,_,rfl⟩⟩
  have nf:∀b∈[e,it],b≠s.heap.objs.size:=fun b hb=>by
   have z:b=e\/b=it:=by simpa using hb
   rcases z with rfl|rfl
   ·exact bf (aJ he)
   ·exact bf (aJ hi)
  have fp:∀b∈[e,it],sL X ak (f_ H s.heap.objs.size (.tup [.int i,x])) b:=fun b hb=>by
   obtain⟨f0,f⟩:=hf b hb
   exact⟨by rw[df (nf b hb)];exact f0,f⟩
  have he2':IsEnum g2 e it ((i:Int)+1) x':=UL
  have I2:bQ X ak σ (f_ H s.heap.objs.size (.tup [.int i,x])) { s with heap:=g2,toks:=tk+1 }:=I1.turned2 (t':=tk+1) (fun b o hbe hbi q=>?_) ⟨_,he2'⟩ (fp e #[15]) (fp it #[15])
  ·refine⟨.ref s.heap.objs.size,_,I2,rfl,⟨_,Dg,rfl,fun ys y hy hy'=>?_⟩,⟨⟨x',by simpa using he2'⟩,bp.1.extBut tX.extBut (Ne.symm UN)⟩,fun b hb=>(fp b hb).1⟩
   have e1:=I.tuple_inj hy hq
   subst e1
   rw[hx]at hy';cases hy';rfl
  ·have q':(s.heap.push { cls:=.type "tuple",data:=.seq #[.int i tk,x'] }).get? b=some o:=q
   refine tX.extBut b o hbe ?_
   by_cases hb:b=s.heap.objs.size
   ·subst hb
    have e1:=aC s.heap (o:={ cls:=.type "tuple",data:=.seq #[.int i tk,x'] }) rfl
    rw[e1]at q';cases q'
    exact htup
   ·rw[Heap.get?_push_ne _ _ _ hb]at q'
    exact hk b o hbe hbi q'
 done:=by
  intro X hP hw hK hc i ak s σ H E I hf st hg
  subst hP hw hK
  obtain⟨xs,hq,hx⟩:=hg
  obtain⟨bJ,rv,p,hz⟩:=I.tuple hq
  obtain⟨⟨old,he⟩,pz⟩:=st
  have hT:s.heap.IsTuple a bJ.toArray:=p
  have hl:=rv.length
  have hT':Shared.TypeIs s (.ref e) "enumerate":=⟨_,he,rfl⟩
  unfold pyNext
  refine af (gX (bT (name:=Str.ofString "__next__") hT' oh (b_ oh hT' F.entry_enumerate_next ?_ (F.args_enumerate_next_1 _))))
  show wpAny _ _ (field (.ref e) 2 >>= _) _ _ _
  refine af (dh he rfl (x:=.ref it) rfl (af (kO (show X.A.in1.handled=none from I.ok.hd hc) pz hT (by simp;omega) fun g y hx' hy=>?_)))
  obtain⟨o,ho,BO⟩:=hy
  refine af (gs (T:="StopIteration") (b:=true) ⟨o,ho,BO⟩ lH (ay ⟨rfl,?_⟩))
  obtain⟨f0,f1,f2,f3,f4,f5⟩:=hf it #[15]
  exact I.turned (t':=s.toks) (fun b o hb q=>hx' b o hb q) f0 f1 f3 f4 f5
 self:=fun A i s Q E st h=>let ⟨_,q⟩:=st.1;wpAny_pyIter_enum q h
open AutoSeq1 (wpAny_loadPart')
abbrev lT(t:Addr):Obj:={ cls:=.type "tuple_iterator",data:=.fields #[.ref t,.int 0 0] }
abbrev Ci(it:Addr):Obj:={ cls:=.type "enumerate",data:=.fields #[.none,.bool false,.ref it,rawInt 0,.none,.none] }
theorem ND(t:Addr)(bJ:Array Value)(n:Nat)(dc:Option Addr)(sl:Array (Option Value)) :
  Meets (Builtin.«enumerate.__new__» ⟨[.type "enumerate",.ref t],[]⟩) (fun _ R s=>s.heap.get? t=some { cls:=.type "tuple",dict:=dc,data:=.seq bJ n,slots:=sl } /\
   R (.ok (.ret (.ref (s.heap.push (lT t)).objs.size))) { s with heap:=(s.heap.push (lT t)).push (Ci s.heap.objs.size) }):=
 .of_wp fun prog w A R s h=>by
  obtain⟨hp,g,d,tk,os⟩:=s
  obtain⟨ht,h⟩:=h
  have sb:=sub_enumerate
  have hT:Heap.IsTuple (Shared.heap ⟨hp,g,d,tk,os⟩) t bJ:=⟨_,ht,rfl,n,rfl⟩
  wp_walk using dq ht
  refine wpAny_stack_any fun st=>ay ?_
  split
  ·rename_i c _ _ _ _ _
   cases(c==Value.type "enumerate")<;>(wp_walk using dq ht,fI hT;exact⟨_,rfl,h⟩)
  ·wp_walk using dq ht,fI hT
   exact⟨_,rfl,h⟩
section
variable{w:World}
theorem wT{t:Addr}{bJ:Array Value}(hT:s.heap.IsTuple t bJ)
  (q:∀g,IsEnum g #[7] s.heap.objs.size 0 .none->g.IsTupleIter s.heap.objs.size t 0->(∀b o,s.heap.get? b=some o->g.get? b=some o)->Q (.ref #[7]) { s with heap:=g }) :
  wpAny #[8] A (call (.type "enumerate") [.ref t]) Q E s:=by
 obtain⟨⟨c,dc,dt,sl⟩,ht,hc,n,hd⟩:=hT
 obtain rfl:c=.type "tuple":=hc
 obtain rfl:dt=.seq bJ n:=hd
 refine callType_new F.called_enumerate #[13] (F.typeCall_enumerate_1 _) (F.newCall_enumerate_1 _) (fun ob=>F.args_object_init_2 ob _) F.entry_enumerate_new (ND t bJ n dc sl) ⟨ht,?_⟩
 have z:(s.heap.push (lT t)).objs.size=s.heap.objs.size+1:=bx ..
 show _/\_
 rw[z]
 have e1:IsEnum ((s.heap.push (lT t)).push (Ci s.heap.objs.size)) #[7] s.heap.objs.size 0 .none:=by
  have y:=aC (s.heap.push (lT t)) (o:=Ci s.heap.objs.size) rfl
  rw[z]at y;exact y
 exact⟨⟨_,e1,rfl⟩,q _ e1 ⟨_,aw _ (aC _ rfl),rfl,rfl⟩ fun b o y=>aw _ (aw _ y)⟩
end
section
def Ug(K:Frag)(ta:TA):TI:=fun σ H R=>ta σ H fun vs H1=>∃a,vs=[.ref a]/\(∃xs,gc K H1 a xs)/\R (U2 K a) H1
theorem Gk{a:Expr}{ta:TA}{p pos tp:Pos}{wF:List Expr}{kk:Nat}(hm:X.mg "enumerate"=none)(ha:QA X [a] ta)(hg:Gl X "enumerate":=by rfl)(hs:starEach [a] X.env=[(false,eval a X.env)]:=by rfl) :
  QI X (.Tuple wF kk tp) (.Call (.Name "enumerate" p) [a] [] pos) (Ug X.K ta):=⟨by
 intro ak s σ H R I h
 refine Call_ (ou I hg hm boot_enumerate (dU (jC (ha.h pos ak s σ H _ I h) fun us s1 kt1 ⟨vs,H1,I1,r1,q1⟩=>?_) hs rfl))
 obtain⟨t,e,⟨xs,hq⟩,q⟩:=q1
 subst e
 obtain⟨u,rfl,ru⟩:=oz r1
 cases ru
 obtain⟨bJ,rv,pt,hz⟩:=I1.tuple hq
 refine wT (show s1.heap.IsTuple t bJ.toArray from pt) fun g e1 e2 kp=>?_
 refine wpAny_pyIter_enum e1 ?_
 refine⟨s1.heap.objs.size+1,[s1.heap.objs.size+1,s1.heap.objs.size],_,_,H1,rfl,I1.kept (t':=s1.toks) kp,EJ t _ _ (Nat.succ_ne_self _),⟨⟨_,e1⟩,e2⟩,fun b hb=>?_,q⟩
 have z:b=s1.heap.objs.size+1\/b=s1.heap.objs.size:=by simpa using hb
 rcases z with rfl|rfl
 ·exact I1.fpOk (bt _) (I1.hok.fresh (bt _))
 ·exact I1.fpOk (az _) (I1.hok.fresh (az _))⟩
end
section
variable{g:TG}{tc:TT}{H1:Hp}{Q:VK}
end
theorem xH:∀(p:Nat) (m:List Nat),risingS (tx [p]) (m.map fun c=>tx [c])=true->(∀c∈m,p<=c)/\m.Pairwise (· <= ·)
 |p,[],_=>⟨fun c h=>by simp at h,.nil⟩
 |p,c::r,h=>by
  have h':(!ltCps (tx [c]).cps.toList (tx [p]).cps.toList&&risingS (tx [c]) (r.map fun c=>tx [c]))=true:=h
  rw[dA]at h'
  obtain⟨a,b⟩:=h'
  obtain⟨b1,b2⟩:=xH c r b
  have hpc:p<=c:=by
   rw[ltCps_eq]at a
   have a':(!decide ([c]<[p]))=true:=a
   have:=of_decide_eq_false (hX _▸a')
   rcases Nat.lt_or_ge c p with z|z
   ·exact absurd (List.Lex.rel z) this
   ·exact z
  refine⟨fun x hx=>?_,bZ.mpr ⟨b1,b2⟩⟩
  rcases aT.mp hx with rfl|hx
  ·exact hpc
  ·exact aN hpc (b1 x hx)
theorem An:∀(m:List Nat),sortedS ((m.map fun c=>[c]).map tx)=true->m.Pairwise (· <= ·)
 |[],_=>.nil
 |c::r,h=>by
  have h':risingS (tx [c]) ((r.map fun c=>[c]).map tx)=true:=h
  rw[cf]at h'
  obtain⟨a,b⟩:=xH c r h'
  exact bZ.mpr ⟨a,b⟩
theorem eU:Slot "set_iterator" "__next__" "set_iterator.__next__":=.of (owner:="set_iterator") (n:="__next__") (by rw[typeLookup_type,ol];kernel_rfl) (by decide +kernel) (by decide +kernel) (by decide +kernel) (by first|exact .inl (by decide +kernel)|exact .inr (by decide +kernel)) (by rw[eD];kernel_rfl)
theorem lU:entryFor table "set_iterator.__next__"=some Builtin.«set_iterator.__next__»:=entryFor_of_tree (by kernel_rfl)
theorem lV(a:Value):argsOk "set_iterator.__next__" ⟨[a],[]⟩:=by unfold argsOk;kernel_rfl
theorem Ao:entryFor table "set.__iter__"=some Builtin.«frozenset.__iter__»:=entryFor_alias (id':="frozenset.__iter__") (by kernel_rfl) (by first|rfl|decide +kernel|(unfold String.splitOn;simp +decide [String.splitOnAux])) (by decide +kernel) (by kernel_rfl)
def uC(w:World):Bool:=w.params.followText "set-order"
def DD(w:World)(n:Nat)(t:SetTable):Prop:=(uC w=true\/t.led=true)/\(n=0\/t.plain=false)
theorem EK(t:SetTable)(es:Array (Int×Value))(h:Int)(x:Value):(layNew t es h x).2.1.led=t.led/\(t.plain=false->(layNew t es h x).2.1.plain=false):=by
 unfold layNew
 split
 ·dsimp only
  unfold SetTable.orStandIn
  split
  ·exact⟨rfl,fun z=>z⟩
  ·exact⟨rfl,fun _=>rfl⟩
 ·exact⟨rfl,fun _=>rfl⟩
theorem yM{t t':SetTable}{hs:Array Int}{o:Array Nat}(h:t.relaid hs n=some (t',o)):t'.led=t.led/\t'.plain=t.plain:=by
 unfold SetTable.relaid SetTable.laid at h
 cases hc:SetTable.layClean (SetTable.sizeAbove n-1) hs with
 |none=>rw[hc]at h;cases h
 |some ow=>
  rw[hc]at h
  have h':=bu h
  obtain⟨a,_⟩:=Prod.mk.inj h'
  subst a
  exact⟨rfl,rfl⟩
theorem Ap(t:SetTable)(es:Array (Int×Value))(n:Nat):(relayAll t es n).2.1.led=t.led/\(t.plain=false->(relayAll t es n).2.1.plain=false):=by
 unfold relayAll
 split
 ·rename_i t' o he
  obtain⟨a,b⟩:=yM he
  dsimp only
  split
  ·exact⟨a,fun z=>b.trans z⟩
  ·exact⟨rfl,fun _=>rfl⟩
 ·exact⟨rfl,fun _=>rfl⟩
section
variable{w:World}
def vo(prog:Program)(w:World)(n:Nat)(h:Heap)(a:Addr)(ks:List Str):Prop:=
 ∃o es ep t,h.get? a=some o/\o.ExactSet/\o.data=.set es ep t/\ElemsOf (PySem.strKind prog w) es.toList/\(es.toList.map fun e=>strOf e.2).Perm ks/\es.size<scanBound/\t.fits es.size=true/\DD w es.size t/\iM n (es.toList.map (·.2))
theorem Aq{l:List (Int×Value)}(h:ElemsOf (PySem.strKind prog w) l):∀e∈l,∃t,e.2=.str (strOf e.2) t:=fun e he=>by
 obtain⟨⟨k,hk,_⟩,_⟩:=h e he
 obtain⟨t,ht⟩:=kM hk
 exact⟨t,by rw[ht];rfl⟩
theorem xI{k:Str}{e:Int×Value}{l:List (Int×Value)}(h:ElemsOf (PySem.strKind prog w) l)(he:e∈l):(PySem.strKind prog w).is k e.2=true↔k=strOf e.2:=by
 obtain⟨t,ht⟩:=Aq h e he
 constructor
 ·intro z
  obtain⟨u,hu⟩:=kM z
  rw[hu];rfl
 ·intro z
  show Value.isStrOf k e.2=true
  rw[ht,z]
  show Value.isStrOf (strOf e.2) (.str (strOf e.2) t)=true
  unfold Value.isStrOf;simp
theorem vo.keep{a:Addr}(z:vo prog w n h a ks)(k:∀o,h.get? a=some o->h'.get? a=some o):vo prog w n h' a ks:=let ⟨o,es,ep,t,ho,r⟩:=z;⟨o,es,ep,t,k o ho,r⟩
theorem iM.up{l:List Value}(h:iM n l)(hn:n<=n'):iM n' l:=fun x t hx h1=>⟨(h x t hx h1).1,aP (h x t hx h1).2 hn⟩
theorem vo.up{a:Addr}(z:vo prog w n h a ks)(hn:n<=n'):vo prog w n' h a ks:=let ⟨o,es,ep,t,ho,h1,h2,h3,h4,h5,h6,h7,h8⟩:=z;⟨o,es,ep,t,ho,h1,h2,h3,h4,h5,h6,h7,h8.up hn⟩
theorem Ke{a:Addr}{x:Str}{tk:Tok}{Q:Bool->Shared->Prop}(z:vo prog w n s.heap a ks)(TC:x.length=1->0<tk/\tk<n)(Vi:ks.length+1<scanBound)
  (q:∀b g,Heap.SameBut a s.heap g->vo prog w n g a (if x∈ks then ks else ks++[x])->Q b { s with heap:=g }):wpAny #[8] A (setAddHashed a (.str x tk) ((PySem.strKind prog w).hash x)) Q E s:=by
 obtain⟨o,es,ep,t,ho,Aa,hd,hel,hp,hb,hf,Jz,hta⟩:=z
 have fY:es.size=ks.length:=by have:=hp.length_eq;simpa using this
 have hkey:(PySem.strKind prog w).is x (.str x tk)=true:=by show Value.isStrOf x (.str x tk)=true;unfold Value.isStrOf;simp
 have hsc:(Value.str x tk).scannable=true:=rfl
 unfold setAddHashed setAddHashedIn
 refine dm (af (f9 ho hd hf ?_))
 dsimp only
 rw[byScan_of hsc hb hel,aF rfl]
 unfold setAddByScan
 refine af (af (jU (af (wpAny_setScan_of hkey ho hd hf hel ?_))))
 cases hr:List.findIdx? (fun e=>(PySem.strKind prog w).is x e.2) es.toList with
 |some j=>
  obtain⟨hj,hpj,_⟩:=List.findIdx?_eq_some_iff_getElem.mp hr
  have hin:x∈ks:=hp.mem_iff.mp (c5.mpr ⟨es.toList[j],dR hj,((xI hel (dR hj)).mp hpj).symm⟩)
  refine ay (ay ?_)
  have e1:=q false s.heap (Heap.SameBut.refl a s.heap) (by rw[aF hin];exact⟨o,es,ep,t,ho,Aa,hd,hel,hp,hb,hf,Jz,hta⟩)
  exact e1
 |none=>
  have hin:¬ x∈ks:=fun hx=>by
   obtain⟨e,he,hxe⟩:=c5.mp (hp.mem_iff.mpr hx)
   have y:=List.findIdx?_eq_none_iff.mp hr e he
   rw[(xI hel he).mpr hxe.symm]at y
   cases y
  have q':=fun b g h1 h2=>q b g h1 (by rw[aO hin];exact h2)
  dsimp only
  have lp:=layNew_perm t es ((PySem.strKind prog w).hash x) (.str x tk)
  have lf:=layNew_fits t es ((PySem.strKind prog w).hash x) (.str x tk)
  have lm:=EK t es ((PySem.strKind prog w).hash x) (.str x tk)
  generalize layNew t es ((PySem.strKind prog w).hash x) (.str x tk)=L at lp lf lm ⊢
  obtain⟨es1,t1,wd,gv⟩:=L
  dsimp only at lp lf lm ⊢
  rw[l7]at lp
  have el1:ElemsOf (PySem.strKind prog w) es1.toList:=(hel.push hkey hsc).perm lp
  have sz1:es1.size=es.size+1:=by have:=lp.length_eq;simpa using this
  have b1:es1.size<scanBound:=by omega
  have p1:(es1.toList.map fun e=>strOf e.2).Perm (ks++[x]):=by
   have y:=lp.map fun e:Int×Value=>strOf e.2
   rw[bb]at y
   exact y.trans (hp.append_right _)
  have ta1:iM n (es1.toList.map (·.2)):=fun y u hy=>by
   obtain⟨e,he,ee⟩:=c5.mp hy
   rcases aW.mp (lp.mem_iff.mp he)with z|z
   ·exact hta y u (c5.mpr ⟨e,z,ee⟩)
   ·rw[a8]at z
    subst z
    cases ee
    exact TC
  have gw:∀(b:Bool) {s₁:Shared} {Q':Unit->Shared->Prop},Q' () s₁->wpAny #[8] A (match b with|true=>rule "set.scan.the-table-gave-way" | false=>pure ()) Q' E s₁:=fun b _ _ y=>by cases b<;>first|exact ay y|exact jU y
  refine af (gw _ ?_)
  have kL:∀t2:SetTable,t2.fits es1.size=true->t2.led=t.led->t2.plain=false->wpAny #[8] A (do
    storeSet a es1 t2
    if (!wd&&t2.tooFull)=true then do
      (match (relayAll t2 es1 (SetTable.grown es1.size)).2.2 with|true=>rule "set.scan.the-table-gave-way" | false=>pure ())
      storeSet a (relayAll t2 es1 (SetTable.grown es1.size)).1 (relayAll t2 es1 (SetTable.grown es1.size)).2.1
      pure (some true)
     else pure (some true)) (fun r s'=>wpAny #[8] A (match r with|some added=>pure added|none=>setAddHashedIn a (.str x tk) ((PySem.strKind prog w).hash x) 99999) Q E s') E s:=by
   intro t2 f2 l2 n2
   have to2:DD w es1.size t2:=⟨by rw[l2];exact Jz.1,.inr n2⟩
   refine af (wpAny_storeSet_of ho hd ?_ (fits_of_scanBound b1))
   have g1:(s.heap.update a (Obj.putSet es1 t2)).get? a=some { o with data:=.set es1 (ep+1) t2 }:=by
    have y:=dI (Obj.putSet es1 t2) ho (by rw[tY es1 t2 hd];rfl)
    rw[tY es1 t2 hd]at y;exact y
   have sb:=iI s.heap a (Obj.putSet es1 t2)
   split
   ·have rp:=relayAll_perm t2 es1 (SetTable.grown es1.size)
    have rf:=relayAll_fits t2 es1 (SetTable.grown es1.size)
    have rm:=Ap t2 es1 (SetTable.grown es1.size)
    generalize relayAll t2 es1 (SetTable.grown es1.size)=R at rp rf rm ⊢
    obtain⟨es2,t3,gv2⟩:=R
    dsimp only at rp rf rm ⊢
    have sz2:es2.size=es1.size:=by have:=rp.length_eq;simpa using this
    refine af (gw _ (af (wpAny_storeSet_of g1 rfl (ay (ay ?_)) (fits_of_scanBound #[0]))))
    have g2:((s.heap.update a (Obj.putSet es1 t2)).update a (Obj.putSet es2 t3)).get? a=some { o with data:=.set es2 (ep+1+1) t3 }:=by
     have y:=dI (Obj.putSet es2 t3) g1 (by rw[tY es2 t3 rfl];rfl)
     rw[tY es2 t3 rfl]at y;exact y
    refine q' true _ (sb.trans (iI _ a _)) ⟨_,es2,_,t3,g2,Aa,rfl,el1.perm rp,?_,by omega,rf,?_⟩
    ·exact(rp.map fun e:Int×Value=>strOf e.2).trans p1
    ·exact⟨⟨by rw[rm.1,l2];exact Jz.1,.inr (rm.2 n2)⟩,fun y u hy=>ta1 y u ((rp.map _).mem_iff.mp hy)⟩
   ·exact ay (ay (q' true _ sb ⟨_,es1,_,t2,g1,Aa,rfl,el1,p1,b1,f2,to2,ta1⟩))
  by_cases qe:t1.plain=true
  ·rw[aF qe,hashByValue_scannable 8 hsc]
   refine af (ay ?_)
   exact kL { t1 with plain:=false } (SetTable.fits_plain_off lf) lm.1 rfl
  ·rw[aO qe]
   refine af (ay ?_)
   exact kL t1 lf lm.1 (by simpa using qe)
end
section
variable{w:World}{R:Result->Shared->Prop}{I:Addr}{wr:List Addr}{P:Nat->Value->Prop}{St:Nat->Heap->Prop}
def Ln(prog:Program)(w:World)(m:Nat)(val:Nat->Str)(h:Heap)(a:Addr)(i:Nat):Prop:=∃ks,vo prog w m h a ks/\ks.Nodup/\(∀x,x∈ks↔∃j,j<i/\val j=x)/\ks.length<=i
theorem Gm(W:Walks prog w A.in1 I fp wr n P St)(S:Addr)(Vh:S∉fp)(val:Nat->Str)(BK:∀i v,P i v->∃t,v=.str (val i) t)(hb:n+1<scanBound){n0:Nat}
  (BN:∀i (s:Shared) (Q:Option Value->Shared->Prop) (E:Value->Shared->Prop),n0<=s.toks->i<n->St i s.heap ->
   (∀v h' tk,s.toks<=tk->iM tk [v]->P i v->St (i+1) h'->(∀b o,b∉wr->s.heap.get? b=some o->h'.get? b=some o)->Q (some v) { s with heap:=h',toks:=tk })->wpAny #[8] A.in1 (pyNext (.ref I)) Q E s) :
  ∀(k i:Nat) (s:Shared),n-i=k->i<=n->n0<=s.toks->St i s.heap->Ln prog w s.toks val s.heap S i ->
   (∀g tk,s.toks<=tk->Ln prog w tk val g S n->(∀b o,b≠S->b∉wr->s.heap.get? b=some o->g.get? b=some o)->R (.ok (.ret .none)) { s with heap:=g,toks:=tk }) ->
   codeAny #[8] A (.builtin "set.update.loop" ⟨[.ref S,.ref I],[]⟩) R s:=by
 have hSw:S∉wr:=fun h=>Vh (W.sub _ h)
 intro k
 induction k with
 |zero=>
  intro i s hk hi hn0 st hM hR
  obtain rfl:i=n:=by omega
  refine dN iJ ?_
  rw[cX eZ _]
  show wpAny _ A.in1 (pyNext (.ref I) >>= _) _ _ s
  refine af (up (W.done s _ _ st fun g tk kp kY=>ay (hR g tk kY ?_ fun b o _ hb e=>kp b o hb e)))
  obtain⟨ks,z,r⟩:=hM
  exact⟨ks,(z.keep fun o e=>kp S o hSw e).up kY,r⟩
 |succ k ih=>
  intro i s hk hi hn0 st hM hR
  have hlt:i<n:=by omega
  refine dN iJ ?_
  rw[cX eZ _]
  show wpAny _ A.in1 (pyNext (.ref I) >>= _) _ _ s
  refine af (BN i s _ _ hn0 hlt st fun v g tk kY hta hP bp kp=>?_)
  obtain⟨t,rfl⟩:=BK i v hP
  obtain⟨ks,z,nd,mem,len⟩:=hM
  have z':vo prog w (tk+1) g S ks:=(z.keep fun o e=>kp S o hSw e).up (hV kY)
  refine af (dm ?_)
  unfold setAdd
  refine dm (af ((PySem.strKind prog w).pyHash (k:=val i) (show Value.isStrOf (val i) (.str (val i) t)=true by unfold Value.isStrOf;simp) ?_))
  refine Ke (s:={ s with heap:=g,toks:=tk+1 }) z' (fun h1=>⟨(hta _ t #[15] h1).1,cU (hta _ t #[15] h1).2⟩) #[0] fun _ g2 sb z2=>?_
  refine ay ⟨fv eZ _,ih (i+1) _ #[0] hlt (aN hn0 (hV kY)) (W.frame _ _ _ bp fun b hb o e=>?_) ?_ fun g3 tk3 hle3 hM3 kp3=>?_⟩
  ·rw[sb.2 b (fun h:b=S=>Vh (by rw[<- h];exact hb))];exact e
  ·refine⟨_,z2,?_,fun x=>?_,?_⟩
   ·by_cases hx:val i∈ks
    ·rw[aF hx];exact nd
    ·rw[aO hx];exact l8.mpr ⟨nd,by simp,fun a ha b hb=>by rw[a8]at hb;subst hb;exact fun e=>hx (e▸ha)⟩
   ·by_cases hx:val i∈ks
    ·rw[aF hx,mem x]
     constructor
     ·rintro⟨j,hj,e⟩;exact⟨j,by omega,e⟩
     ·rintro⟨j,hj,e⟩
      by_cases hji:j=i
      ·subst hji;subst e;exact(mem _).mp hx
      ·exact⟨j,by omega,e⟩
    ·rw[aO hx,aW,mem x,a8]
     constructor
     ·rintro(⟨j,hj,e⟩|e)
      ·exact⟨j,by omega,e⟩
      ·exact⟨i,by omega,e.symm⟩
     ·rintro⟨j,hj,e⟩
      by_cases hji:j=i
      ·subst hji;exact .inr e.symm
      ·exact .inl ⟨j,by omega,e⟩
   ·by_cases hx:val i∈ks
    ·rw[aF hx];omega
    ·rw[aO hx,ai,cm];omega
  ·exact hR g3 tk3 (aN (hV kY) hle3) hM3 fun b o hb hw e=>kp3 b o hb hw ((sb.2 b hb).trans (kp b o hw e))
end
section
variable{w:World}
abbrev d6(w:World):Obj:={ cls:=.type "set",dict:=none,data:=.set #[] 0 (.fresh 0 0 (!uC w)) }
theorem Ar(a:Value){Q₁:Value->Shared->Prop}(h:Q₁ (.ref s.heap.objs.size) { s with heap:=s.heap.push (d6 w) }) :
  codeAny #[8] A (.call (.builtin "set.__new__") ⟨[.type "set",a],[]⟩) (wants Q₁ E) s:=by
 refine codeAny_of_tree ?_
 show wpAny _ A.in1 (do checkBuiltinCall "set.__new__" ⟨[.type "set",a],[]⟩;again (.builtin "set.__new__" ⟨[.type "set",a],[]⟩)) _ _ s
 refine af (wpAny_of_eq (PySem.F.newCall_set_1 a) (ay ⟨fv PySem.F.plain_set_new _,dN PySem.F.entry_set_new ?_⟩))
 rw[cX PySem.F.plain_set_new _]
 unfold Builtin.«set.__new__» Builtin.Frozenset.newClass
 have sb:=sub_set_self
 obtain⟨hp,g,d,tk,os⟩:=s
 dsimp only
 wp_walk
 refine mR (ay ?_)
 dsimp only
 simp only[newObj]
 exact af (wpAny_alloc (ay (ay h)))
set_option maxHeartbeats 8000000 in
theorem ma{T:String}{TD:Obj}{fp:Addr->List Addr}{n:Nat}{P:Nat->Value->Prop}{St:Addr->Nat->Heap->Prop}{val:Nat->Str}{Q:Value->Shared->Prop}(hT:Shared.TypeIs { s with heap:=s.heap.push (d6 w) } v T)
  (n1:isSubtype (.type T) (.type "set")=pure false) (n2:isSubtype (.type T) (.type "frozenset")=pure false) (n3:(Value.type T==Value.type "dict")=false)
  (pz:∀(A:Around) (E:Value->Shared->Prop) (Q:Value->Shared->Prop),Q (.ref #[7]) { s with heap:=(s.heap.push (d6 w)).push TD }->wpAny #[8] A (pyIter v) Q E { s with heap:=s.heap.push (d6 w) })
  (W:∀(A:Around) (it:Addr),A.handled=none->it=s.heap.objs.size+1->Walks prog w A it (fp it) [it] n P (St it)) (S5:s.heap.objs.size∉fp #[7]) (st:St #[7] 0 ((s.heap.push (d6 w)).push TD)) (BK:∀i v,P i v->∃t,v=.str (val i) t)
  (hh:A.handled=none) (hb:n+1<scanBound)
  (BN:∀(A:Around),A.handled=none->∀i (s':Shared) (Q:Option Value->Shared->Prop) (E:Value->Shared->Prop),s.toks<=s'.toks->i<n->St #[7] i s'.heap ->
   (∀v h' tk,s'.toks<=tk->iM tk [v]->P i v->St #[7] (i+1) h'->(∀b o,b∉[s.heap.objs.size+1]->s'.heap.get? b=some o->h'.get? b=some o)->Q (some v) { s' with heap:=h',toks:=tk })->wpAny #[8] A (pyNext (.ref #[7])) Q E s')
  (q:∀g tk,s.toks<=tk->Ln prog w tk val g s.heap.objs.size n->(∀b o,s.heap.get? b=some o->g.get? b=some o)->Q (.ref s.heap.objs.size) { s with heap:=g,toks:=tk }) :
  wpAny #[8] A (call (.type "set") [v]) Q E s:=by
 obtain⟨c,tl,hmro⟩:=PySem.F.called_set.mro
 have hmade:=PySem.F.called_set.made
 have hsub:=PySem.F.called_set.sub
 refine qY (codeAny_of_tree ?_)
 show wpAny _ _ (callAny (.type "set") _) _ _ _
 refine ay ⟨Code.quiet_builtin _ (by decide +kernel),dN PySem.F.entry_type_call ?_⟩
 rw[Around.under_plain (weight_type_call_type "set" [v] []) rfl]
 have h1:=PySem.F.called_set.notType
 have h2:=PySem.F.called_set.canCreate
 have hct:=PySem.F.typeCall_set_1 v
 repeat(any_goals (first|assumption|wp_step))
 refine iw (Ar v (E:=E) (Q₁:=fun obj s₁=>obj=.ref s.heap.objs.size/\s₁={ s with heap:=s.heap.push (d6 w) }) ⟨rfl,rfl⟩) fun r s₁ hr=>?_
 cases r with
 |error e=>exact hr
 |ok fl=>
  cases fl with
  |ret obj=>
   obtain⟨rfl,rfl⟩:=hr
   have gS:(s.heap.push (d6 w)).get? s.heap.objs.size=some (d6 w):=aC _ rfl
   have tS:Shared.TypeIs { s with heap:=s.heap.push (d6 w) } (.ref s.heap.objs.size) "set":=⟨_,gS,rfl⟩
   have hli:=PySem.F.called_set.init.lookup
   have hbi:=PySem.F.called_set.init.bind (.ref s.heap.objs.size)
   repeat(any_goals (first|assumption|wp_step))
   refine iw (codeAny_call_builtin (R:=wants (fun r s₂=>r=.none/\∃g tk,s₂={ s with heap:=g,toks:=tk }/\s.toks<=tk/\Ln prog w tk val g s.heap.objs.size n/\(∀b o,s.heap.get? b=some o->g.get? b=some o)) E) PySem.F.called_set.init.plain PySem.F.entry_set_init (check_set_init_1 tS ?_)) fun r₂ s₂ hr₂=>?_
   ·unfold Builtin.«set.__init__» noKeywords Builtin.Frozenset.updateFrom
    generalize hPI:pyIter=PI
    wp_walk
    subst hPI
    refine pz _ _ _ (af (pI ?_))
    have g0:((s.heap.push (d6 w)).push TD).get? s.heap.objs.size=some (d6 w):=aw _ gS
    have m0:Ln prog w s.toks val ((s.heap.push (d6 w)).push TD) s.heap.objs.size 0:=⟨[],⟨_,#[],0,_,g0,⟨rfl,rfl,rfl⟩,rfl,fun e he=>by simp at he,by simp,by unfold scanBound;decide,rfl,?_⟩,List.nodup_nil,fun x=>by simp,az _⟩
    ·refine Gm (W _ _ (by simpa using hh) rfl) s.heap.objs.size S5 val BK hb (n0:=s.toks) (BN _ (by simpa using hh)) (n-0) 0 _ rfl (cx _) (az _) st m0 fun g tk kY hM kp=>?_
     refine ay (ay ⟨rfl,g,tk,rfl,kY,hM,fun b o e=>kp b o (bf (aJ e)) (fun hbm=>?_) (aw _ (aw _ e))⟩)
     rw[a8]at hbm
     exact absurd (aJ e) (by rw[hbm];exact i_.mpr (bt _))
    ·refine⟨⟨?_,.inl rfl⟩,fun x t hx=>by simp at hx⟩
     show uC w=true\/(!uC w)=true
     cases uC w<;>simp
   ·cases r₂ with
    |error e=>exact hr₂
    |ok fl₂=>
     cases fl₂ with
     |ret r=>
      obtain⟨rfl,g,tk,rfl,kY,hM,kp⟩:=hr₂
      repeat(any_goals (first|assumption|wp_step))
      exact q g tk kY hM kp
     |_=>exact hr₂.elim
  |_=>exact hr.elim
end
theorem qB:∀{l:List α} {i:Nat} (h:i<l.length),(l[i]::l.eraseIdx i).Perm l
 |x::r,0,_=>ig _
 |x::r,i+1,h=>(List.Perm.swap x (r[i]'(by simpa using h)) (r.eraseIdx i)).trans ((qB (l:=r) (i:=i) (by simpa using h)).cons x)
section
theorem wU{VF:Source}{Q:Nat->Shared->Prop}(hn:n≠0)(h:∀i,i<n->∀d,Q i { s with drawn:=d }):wpAny M A (choose VF n) Q E s:=fun _ _ _=>⟨hn,h _ (Nat.mod_lt _ (Nat.pos_of_ne_zero hn)) _⟩
theorem As:∀(n:Nat) (xs:List α) (s:Shared) (Q:List α->Shared->Prop),xs.length=n->(∀ys,ys.Perm xs->∀d,Q ys { s with drawn:=d })->wpAny M A (drawOrder n xs) Q E s
 |0,xs,s,Q,hl,h=>by
  have e:xs=[]:=gC hl
  subst e
  unfold drawOrder
  exact ay (h [] (ig _) s.drawn)
 |n+1,[],s,Q,hl,h=>by simp at hl
 |n+1,x::r,s,Q,hl,h=>by
  unfold drawOrder
  refine af (wU #[15] fun i hi d=>?_)
  have e:(x::r)[i]?=some (x::r)[i]:=aj hi
  rw[e]
  dsimp only
  refine af (As n ((x::r).eraseIdx i) _ _ (by rw[List.length_eraseIdx,aF hi];simp at hl ⊢;omega) fun ys hp d'=>ay (h _ ?_ d'))
  exact(List.Perm.cons _ hp).trans (qB hi)
theorem DE(next:Nat->Nat):∀(Lb k:Nat) (BU:List α) (out:Array α),BU.length=Lb->(pickOrder.go next Lb k BU out).toList.Perm (out.toList++BU)
 |0,k,BU,out,h=>by
  have e:BU=[]:=gC h
  subst e
  unfold pickOrder.go
  simp
 |Lb+1,k,BU,out,h=>by
  have hlt:next k%BU.length<BU.length:=Nat.mod_lt _ #[0]
  unfold pickOrder.go
  rw[aj hlt]
  dsimp only
  refine(DE next Lb (k+1) _ _ (by rw[List.length_eraseIdx,aF hlt];omega)).trans ?_
  rw[l7,al]
  exact om _ (qB hlt)
theorem EL(next:Nat->Nat)(xs:Array α):(pickOrder next xs).toList.Perm xs.toList:=by
 unfold pickOrder
 have:=DE next xs.size 0 xs.toList #[] #[15]
 simpa using this
end
abbrev qh(f:Value)(i:Int)(S:Addr)(n ep:Nat):Obj:={ cls:=.type "set_iterator",dict:=none,data:=.fields #[f,rawInt i,.ref S,rawInt n,rawInt ep],slots:=#[] }
section
variable{w:World}
theorem vp{Q:Fin->Shared->Prop}(hh:A.handled=none)(q:∀g e,(∀b o,s.heap.get? b=some o->g.get? b=some o)->(∃o,g.get? e=some o/\o.cls=.type "StopIteration")->E (.ref e) { s with heap:=g }) :
  wpAny #[8] A (do let x <- newExc (.type "StopIteration") [];raiseNew x) Q E s:=by
 refine af ?_
 simp only[newExc,newTuple]
 refine af (cC (af (m:=firstArgMember _ _) (wpAny_of_eq (a:=Value.none) (by first|rfl|(simp only[firstArgMember];rfl)) (cC ?_ (by size_fits)))) (by size_fits))
 simp only[raiseNew]
 refine af (wpAny_handled ?_)
 rw[hh]
 exact af (ay (wpAny_throw (q _ _ (fun b o e=>aw _ (aw _ e)) ⟨_,aC _ rfl,rfl⟩)))
structure jF(w:World)(h:Heap)(S:Addr)(es:Array (Int×Value))(ep:Nat)(t:SetTable):Prop where
 ex:∃o,h.get? S=some o/\o.ExactSet/\o.data=.set es ep t
 fits:t.fits es.size=true
theorem jF.keep{S:Addr}{es:Array (Int×Value)}{t:SetTable}(z:jF w h S es ep t)(k:∀o,h.get? S=some o->h'.get? S=some o):jF w h' S es ep t:=⟨let ⟨o,ho,r⟩:=z.ex;⟨o,k o ho,r⟩,z.fits⟩
theorem EM{S p:Addr}{k:Nat}{es:Array (Int×Value)}{t:SetTable}{pv:Array Value}{pn:Nat}{x:Int×Value}{Q:Option Value->Shared->Prop}(pz:s.heap.get? it=some (qh (.ref p) i S n ep))(hS:jF w s.heap S es ep t)(hn:es.size=n)
  (hp:∃o,s.heap.get? p=some o/\o.cls=.type "tuple"/\o.data=.seq pv pn) (hk:pv[i]?=some (rawInt k)) (hx:es[k]?=some x)
  (q:∀g,g.get? it=some (qh (.ref p) ((i:Int)+1) S n ep)->Heap.SameBut it s.heap g->Q (some x.2) { s with heap:=g }):wpAny #[8] A (pyNext (.ref it)) Q E s:=by
 obtain⟨o,ho,Aa,hd⟩:=hS.ex
 obtain⟨op,hop,hcp,hdp⟩:=hp
 have T:Shared.TypeIs s (.ref it) "set_iterator":=⟨_,pz,rfl⟩
 unfold pyNext
 refine af (gX (bT (name:=Str.ofString "__next__") T eU (b_ eU T lU ?_ (lV _))))
 show wpAny _ _ (fieldsOf (.ref it) >>= _) _ _ s
 refine af (lI pz rfl ?_)
 dsimp only
 refine af (gk ho hd hS.fits ?_)
 rw[aO (by rw[hn];simp)]
 refine af (eu hop hdp ?_)
 simp only[bX,hk]
 unfold setNextDrawn
 refine af (af (f9 ho hd hS.fits ?_))
 dsimp only
 rw[aO #[15],bX,hx]
 refine ay (af (cE pz #[15] fun g e1 e2=>ay ⟨_,rfl,ay (q g (by simpa using e1) e2)⟩))
theorem wV{S p:Addr}{es:Array (Int×Value)}{t:SetTable}{pv:Array Value}{pn:Nat}{Q:Option Value->Shared->Prop}(hh:A.handled=none)(pz:s.heap.get? it=some (qh (.ref p) i S n ep))(hS:jF w s.heap S es ep t)(hn:es.size=n)
  (hp:∃o,s.heap.get? p=some o/\o.cls=.type "tuple"/\o.data=.seq pv pn) (hk:pv[i]?=none)
  (q:∀g,(∀b o,b≠it->s.heap.get? b=some o->g.get? b=some o)->Q none { s with heap:=g }):wpAny #[8] A (pyNext (.ref it)) Q E s:=by
 obtain⟨o,ho,Aa,hd⟩:=hS.ex
 obtain⟨op,hop,hcp,hdp⟩:=hp
 have T:Shared.TypeIs s (.ref it) "set_iterator":=⟨_,pz,rfl⟩
 unfold pyNext
 refine af (gX (bT (name:=Str.ofString "__next__") T eU (b_ eU T lU ?_ (lV _))))
 show wpAny _ _ (fieldsOf (.ref it) >>= _) _ _ s
 refine af (lI pz rfl ?_)
 dsimp only
 refine af (gk ho hd hS.fits ?_)
 rw[aO (by rw[hn];simp)]
 refine af (eu hop hdp ?_)
 simp only[bX,hk]
 refine af (cE pz #[15] fun g e1 e2=>af (cE e1 #[15] fun g2 e3 e4=>vp (s:={ s with heap:=g2 }) (show A.in1.handled=none from hh) fun g3 e kp hx=>?_))
 obtain⟨ox,hox,hcx⟩:=hx
 refine af (gs (T:="StopIteration") (b:=true) ⟨ox,hox,hcx⟩ lH (ay (q g3 fun b o hb e=>kp b o ?_)))
 exact e4.extBut b o hb (e2.extBut b o hb e)
theorem Gn{S:Addr}{sl sl':Nat}{es:Array (Int×Value)}{t:SetTable}{x:Value}{Q:Option Value->Shared->Prop}(pz:s.heap.get? it=some (qh (rawInt sl) i S n ep))(hS:jF w s.heap S es ep t)(hn:es.size=n)
  (hx:∀(Q':Option (Value×Nat)->Shared->Prop) (E':Value->Shared->Prop),Q' (some (x,sl')) s->wpAny #[8] A.in1 (setNext S sl i ep) Q' E' s)
  (q:∀g,g.get? it=some (qh (rawInt sl') ((i:Int)+1) S n ep)->Heap.SameBut it s.heap g->Q (some x) { s with heap:=g }):wpAny #[8] A (pyNext (.ref it)) Q E s:=by
 obtain⟨o,ho,Aa,hd⟩:=hS.ex
 have T:Shared.TypeIs s (.ref it) "set_iterator":=⟨_,pz,rfl⟩
 unfold pyNext
 refine af (gX (bT (name:=Str.ofString "__next__") T eU (b_ eU T lU ?_ (lV _))))
 show wpAny _ _ (fieldsOf (.ref it) >>= _) _ _ s
 refine af (lI pz rfl ?_)
 dsimp only
 refine af (gk ho hd hS.fits ?_)
 rw[aO (by rw[hn];simp)]
 show wpAny _ _ (setNext S (sl:Int).toNat (i:Int).toNat (ep:Int).toNat >>= _) _ _ s
 simp only[bX]
 refine af (hx _ _ ?_)
 dsimp only
 refine af (cE pz #[15] fun g e1 e2=>af (cE e1 #[15] fun g2 e3 e4=>ay ⟨_,rfl,ay (q g2 (by simpa using e3) (e2.trans e4))⟩))
theorem yN{S:Addr}{sl:Nat}{es:Array (Int×Value)}{t:SetTable}{Q:Option Value->Shared->Prop}(hh:A.handled=none)(pz:s.heap.get? it=some (qh (rawInt sl) i S n ep))(hS:jF w s.heap S es ep t)(hn:es.size=n)
  (hx:∀(Q':Option (Value×Nat)->Shared->Prop) (E':Value->Shared->Prop),Q' none s->wpAny #[8] A.in1 (setNext S sl i ep) Q' E' s)
  (q:∀g,(∀b o,b≠it->s.heap.get? b=some o->g.get? b=some o)->Q none { s with heap:=g }):wpAny #[8] A (pyNext (.ref it)) Q E s:=by
 obtain⟨o,ho,Aa,hd⟩:=hS.ex
 have T:Shared.TypeIs s (.ref it) "set_iterator":=⟨_,pz,rfl⟩
 unfold pyNext
 refine af (gX (bT (name:=Str.ofString "__next__") T eU (b_ eU T lU ?_ (lV _))))
 show wpAny _ _ (fieldsOf (.ref it) >>= _) _ _ s
 refine af (lI pz rfl ?_)
 dsimp only
 refine af (gk ho hd hS.fits ?_)
 rw[aO (by rw[hn];simp)]
 show wpAny _ _ (setNext S (sl:Int).toNat (i:Int).toNat (ep:Int).toNat >>= _) _ _ s
 simp only[bX]
 refine af (hx _ _ ?_)
 dsimp only
 refine af (cE pz #[15] fun g e1 e2=>vp (s:={ s with heap:=g }) (show A.in1.handled=none from hh) fun g3 e kp hx=>?_)
 obtain⟨ox,hox,hcx⟩:=hx
 exact af (gs (T:="StopIteration") (b:=true) ⟨ox,hox,hcx⟩ lH (ay (q g3 fun b o hb e=>kp b o (e2.extBut b o hb e))))
end
theorem t_:Slot "set_iterator" "__iter__" "set_iterator.__iter__":=.of (owner:="set_iterator") (n:="__iter__") (by rw[typeLookup_type,ol];kernel_rfl) (by decide +kernel) (by decide +kernel) (by decide +kernel) (by first|exact .inl (by decide +kernel)|exact .inr (by decide +kernel)) (by rw[eD];kernel_rfl)
theorem Au(a:Value):argsOk "set_iterator.__iter__" ⟨[a],[]⟩:=by unfold argsOk;kernel_rfl
theorem Av:entryFor table "set_iterator.__iter__"=some Builtin.«dict_keyiterator.__iter__»:=entryFor_alias (id':="dict_keyiterator.__iter__") (by kernel_rfl) (by first|rfl|decide +kernel|(unfold String.splitOn;simp +decide [String.splitOnAux])) (by decide +kernel) (by kernel_rfl)
section
variable{w:World}
theorem Aw{S:Addr}{f:Value}{i:Int}(pz:s.heap.get? it=some (qh f i S n ep))(q:Q (.ref it) s):wpAny #[8] A (pyIter (.ref it)) Q E s:=by
 have T:Shared.TypeIs s (.ref it) "set_iterator":=⟨_,pz,rfl⟩
 exact wpAny_pyIter_slot T t_ (b_ t_ T Av (ay ⟨_,rfl,"set_iterator",_,T,eU.lookup,q⟩) (Au _))
theorem Cj(hh:A.handled=none){S p:Addr}{ep:Nat}{es:Array (Int×Value)}{t:SetTable}{pl:List Nat}(qe:pl.Perm (List.range n))(hn:es.size=n)(h1:it≠S)(h2:it≠p) :
  Walks prog w A it [it,p,S] [it] n (fun i v=>∃k x,pl[i]?=some k/\es[k]?=some x/\v=x.2) (fun i h=>i<=n/\h.get? it=some (qh (.ref p) i S n ep)/\(∃o,h.get? p=some o/\o.cls=.type "tuple"/\∃e,o.data=.seq (pl.map fun k:Nat=>rawInt k).toArray e)/\jF w h S es ep t) where
 sub:=fun b hb=>by simp at hb;simp[hb]
 frame:=fun i h h' st k=>⟨st.1,k it #[15] _ st.2.1,(let ⟨o,ho,r⟩:=st.2.2.1;⟨o,k p #[15] o ho,r⟩),st.2.2.2.keep fun o ho=>k S #[15] o ho⟩
 item:=fun i s Q E hi st q=>by
  obtain⟨_,pz,⟨op,hop,hcp,e,hdp⟩,hS⟩:=st
  have hl:pl.length=n:=by have:=qe.length_eq;simpa using this
  have hk:pl[i]?=some pl[i]:=aj #[0]
  have hkn:pl[i]<es.size:=by rw[hn];exact lr.mp (qe.mem_iff.mp (dR #[0]))
  refine EM pz hS hn ⟨op,hop,hcp,hdp⟩ (k:=pl[i]) (x:=es[pl[i]]) (by simp[hk]) (by simp[hkn]) fun g a b=>q _ g s.toks ⟨pl[i],es[pl[i]],hk,by simp[hkn],rfl⟩ ⟨hi,?_,⟨op,b.extBut p op (Ne.symm h2) hop,hcp,e,hdp⟩,hS.keep fun o ho=>b.extBut S o (Ne.symm h1) ho⟩ fun c o hc ho=>b.extBut c o (fun z=>hc (by simp[z])) ho
  rw[a];rfl
 done:=fun s Q E st q=>by
  obtain⟨_,pz,⟨op,hop,hcp,e,hdp⟩,hS⟩:=st
  have hl:pl.length=n:=by have:=qe.length_eq;simpa using this
  exact wV hh pz hS hn ⟨op,hop,hcp,hdp⟩ (by simp[hl]) fun g kp=>q g s.toks fun c o hc ho=>kp c o (fun z=>hc (by simp[z])) ho
 self:=fun i s Q E st q=>Aw st.2.1 q
theorem EN(hh:A.handled=none){S:Addr}{ep:Nat}{es:Array (Int×Value)}{t:SetTable}{vs:List Value}{sl:Nat->Nat}(hv:vs.length=n)(hn:es.size=n)(h1:it≠S)
  (hx:∀(s:Shared) (i:Nat),jF w s.heap S es ep t->i<=n->∀(A:Around) (Q':Option (Value×Nat)->Shared->Prop) (E':Value->Shared->Prop),Q' ((vs[i]?).map fun v=>(v,sl (i+1))) s->wpAny #[8] A (setNext S (sl i) i ep) Q' E' s) :
  Walks prog w A it [it,S] [it] n (fun i v=>vs[i]?=some v) (fun i h=>i<=n/\h.get? it=some (qh (rawInt (sl i)) i S n ep)/\jF w h S es ep t) where
 sub:=fun b hb=>by simp at hb;simp[hb]
 frame:=fun i h h' st k=>⟨st.1,k it #[15] _ st.2.1,st.2.2.keep fun o ho=>k S #[15] o ho⟩
 item:=fun i s Q E hi st q=>by
  obtain⟨_,pz,hS⟩:=st
  have hk:vs[i]?=some vs[i]:=aj #[0]
  refine Gn (x:=vs[i]) (sl':=sl (i+1)) pz hS hn (fun Q' E' y=>hx s i hS (fZ hi) _ Q' E' (by rw[hk];exact y)) fun g a b=>q _ g s.toks hk ⟨hi,?_,hS.keep fun o ho=>b.extBut S o (Ne.symm h1) ho⟩ fun c o hc ho=>b.extBut c o (fun z=>hc (by simp[z])) ho
  rw[a];rfl
 done:=fun s Q E st q=>by
  obtain⟨_,pz,hS⟩:=st
  have hk:vs[n]?=none:=cn #[0]
  exact yN hh pz hS hn (fun Q' E' y=>hx s n hS (az _) _ Q' E' (by rw[hk];exact y)) fun g kp=>q g s.toks fun c o hc ho=>kp c o (fun z=>hc (by simp[z])) ho
 self:=fun i s Q E st q=>Aw st.2.1 q
end
section
variable{w:World}
theorem pS{Q:Bool->Shared->Prop}(q:Q (uC w) s):wpAny #[8] A setsByText Q E s:=by
 unfold setsByText
 exact af (mR (ay q))
theorem EO{S:Addr}{es:Array (Int×Value)}{t:SetTable}{Q:Option (Value×Nat)->Shared->Prop}(hb:uC w=true)(hS:jF w s.heap S es ep t)
  (q:Q ((((pickOrder (w.params.setOrder S ep) es).toList.map (·.2))[i]?).map fun v=>(v,0)) s):wpAny #[8] A (setNext S 0 i ep) Q E s:=by
 obtain⟨o,ho,Aa,hd⟩:=hS.ex
 unfold setNext
 refine af (f9 ho hd hS.fits ?_)
 dsimp only
 refine af (pS ?_)
 rw[hb,aF rfl,aO #[15]]
 unfold setWalk
 refine af (af (f9 ho hd hS.fits ?_))
 dsimp only
 refine af (pS ?_)
 rw[hb,aF rfl]
 refine af (mR (ay (ay ?_)))
 have e:((pickOrder (w.params.setOrder S ep) es)[i]?).map (fun e=>(e.2,0))=(((pickOrder (w.params.setOrder S ep) es).toList.map (·.2))[i]?).map fun v=>(v,0):=by
  rw[aI,fN,Option.map_map];rfl
 show Q (((pickOrder (w.params.setOrder S ep) es)[i]?).map fun e=>(e.2,0)) s
 rw[e];exact q
theorem xJ(p:Nat):SetTable.below #[p] 0=0/\SetTable.below #[p] (p+1)=1:=by
 unfold SetTable.below
 constructor
 ·simp[SetTable.below.go]
 ·simp[SetTable.below.go]
theorem Gp{S:Addr}{es:Array (Int×Value)}{t:SetTable}{Q:Option (Value×Nat)->Shared->Prop}(hb:uC w=false)(hS:jF w s.heap S es ep t)(PX:t.led=true)(h1:es.size<=1)(hi:i<=es.size)
  (q:Q (((es.toList.map (·.2))[i]?).map fun v=>(v,if i+1=0 then 0 else t.place.getD 0 0+1)) s):wpAny #[8] A (setNext S (if i=0 then 0 else t.place.getD 0 0+1) i ep) Q E s:=by
 obtain⟨o,ho,Aa,hd⟩:=hS.ex
 have hf:=hS.fits
 have hps:t.place.size=es.size:=by
  unfold SetTable.fits at hf
  simp only[dA,c_]at hf
  exact hf.1
 unfold setNext
 refine af (f9 ho hd hS.fits ?_)
 dsimp only
 refine af (pS ?_)
 rw[hb,aO eQ]
 show wpAny _ _ (if (!t.plain&&decide (es.size>1))=true then _ else _) _ _ _
 rw[aO (by simp;omega)]
 show wpAny _ _ ((if (!t.led&&!es.isEmpty)=true then _ else pure ()) >>= _) _ _ _
 rw[aO (by simp[PX])]
 refine af (ay (ay ?_))
 by_cases hz:es.size=0
 ·have e1:es=#[]:=gq hz
  subst e1
  simpa using q
 ·have hs1:es.size=1:=by omega
  obtain⟨x,rfl⟩:∃x,es=#[x]:=by
   obtain⟨l⟩:=es
   obtain⟨x,e⟩:=gI.mp hs1
   exact⟨x,ic Array.mk e⟩
  obtain⟨p,hp⟩:∃p,t.place=#[p]:=by
   generalize t.place=pl at hps
   obtain⟨l⟩:=pl
   obtain⟨x,e⟩:=gI.mp hps
   exact⟨x,ic Array.mk e⟩
  rw[hp]at q ⊢
  rcases(show i=0\/i=1 by simp at hi;omega)with rfl|rfl
  ·simp[xJ]at q ⊢;exact q
  ·simp[xJ]at q ⊢;exact q
end
theorem yO[Inhabited β](f:Nat->β)(xs:List α)(g:α->β)(n:Nat)(hn:xs.length=n)(hf:∀i x,xs[i]?=some x->f i=g x):(List.range n).map f=xs.map g:=by
 apply jz
 intro i
 rw[aI,aI]
 by_cases h:i<n
 ·rw[iK h,aj #[0]]
  exact ic some (hf i _ (aj #[0]))
 ·rw[cn (by simp;omega),cn #[0]];rfl
section
variable{w:World}
theorem Gq{S:Addr}{es:Array (Int×Value)}{t:SetTable}(hS:jF w s.heap S es ep t)(Jz:DD w es.size t)(hsz:es.size<=sizeLine)
  (q:∀(g:Heap) (d:Drawn) (it:Addr) (fp:List Addr) (P:Nat->Value->Prop) (St:Nat->Heap->Prop),(∀A:Around,A.handled=none->Walks prog w A it fp [it] es.size P St)->St 0 g->s.heap.objs.size<=it->(∀b∈fp,b=S\/s.heap.objs.size<=b)->(∀b∈fp,b<g.objs.size)->(∀b o,s.heap.get? b=some o->g.get? b=some o) ->
   (∀iT,ItemsOf P iT es.size->iT.toList.Perm (es.toList.map (·.2)))->Q (.ref it) { s with heap:=g,drawn:=d }):wpAny #[8] A (pyIter (.ref S)) Q E s:=by
 obtain⟨o,ho,Aa,hd⟩:=hS.ex
 have T:Shared.TypeIs s (.ref S) "set":=⟨o,ho,Aa.1⟩
 have hSlt:=aJ ho
 refine wpAny_pyIter_slot T PySem.F.slot_set_iter (b_ PySem.F.slot_set_iter T Ao ?_ (PySem.F.args_set_iter_1 _))
 show wpAny _ _ (Builtin.Frozenset.sizeOf S >>= _) _ _ s
 unfold Builtin.Frozenset.sizeOf
 refine af (af (gk ho hd hS.fits (ay ?_)))
 unfold setDrawn
 refine af (af (f9 ho hd hS.fits ?_))
 dsimp only
 refine af (pS (ay ?_))
 by_cases hdr:(!uC w&&(!t.plain&&decide (es.size>1)))=true
 ·show wpAny _ _ (if (!uC w&&(!t.plain&&decide (es.size>1)))=true then _ else _) _ _ _
  rw[aF hdr]
  refine af (As es.size (List.range es.size) _ _ #[15] fun pl hp d=>?_)
  have hl:pl.length=es.size:=by have:=hp.length_eq;simpa using this
  refine af (wpAny_newTuple ?_ (by rw[aD,hl];exact hsz))
  have hS1:jF w (s.heap.push { cls:=.type "tuple",data:=.seq (pl.map fun i:Nat=>rawInt i).toArray }) S es ep t:=hS.keep fun o e=>aw _ e
  obtain⟨o1,ho1,_,hd1⟩:=hS1.ex
  refine af (wpAny_setEpoch_of (s:={ s with heap:=s.heap.push { cls:=.type "tuple",data:=.seq (pl.map fun i:Nat=>rawInt i).toArray },drawn:=d }) ho1 hd1 hS.fits ?_)
  refine af (cC (ay ⟨_,rfl,"set_iterator",_,⟨_,aC _ rfl,rfl⟩,eU.lookup,?_⟩))
  have z:(s.heap.push { cls:=.type "tuple",data:=.seq (pl.map fun i:Nat=>rawInt i).toArray }).objs.size=s.heap.objs.size+1:=bx ..
  refine q _ d _ [_,s.heap.objs.size,S] _ _ (fun A hA=>Cj (p:=s.heap.objs.size) (t:=t) (ep:=ep) hA hp rfl ?_ ?_) ⟨cx _,aC _ rfl,⟨_,aw _ (aC _ rfl),rfl,0,rfl⟩,hS1.keep fun o e=>aw _ e⟩ ?_ (fun b hb=>?_) (fun b hb=>?_) (fun b o e=>aw _ (aw _ e)) fun iT hacc=>?_
  ·rw[z];exact et (cU hSlt)
  ·rw[z];exact Nat.succ_ne_self _
  ·rw[z];exact bt _
  ·simp only[aT,gu,pJ]at hb
   rcases hb with rfl|rfl|rfl
   ·rw[z];exact .inr (bt _)
   ·exact .inr (az _)
   ·exact .inl rfl
  ·simp only[aT,gu,pJ]at hb
   have z2:∀o2,((s.heap.push { cls:=.type "tuple",data:=.seq (pl.map fun i:Nat=>rawInt i).toArray }).push o2).objs.size=s.heap.objs.size+2:=fun o2=>by rw[bx,z]
   rw[z2]
   rcases hb with rfl|rfl|rfl
   ·rw[z];exact b9 _
   ·exact cU (b9 _)
   ·exact cU (cU hSlt)
  ·have e:iT.toList=pl.map fun k=>(es.getD k (0,.none)).2:=by
    apply jz
    intro i
    rw[aI]
    by_cases hi:i<es.size
    ·have hia:i<iT.size:=by rw[hacc.1];exact hi
     have ha:iT[i]?=some (iT[i]'hia):=eN hia
     obtain⟨k,x,h1,h2,h3⟩:=hacc.2 i _ ha
     rw[fN,ha,h1]
     have:es.getD k (0,.none)=x:=by rw[kU,h2];rfl
     rw[h3]
     show some x.2=some (es.getD k (0,.none)).2
     rw[this]
    ·rw[cn (by rw[eF,hacc.1];omega),cn #[0]];rfl
   rw[e]
   refine(hp.map _).trans (List.Perm.of_eq ?_)
   exact yO _ es.toList (·.2) es.size #[15] fun i x hx=>by
    have hx':es[i]?=some x:=by rw[<- fN];exact hx
    rw[kU,hx'];rfl
 ·show wpAny _ _ (if (!uC w&&(!t.plain&&decide (es.size>1)))=true then _ else _) _ _ _
  rw[aO hdr]
  refine af (ay (af (wpAny_setEpoch_of ho hd hS.fits ?_)))
  refine af (cC (ay ⟨_,rfl,"set_iterator",_,⟨_,aC _ rfl,rfl⟩,eU.lookup,?_⟩))
  have kL:∀(vs:List Value) (sl:Nat->Nat),sl 0=0->vs.Perm (es.toList.map (·.2))->(∀(s:Shared) (i:Nat),jF w s.heap S es ep t->i<=es.size->∀(A:Around) (Q':Option (Value×Nat)->Shared->Prop) (E':Value->Shared->Prop),Q' ((vs[i]?).map fun v=>(v,sl (i+1))) s->wpAny #[8] A (setNext S (sl i) i ep) Q' E' s) ->
    Q (.ref s.heap.objs.size) { s with heap:=s.heap.push (qh (rawInt 0) 0 S es.size ep) }:=fun vs sl h0 hp hx=>by
   have hl:vs.length=es.size:=by have:=hp.length_eq;simpa using this
   refine q _ s.drawn s.heap.objs.size [s.heap.objs.size,S] _ _ (fun A hA=>EN (t:=t) (ep:=ep) (vs:=vs) (sl:=sl) hA hl rfl (et hSlt) hx) ⟨cx _,?_,hS.keep fun o e=>aw _ e⟩ (az _) (fun b hb=>?_) (fun b hb=>?_) (fun b o e=>aw _ e) fun iT hacc=>?_
   ·rw[h0];exact aC _ rfl
   ·simp only[aT,gu,pJ]at hb
    rcases hb with rfl|rfl
    ·exact .inr (az _)
    ·exact .inl rfl
   ·simp only[aT,gu,pJ]at hb
    rw[bx]
    rcases hb with rfl|rfl
    ·exact b9 _
    ·exact cU hSlt
   ·have e:iT.toList=vs:=by
     apply jz
     intro i
     by_cases hi:i<es.size
     ·have hia:i<iT.size:=by rw[hacc.1];exact hi
      have ha:iT[i]?=some (iT[i]'hia):=eN hia
      rw[fN,ha,hacc.2 i _ ha]
     ·rw[cn (by rw[eF,hacc.1];omega),cn #[0]]
    rw[e];exact hp
  cases hb:uC w with
  |true=>exact kL ((pickOrder (w.params.setOrder S ep) es).toList.map (·.2)) (fun _=>0) rfl ((EL _ _).map _) fun s i hS' hi A Q' E' y=>EO hb hS' y
  |false=>
   have h1:es.size<=1:=by
    rcases Jz.2 with z|z
    ·omega
    ·rw[hb,z]at hdr;simp at hdr;omega
   have PX:t.led=true:=Jz.1.resolve_left (by rw[hb];exact eQ)
   exact kL (es.toList.map (·.2)) (fun i=>if i=0 then 0 else t.place.getD 0 0+1) rfl (ig _) fun s i hS' hi A Q' E' y=>Gp hb hS' PX h1 hi y
end
section
variable{w:World}
theorem Gs{S:Addr}{Q:Bool->Shared->Prop}(T:s.TypeIs (.ref S) "set")(q:Q false s):wpAny #[8] A (Builtin.List.listLengthHint (.ref S)) Q E s:=by
 unfold Builtin.List.listLengthHint
 refine af (wpAny_specialOf T PySem.F.slot_set_len.lookup ?_)
 generalize hid:("set.__len__":String)=id0
 wp_delta
 rw[show splitId id0=some ("set","__len__")from by subst hid;decide +kernel]
 subst hid
 refine af (gs (T:="set") (b:=true) T (by rw[eD];kernel_rfl) ?_)
 refine nY (fun y=>absurd y #[13]) (fun _=>nY (fun _=>?_) (fun y=>absurd (by decide +kernel) y))
 exact af (iy T (ay q))
theorem Ax{S:Addr}{es:Array (Int×Value)}{t:SetTable}{Q:List Value->Shared->Prop}(hS:jF w s.heap S es ep t)(Jz:DD w es.size t)(hsz:es.size<=sizeLine)(hh:A.handled=none)
  (q:∀(g:Heap) (d:Drawn) (tk:Nat) (vs:List Value),(∀b o,s.heap.get? b=some o->g.get? b=some o)->vs.Perm (es.toList.map (·.2))->Q vs { s with heap:=g,drawn:=d,toks:=tk }):wpAny #[8] A (collect (.ref S)) Q E s:=by
 obtain⟨o,ho,Aa,hd⟩:=hS.ex
 have hSlt:=aJ ho
 unfold collect
 refine af (pI (dN entry_proto_collect' ?_))
 rw[cX PySem.F.plain_proto_collect _]
 show wpAny _ A.in1 (newList [] >>= fun l=>again (.builtin "list.__iadd__" ⟨[l,.ref S],[]⟩)) _ _ s
 refine af (cC (ay ⟨fv PySem.F.plain_list_iadd _,dN entry_list_iadd' ?_⟩))
 rw[cX PySem.F.plain_list_iadd _]
 generalize hL:s.heap.objs.size=L
 have gL:(s.heap.push { cls:=.type "list",data:=.seq ([]:List Value).toArray }).get? L=some { cls:=.type "list",data:=.seq #[] }:=by rw[<- hL];exact aC _ rfl
 have hS1:jF w (s.heap.push { cls:=.type "list",data:=.seq ([]:List Value).toArray }) S es ep t:=hS.keep fun o e=>aw _ e
 have z1:(s.heap.push { cls:=.type "list",data:=.seq ([]:List Value).toArray }).objs.size=L+1:=by rw[bx,hL]
 have kp1:∀b o,s.heap.get? b=some o->(s.heap.push { cls:=.type "list",data:=.seq ([]:List Value).toArray }).get? b=some o:=fun b o e=>aw _ e
 have bL:∀b o,s.heap.get? b=some o->b≠L:=fun b o e=>by rw[<- hL];exact bf (aJ e)
 generalize s.heap.push { cls:=.type "list",data:=.seq ([]:List Value).toArray }=h1 at gL hS1 z1 kp1 ⊢
 have z9:L≠S:=by rw[<- hL];exact et hSlt
 obtain⟨o1,ho1,hex1,hd1⟩:=hS1.ex
 have T:Shared.TypeIs { s with heap:=h1 } (.ref S) "set":=⟨o1,ho1,hex1.1⟩
 show wpAny _ A.in1 (Builtin.List.listExtendWith (.ref L) (.ref S) (.ref L)) _ _ _
 unfold Builtin.List.listExtendWith
 refine af (iy (T:="set") T ?_)
 have e1:Builtin.List.listSameRef (.ref L) (.ref S)=false:=by simp[Builtin.List.listSameRef,z9]
 have e2:(Value.type "set" == Value.type "list")=false:=by decide
 have e3:(Value.type "set" == Value.type "tuple")=false:=by decide
 simp only[e1,e2,e3,mv,fJ,ke]
 refine af (Gq (s:={ s with heap:=h1 }) hS1 Jz hsz fun g d it fp P St W st pz S5 hfl kp2 hperm=>?_)
 have gL2:=kp2 _ _ gL
 have hLf:L∉fp:=fun hm=>by
  rcases S5 L hm with y|y
  ·exact z9 y
  ·rw[show Shared.heap { s with heap:=h1 }=h1 from rfl,z1]at y;exact absurd y (Nat.not_le.mpr (b9 _))
 obtain⟨o2,ho2,hex2,hd2⟩:=(hS1.keep fun o e=>kp2 S o e).ex
 refine af (dm (Gs (s:={ s with heap:=g,drawn:=d }) ⟨o2,ho2,hex2.1⟩ ?_))
 have itL:it≠L:=fun y=>by
  have:=pz
  rw[show Shared.heap { s with heap:=h1 }=h1 from rfl,z1,y]at this
  exact absurd this (Nat.not_le.mpr (b9 _))
 have old:∀b o,s.heap.get? b=some o->b≠it:=fun b o e y=>by
  have h2:=aJ (kp1 b o e)
  have h3:=pz
  rw[show Shared.heap { s with heap:=h1 }=h1 from rfl]at h3
  rw[y]at h2
  exact absurd h2 (i_.mpr h3)
 have key:∀(g':Heap) (c tk:Nat),St 0 g'->(∀b o,b≠L->g.get? b=some o->g'.get? b=some o)->g'.get? L=some { cls:=.type "list",data:=.seq #[] c } ->
   codeAny #[8] A (.builtin "list.extend.loop" ⟨[.ref L,.ref it,.ref L],[]⟩) (wants (fun r s'=>wpAny #[8] A (match r with|.ref a=>(do match (<- load a).data with|.seq xs _=>pure xs.toList|_=>unsupported "internal:collect")|_=>unsupported "internal:collect") Q E s') E) { s with heap:=g',drawn:=d,toks:=tk }:=by
  intro g' c tk bp kp3 gL3
  refine codeAny_extend_loopS (W A.in1 (by simpa using hh)).toS hsz L hLf (.ref L) es.size 0 _ #[] c rfl (cx _) bp gL3 (ItemsOf.nil _) fun s' iT c' hm gL4 hacc=>?_
  have ee:s'={ s with heap:=s'.heap,drawn:=d,toks:=s'.toks }:=by
   have h1:=hm.gens
   have h2:=hm.drawn
   have h3:=hm.os
   cases s'
   simp only at h1 h2 h3
   subst h1;subst h2;subst h3;rfl
  refine af (wpAny_load gL4 (ay ?_))
  rw[ee]
  refine q s'.heap d s'.toks iT.toList (fun b o e=>hm.heap b o (fun y=>?_) (kp3 b o (bL b o e) (kp2 b o (kp1 b o e)))) (hperm iT hacc)
  rcases aT.mp y with y|y
  ·exact bL b o e y
  ·exact old b o e (a8.mp y)
 refine nY (fun _=>?_) (fun _=>ay ⟨fv PySem.F.plain_extend_loop _,key g 0 _ st (fun _ _ _ e=>e) gL2⟩)
 refine af (jU (af ?_))
 show wpAny _ _ (updateSeq L (·.push .none) >>= fun _=>updateSeq L (·.pop)) _ _ _
 refine af (nZ gL2 rfl ?_)
 have g5:=dI (Obj.mapSeq (·.push Value.none)) gL2 rfl
 refine nZ (hz:=by seq_fits) g5 rfl ?_
 have g6:=dI (Obj.mapSeq (·.pop)) g5 rfl
 refine ay ⟨fv PySem.F.plain_extend_loop _,key _ _ _ ((W A hh).frame 0 _ _ st fun b hb o e=>?_) (fun b o hb e=>?_) g6⟩
 ·have hbL:b≠L:=fun y=>hLf (y▸hb)
  exact(cK _ _ (Ne.symm hbL)).trans ((cK _ _ (Ne.symm hbL)).trans e)
 ·exact(cK _ _ (Ne.symm hb)).trans ((cK _ _ (Ne.symm hb)).trans e)
end
end L2
namespace L2
open PySem PySem.Spec PyProof.Rows
section
variable{w:World}
theorem Ck{S:Addr}(z:vo prog w n s.heap S ks)(few:ks.length<64)(hh:A.handled=none)
  (q:∀(g0 g1:Heap) (d:Drawn) (tk:Nat) (out:Array Value) (ss:List Str) (e:Nat),(∀b o,s.heap.get? b=some o->g0.get? b=some o)->(∀b o,g0.get? b=some o->g1.get? b=some o)->g1.get? g0.objs.size=some (seqObj "list" out e) ->
   iM n out.toList->StrsAre out.toList ss->ss.Perm ks->sortedS ss=true->Q (.ref g0.objs.size) { s with heap:=g1,drawn:=d,toks:=tk }):wpAny #[8] A (call (.builtin "sorted") [.ref S]) Q E s:=by
 obtain⟨o,es,ep,t,ho,Aa,hd,hel,hp,hb,hf,Jz,hta⟩:=z
 have hS:jF w s.heap S es ep t:=⟨⟨o,ho,Aa,hd⟩,hf⟩
 have fY:es.size=ks.length:=by have:=hp.length_eq;simpa using this
 apply lS kind_sorted plain_sorted entry_sorted (args_sorted1 _)
 show wpAny _ _ (checkCount "sorted" 1 1 _ >>= _) _ _ _
 refine af (ay (af (Ax hS Jz (by rw[j'];omega) (by simpa using hh) fun g d tk vs kp pv=>?_)))
 have hv:∀v∈vs,∃x t,v=Value.str x t:=fun v hv=>by
  obtain⟨e,he,rfl⟩:=c5.mp (pv.mem_iff.mp hv)
  obtain⟨t,ht⟩:=Aq hel e he
  exact⟨_,t,ht⟩
 have su:=strsAre_map vs hv
 have hks:(vs.map strOf).Perm ks:=by
  refine(pv.map strOf).trans ?_
  rw[cf];exact hp
 have hvl:vs.length<64:=by have:=hks.length_eq;rw[aD]at this;omega
 refine af (wpAny_newList ?_ (by rw[j'];omega))
 have oL:(g.push (seqObj "list" vs.toArray 0)).get? g.objs.size=some (seqObj "list" vs.toArray 0):=aC _ rfl
 refine af (dm (b_ slot_list_sort ⟨_,oL,rfl⟩ entry_list_sort (list_sort_treeK qw oL su.keysOf (fun a b r e=>sD (by rw[<- e];exact su)) hvl fun st a1 a2=>⟨_,rfl,?_⟩) (args_list_sort _)))
 obtain⟨ss,h1,h2,h3⟩:=pH su a1 a2
 obtain⟨e,he⟩:=sortedHeap_at (out:=(arrOf st).map (·.2)) oL
 refine ay ⟨_,rfl,q g _ d tk _ ss e kp (fun b o hb=>?_) he (fun x t hx=>hta x t (pv.mem_iff.mp (vn a1 _ hx))) h1 (h2.trans hks) h3⟩
 rw[sortedHeap_old (bf (aJ hb)) (by rw[bx];exact cU (aJ hb))]
 exact aw _ hb
abbrev Q0(ty:String)(x:Str)(t:Tok):Obj:={ cls:=.type ty,data:=.fields #[.str x t,.int 0 0] }
theorem Gu{t:Tok}(Fu:0<s.toks)(hh:A.handled=none)(hb:l.length+1<scanBound)
  (q:∀g tk,s.toks<=tk->Ln prog w tk (fun j=>tx [l.getD j 0]) g s.heap.objs.size l.length->(∀b o,s.heap.get? b=some o->g.get? b=some o)->Q (.ref s.heap.objs.size) { s with heap:=g,toks:=tk }):wpAny #[8] A (call (.type "set") [.str (tx l) t]) Q E s:=by
 have z:(s.heap.push (d6 w)).objs.size=s.heap.objs.size+1:=bx ..
 have hn:(tx l).cps.size=l.length:=by simp[tx]
 have BK:∀i v,SignAt (tx l) i v->∃t,v=Value.str (tx [l.getD i 0]) t:=by
  rintro i v ⟨c,u,hc,rfl⟩
  have:l[i]?=some c:=by simpa[tx]using hc
  exact⟨u,by rw[aH,this];rfl⟩
 have hT:Shared.TypeIs { s with heap:=s.heap.push (d6 w) } (.str (tx l) t) "str":=lF _ _ _
 rw[<- hn]at hb q
 cases ha:(tx l).cps.all (· < 128)
 ·refine ma (T:="str") (fp:=fun it=>[it]) (P:=SignAt (tx l)) (St:=fun it i h=>h.IsStrIter it "str_iterator" (tx l) t i) hT (by rw[eD];kernel_rfl) (by rw[eD];kernel_rfl) #[13]
   (fun A E Q y=>l6 ha (by show Q (.ref (s.heap.push (d6 w)).objs.size) _;rw[z];exact y)) (fun A it hA _=>Walks.strWide hA it (tx l) t) #[15] ⟨Q0 "str_iterator" (tx l) t,?_,rfl,rfl⟩ BK hh hb (fun A hA i s' Q E hn hi st q=>by
    obtain⟨c,hx⟩:∃c,(tx l).cps[i]?=some c:=⟨_,eN hi⟩
    refine jy st hx fun h' bp hs=>q _ h' (s'.toks+1) (bt _) (fun x u hx' _=>?_) ⟨c,_,hx,rfl⟩ bp fun b o hb e=>hs.extBut b o (fun z=>hb (by simp[z])) e
    rw[a8]at hx'
    cases hx'
    exact⟨aP Fu hn,b9 _⟩) q
  rw[<- z];exact aC _ rfl
 ·refine ma (T:="str") (fp:=fun it=>[it]) (P:=SignAt (tx l)) (St:=fun it i h=>h.IsStrIter it "str_ascii_iterator" (tx l) t i) hT (by rw[eD];kernel_rfl) (by rw[eD];kernel_rfl) #[13]
   (fun A E Q y=>lG ha (by show Q (.ref (s.heap.push (d6 w)).objs.size) _;rw[z];exact y)) (fun A it hA _=>Walks.strAscii hA it (tx l) t) #[15] ⟨Q0 "str_ascii_iterator" (tx l) t,?_,rfl,rfl⟩ BK hh hb (fun A hA i s' Q E hn hi st q=>by
    obtain⟨c,hx⟩:∃c,(tx l).cps[i]?=some c:=⟨_,eN hi⟩
    refine jg st hx fun h' bp hs=>q _ h' (s'.toks+1) (bt _) (fun x u hx' _=>?_) ⟨c,_,hx,rfl⟩ bp fun b o hb e=>hs.extBut b o (fun z=>hb (by simp[z])) e
    rw[a8]at hx'
    cases hx'
    exact⟨aP Fu hn,b9 _⟩) q
  rw[<- z];exact aC _ rfl
theorem Kf{a:Addr}(hh:A.handled=none)(hb:l.length+1<scanBound)(ht:s.heap.IsTuple a bJ.toArray)(hv:cL s.toks (jm l) bJ)
  (q:∀g tk,s.toks<=tk->Ln prog w tk (fun j=>tx [l.getD j 0]) g s.heap.objs.size l.length->(∀b o,s.heap.get? b=some o->g.get? b=some o)->Q (.ref s.heap.objs.size) { s with heap:=g,toks:=tk }):wpAny #[8] A (call (.type "set") [.ref a]) Q E s:=by
 have z:(s.heap.push (d6 w)).objs.size=s.heap.objs.size+1:=bx ..
 have hn:bJ.toArray.size=l.length:=by have:=hv.length;unfold jm at this;simpa using this.symm
 have ha:a<s.heap.objs.size:=by obtain⟨o,ho,_⟩:=ht;exact aJ ho
 have P4:(s.heap.push (d6 w)).IsTuple a bJ.toArray:=ht.at fun o e=>aw _ e
 have BK:∀i v,bJ.toArray[i]?=some v->∃t,v=Value.str (tx [l.getD i 0]) t:=by
  intro i v hi
  have hi':bJ[i]?=some v:=by simpa using hi
  have hlt:i<l.length:=by
   have:=(au.mp hi').1
   rw[<- hn];simpa using this
  have hx:(jm l)[i]?=some (.str (tx [l.getD i 0])):=by
   unfold jm
   rw[aI,aj hlt,aH,aj hlt];rfl
  obtain⟨u,hu,t,e⟩:=hv.get hx
  rw[hi']at hu
  exact⟨t.1,(bu hu).trans e⟩
 rw[<- hn]at hb q
 refine ma (T:="tuple") (fp:=fun it=>[it,a]) (P:=fun i v=>bJ.toArray[i]?=some v) (St:=fun it i h=>h.IsTupleIter it a i/\h.IsTuple a bJ.toArray) P4.typeIs (by rw[eD];kernel_rfl) (by rw[eD];kernel_rfl) #[13]
  (fun A E Q y=>fI P4 (by show Q (.ref (s.heap.push (d6 w)).objs.size) _;rw[z];exact y)) (fun A it hA e=>Walks.tuple hA it a (by rw[e];exact bf (cU ha)) bJ.toArray) (by simp;exact fun e=>absurd ha (by rw[<- e];exact dL _)) ⟨⟨{ cls:=.type "tuple_iterator",data:=.fields #[.ref a,.int 0 0] },?_,rfl,rfl⟩,?_⟩ BK hh hb (fun A hA i s' Q E hn hi st q=>by
   refine up ((Walks.tuple hA #[7] a (bf (cU ha)) bJ.toArray).item i s' _ _ hi st fun v h' tk hp bp kp kY=>q v h' tk kY (fun x u hx=>?_) hp bp kp)
   rw[a8]at hx
   subst hx
   exact((q_ hv).up (aN hn kY)) x u (by have hp:bJ.toArray[i]?=some _:=hp;exact cy (by simpa using hp))) q
 ·rw[<- z];exact aC _ rfl
 ·exact P4.at fun o e=>aw _ e
end
theorem Kg{ss:List Str}(hp:ss.Perm ks)(UQ:ks.Nodup)(hm:∀x,x∈ks↔∃j,j<l.length/\tx [l.getD j 0]=x)(hs:sortedS ss=true) :
  ∃m:List Nat,ss=m.map (fun c=>tx [c])/\m.Nodup/\m.Pairwise (· <= ·)/\∀c,c∈m↔c∈l:=by
 have all:∀z∈ss,tx [z.cps.toList.headD 0]=z:=fun z hz=>by
  obtain⟨j,_,e⟩:=(hm z).mp (hp.mem_iff.mp hz)
  subst e;rfl
 have em:ss=(ss.map fun z=>z.cps.toList.headD 0).map fun c=>tx [c]:=by
  rw[cf]
  conv=>lhs;rw[<- jh ss]
  exact eY fun z hz=>(all z hz).symm
 refine⟨ss.map fun z=>z.cps.toList.headD 0,em,?_,?_,fun c=>?_⟩
 ·have nd:ss.Nodup:=hp.nodup_iff.mpr UQ
  rw[em]at nd
  exact List.Pairwise.of_map (fun c=>tx [c]) (fun a b h e=>h (by rw[e])) nd
 ·refine An _ ?_
  rw[cf]
  rw[em]at hs
  exact hs
 ·constructor
  ·intro hc
   obtain⟨z,hz,rfl⟩:=c5.mp hc
   obtain⟨j,hj,e⟩:=(hm z).mp (hp.mem_iff.mp hz)
   subst e
   show l.getD j 0∈l
   rw[aH,aj hj]
   exact dR hj
  ·intro hc
   obtain⟨j,hj,e⟩:=List.getElem_of_mem hc
   refine c5.mpr ⟨tx [c],hp.mem_iff.mpr ((hm _).mpr ⟨j,hj,?_⟩),rfl⟩
   rw[aH,aj hj,e];rfl
def Kh(K:Frag)(H:Hp)(v:V)(l:List Nat):Prop:=v=.str (tx l)\/∃a,v=.ref a/\gc K H a (jm l)
def Gv(K:Frag)(te:TE):TE:=fun σ H Q=>te σ H fun v H1=>∃l,Kh K H1 v l/\l.length<4000/\(∀m:List Nat,m.Nodup->(∀c∈m,c∈l)->m.length<64) /\
 ∀m:List Nat,m.Nodup->m.Pairwise (· <= ·)->(∀c,c∈m↔c∈l)->∀a H2,H1 a=none->H2=f_ H1 a (.lst (m.map fun c=>V.str (tx [c])))->Q (.ref a) H2
theorem bQ.kept2{d':Drawn}(I:bQ X ak σ H s)(k:∀b o,s.heap.get? b=some o->h'.get? b=some o)(hk:s.toks<=t':=by first|exact az _|exact bt _|assumption|omega):bQ X ak σ H { s with heap:=h',drawn:=d',toks:=t' }:=
 I.step (g':=s.gens) (ch:=[]) (fun _ z=>nomatch z) (fun b o _ _ _ e _=>k b o e) (fun b o _ _ _ e _=>⟨o.slots,k b o e⟩) (fun _ _ _ _ n=>n) (fun b o _ e=>⟨o,k b o e⟩) (fun _ _ e=>e) (fun _ _ _ e=>e) (fun b ps e=>⟨#[],by rw[e];simp⟩)
  (fun m hm=>let ⟨o,es,ep,ho,r⟩:=hm;⟨o,es,ep,k _ o ho,r⟩) ((I.hok.kept k).up hk) I.bare hk
theorem EQ{p1 p2 PZ Le:Pos}(h1:X.mg "sorted"=none)(h3:X.mg "set"=none)(he:QE X e te)(hc:X.calm=true:=by rfl)
  (UK:Gl X "sorted":=by rfl) (UT:Gl X "set":=by rfl) (Tv:starEach [e] X.env=(false,eval e X.env)::starEach [] X.env:=by rfl):QE X (.Call (.Name "sorted" p1) [.Call (.Name "set" p2) [e] [] Le] [] PZ) (Gv X.K te):=⟨by
 intro ak s σ H Q I h
 refine fK (ou I UK h1 PyProof.Rows.boot_sorted (jS ?_) #[13] #[13])
 show wpAny _ _ (spliced ((false,eval (.Call (.Name "set" p2) [e] [] Le) X.env)::[])) _ _ s
 refine eR (fK (ou I UT h3 PyProof.Rows.boot_set (dU ?_ Tv rfl) #[13] #[13]))
 rw[Tv]
 show wpAny _ _ (spliced ((false,eval e X.env)::[])) _ _ s
 refine eR (jC (he.h ak s σ H _ I h) fun u s1 kt1 ⟨v,H1,I1,r1,l,hl,hb,few,q⟩=>f6 ?_)
 have hh:X.A.handled=none:=I1.ok.hd hc
 have hb':l.length+1<scanBound:=by unfold scanBound;omega
 have kL:∀g tk,s1.toks<=tk->Ln X.prog X.w tk (fun j=>tx [l.getD j 0]) g s1.heap.objs.size l.length->(∀b o,s1.heap.get? b=some o->g.get? b=some o) ->
   wpAny #[3] X.A (spliced []) (fun vs s₂=>wpAny #[3] X.A (call (.builtin "sorted") (.ref s1.heap.objs.size::vs)) (EP X ak σ Q) X.xe s₂) X.xe { s1 with heap:=g,toks:=tk }:=fun g tk kY hM kp=>by
  refine f6 ?_
  obtain⟨ks,z,nd,mem,len⟩:=hM
  have qV:ks.length<64:=by
   obtain⟨m,em,mn,_,mm⟩:∃m:List Nat,ks=m.map (fun c=>tx [c])/\m.Nodup/\True/\∀c∈m,c∈l:=by
    have all:∀z∈ks,tx [z.cps.toList.headD 0]=z:=fun z hz=>by
     obtain⟨j,_,e⟩:=(mem z).mp hz
     subst e;rfl
    have em:ks=(ks.map fun z=>z.cps.toList.headD 0).map fun c=>tx [c]:=by
     rw[cf]
     conv=>lhs;rw[<- jh ks]
     exact eY fun z hz=>(all z hz).symm
    refine⟨_,em,?_,trivial,fun c hc=>?_⟩
    ·have nd':=nd
     rw[em]at nd'
     exact List.Pairwise.of_map (fun c=>tx [c]) (fun a b h e=>h (by rw[e])) nd'
    ·obtain⟨z,hz,rfl⟩:=c5.mp hc
     obtain⟨j,hj,e⟩:=(mem z).mp hz
     subst e
     show l.getD j 0∈l
     rw[aH,aj hj]
     exact dR hj
   rw[em,aD]
   exact few m mn mm
  refine up (Ck z qV hh fun g0 g1 d PL out ss ep k0 k1 gL hta su hperm hsrt hle2=>?_)
  have hle2:tk<=PL:=hle2
  have hle3:s1.toks<=PL:=aN kY hle2
  obtain⟨m,em,mn,mp,mm⟩:=Kg hperm nd mem hsrt
  have I2:bQ X ak σ H1 { s1 with heap:=g0,drawn:=d,toks:=PL }:=I1.kept2 fun b o e=>k0 b o (kp b o e)
  have Dg:H1 g0.objs.size=none:=I2.hok.fresh (az _)
  have hvals:cL PL (m.map fun c=>V.str (tx [c])) out.toList:=by
   have e:=mV su (hta.up hle2)
   rw[em,cf]at e
   exact e
  refine⟨.ref g0.objs.size,_,I2.laid (o:=.lst (m.map fun c=>V.str (tx [c]))) (t':=PL) k1 (az _) ?_,rfl,q m mn mp mm _ _ Dg rfl⟩
  refine⟨?_,out.toList,ep,hvals,gL⟩
  rw[aD]
  exact aN (fZ (few m mn fun c hc=>(mm c).mp hc)) #[13]
 rcases hl with rfl|⟨a,rfl,hT⟩
 ·obtain⟨t,rfl⟩:=r1
  exact Gu I1.pos hh hb' kL
 ·cases r1
  obtain⟨bJ,rv,ht,_⟩:=I1.tuple hT
  exact Kf hh hb' ht rv kL⟩
end L2
namespace L2
open PySem PySem.Spec PyProof.Rows
section
variable{w:World}
end
section
variable{wi:TI}{g:TG}{tc:TT}
theorem Cm{x0:Str}{p0 p1:Pos}{gx:TG}(IT:PG X (.Name x0 p0) gx)(SM:swapsWith #[10] (some (.Name x0 p0)) p1.line X.env=pure true)(jI:X.calm=true)(wL:closureFor scope X.env=pure cl)(BO:∀x c,cl.lookup x=some c->X.env.cells.lookup x=some c)
  (jH:scope.kind=.function) (qU:∀x∈scope.names,x.2=.local->scope.names.lookup x.1=some .local) (hU:∀y∈scope.names,y.2≠.cell)
  (Di:∀x,#[12]->∃c,cl.lookup x=some c)
  (uS:∀(i j:Nat),cap[i]?=some (some j)->∃x,nm[i]?=some x/\X.N[j]?=some x/\vf X scope cl x) (fY:cap.length=nm.length)
  (hi:PI X tg ef wi) (hg:∀C s0 H0 fp,PG #[9] tg g) (ht:∀C s0 H0 fp,F' #[9] mU tc)
  (he:∀C s0 H0 fp,PE #[9] qX te) (hs:∀x,foldedSetIterable ef X.env x=pure x:=by intro _;rfl) :
  PS X (.Assign [.Name x0 p0] #[10] p1) (FN (ve cap wi g tc te) gx):=by
 intro ak s σ H D I h
 rw[exec_Assign_Name_used _ _ _ _ SM]
 suffices main:wpAny #[3] X.A (comprehension #[10] scope X.env (firstIterPos [⟨tg,ef,mU,0⟩] pos) (newList []) (firstAsync [⟨tg,ef,mU,0⟩]) (firstIter [⟨tg,ef,mU,0⟩] X.env) (some (assign (.Name x0 p0) X.env))) (fun _ s'=>SP X ak D .next s') X.xe s from
  af (qu (af (af (lv main (fun _ s' h=>ay (ay h)) fun _ _ z=>z))))
 refine xF jI wL BO jH qU hU Di uS fY hi hg ht he hs I h fun s4 C D m4 Hn I4 B q=>?_
 obtain⟨oC,es,ep,hoC,hdC,hrC⟩:=B.ns
 refine lv (IT _ s4 σ _ (.ref D) (.ref D) _ (I4.pins_of (pins':=ak++[(C,oC)]) fun p hp=>?_) rfl q) (fun _ s5 h5=>?_) fun _ _ z=>z
 ·rcases aW.mp hp with z|z
  ·exact I4.pin p (aR _ z)
  ·have e:p=(C,oC):=by simpa using z
   subst e
   exact⟨hoC,B.fr,B.nl,B.nf,fun v z=>by rw[hdC]at z;cases z⟩
 obtain⟨σ',H',I6,nx⟩:=h5
 have pC:=I6.pin (C,oC) (aR _ (aR _ (a8.mpr rfl)))
 have I7:bQ X ak σ' H' s5:=I6.pins_of fun p hp=>I6.pin p (aR _ (b7 _ hp))
 have B7:Aj X ak H' s5 C m4:=⟨⟨oC,es,ep,pC.1,hdC,hrC⟩,pC.2.1,B.nl,B.nf,B.hi,B.nc,B.np⟩
 exact⟨m4,B7.ns,fun h' hs'=>⟨σ',H',B7.off I7 hs',nx⟩⟩
end
theorem Cn{x0:Str}{p0 p1:Pos}{gx:TG}{pos:Pos}{wi:TI}{g:TG}{tc:TT}{m:Nat}(IT:QG X (.Name x0 p0) gx)(jI:X.calm=true)
  (qT:X.env.cells=cellsFrom m X.env.scope.names []) (jH:scope.kind=.function) (hB:EI X.env.scope.names scope.names nm cap X.N=true)
  (hi:QI X tg ef wi) (hg:∀cl C s0 H0 fp,QG #[9] tg g) (ht:∀cl C s0 H0 fp,Ue #[9] mU tc)
  (he:∀cl C s0 H0 fp,QE #[9] qX te) (hs:∀x,foldedSetIterable ef X.env x=pure x:=by intro _;rfl) (SM:swapsWith #[10] (some (.Name x0 p0)) p1.line X.env=pure true:=by first|rfl|kernel_rfl) :
  QS X (.Assign [.Name x0 p0] #[10] p1) (FN (ve cap wi g tc te) gx):=by
 have F:=QZ (nm:=nm) (cap:=cap) (fun x z=>by rw[qT];exact mC z) hB
 exact⟨Cm IT.h SM jI F.clos F.cl jH F.nms F.cell F.has F.cp F.len hi.h (fun C s0 H0 fp=>(hg _ C s0 H0 fp).h) (fun C s0 H0 fp=>(ht _ C s0 H0 fp).h) (fun C s0 H0 fp=>(he _ C s0 H0 fp).h) hs⟩
def Q1:List V->Hp->VK->Prop:=fun xs H Q=>∃c:Nat,xs=[.str (tx [48+c])]/\c<=3/\Q (.int c) H
theorem NE:Lm X (.type "int") Q1:=⟨by
 intro ak s σ H xs us Q I r h
 obtain⟨i,rfl,hi,q⟩:=h
 obtain⟨u,rfl,t,rfl⟩:=oz r
 have e:PySem.intText? (tx [48+i])=some (i:Int):=by
  rcases(show i=0\/i=1\/i=2\/i=3 by omega)with rfl|rfl|rfl|rfl<;>decide +kernel
 exact PySem.W.KIN.call_text e (by show 1<=640;decide) ⟨.int i,H,I.tok _,⟨_,rfl⟩,q⟩⟩
open AutoSeq1 (wpAny_loadPart')
theorem Gw(l b:Addr)(i1 i2:Array Value)(n1 n2:Nat)(d1 d2:Option Addr)(s1 s2:Array (Option Value))(h0:i1.isEmpty=true) :
  Meets (Builtin.«tuple.__add__» ⟨[.ref l,.ref b],[]⟩) (fun _ R s=>s.heap.get? l=some { cls:=.type "tuple",dict:=d1,data:=.seq i1 n1,slots:=s1 }/\s.heap.get? b=some { cls:=.type "tuple",dict:=d2,data:=.seq i2 n2,slots:=s2 }/\R (.ok (.ret (.ref b))) s):=
 .of_wp fun prog w A R s h=>by
  obtain⟨hp,g,d,tk,os⟩:=s
  obtain⟨e1,e2,h⟩:=h
  have a2:=PyProof.Rows.sub_tuple_tuple
  wp_walk using dq e1,dq e2
  exact⟨_,rfl,h⟩
def Q3(K:Frag):R2:=fun x y H Q=>∃a b xs ys,x=.ref a/\y=.ref b/\gc K H a xs/\gc K H b ys/\xs.length+ys.length<=sizeLine/\∀p H2,uz H H2->gc K H2 p (xs++ys)->Q (.ref p) H2
theorem NF:U1 X (binaryOp .Add) (Q3 X.K):=⟨by
 intro ak s σ H x y v u Q I rx ry h
 obtain⟨a,b,xs,ys,rfl,rfl,ha,hb,hz,q⟩:=h
 by_cases hx:xs=[]
 ·subst hx
  cases rx
  cases ry
  obtain⟨bJ,r1,p1,_⟩:=I.tuple ha
  obtain⟨its2,r2,p2,_⟩:=I.tuple hb
  have e1:bJ=[]:=r1.nil_iff.mpr rfl
  obtain⟨⟨c1,d1,g1,l1⟩,f1,hc1,n1,hd1⟩:=id p1
  obtain⟨⟨c2,d2,g2,l2⟩,f2,hc2,n2,hd2⟩:=id p2
  simp only at hc1 hd1 hc2 hd2
  subst hc1 hd1 hc2 hd2
  refine sw ⟨_,f1,rfl⟩ ⟨_,f2,rfl⟩ mP qv PySem.F.slot_tuple_add PySem.F.entry_tuple_add (PySem.F.args_tuple_add_2 _ _) (Gw a b bJ.toArray its2.toArray n1 n2 d1 d2 l1 l2 (by rw[e1];rfl)) ⟨f1,f2,?_⟩
  exact⟨.ref b,H,I,rfl,q b H (uz.refl H) hb⟩
 ·exact J0 ak s σ H _ _ v u Q I rx ry ⟨a,b,xs,ys,rfl,rfl,ha,hb,hx,hz,fun e=>q a H (uz.refl H) (by rw[e,bv];exact ha),fun _ p hp=>q p _ (dg hp _) (gc.of gN)⟩⟩
end L2
namespace L2
open PySem PySem.Spec PyProof.Rows
inductive W where
 |non|bl (b:Bool)|int (i:Int)|str (l:List Nat)|tup (ws:List W)|loc (n:Nat)
inductive DK where
 |i (z:Int)|s (l:List Nat)
deriving DecidableEq
def DK.key:DK->mz
 |.i z=>.inl z
 |.s l=>.inr (tx l)
inductive KX where
 |bo (b:Bool)|fl (ks:List Int)|pr (i:Int) (ks:List Int)
deriving DecidableEq
def KX.w:KX->W
 |.bo b=>.bl b
 |.fl ks=>.tup (ks.map W.int)
 |.pr i ks=>.tup [.int i,.tup (ks.map W.int)]
def Gx(ks:List Int):Int:=reduceHash (Builtin.Tuple.tupleHashOf (ks.map hashInt))
def KX.hash:KX->Int
 |.bo b=>hashInt (if b then 1 else 0)
 |.fl ks=>Gx ks
 |.pr i ks=>reduceHash (Builtin.Tuple.tupleHashOf [hashInt i,Gx ks])
inductive am where
 |lst (ws:List W)
 |ro (ws:List W)
 |exc (c:Str)
 |dct (kvs:List (DK×W))
 |tab (P:Addr) (pos:Pos) (q:Str)
 |rod (kvs:List (DK×W))
 |dcx (kvs:List (KX×W))
 |rox (kvs:List (KX×W))
 |obj (c:Str) (fs:List (Str×W))
 |pin (k:Bool) (c:Addr) (o:Obj) (w:W)
 |gone
abbrev mB:Nat:=1000000
theorem oE(h:n<=mB):n<=sizeLine:=aN h #[13]
theorem NG(h:n<=mB):n<sizeLine:=gJ h #[13]
inductive R(α:Type) where
 |ok (a:α) (st:List am)
 |ex (c:Str) (st:List am)
 |bad
def R.bind:R α->(α->List am->R β)->R β
 |.ok a st,k=>k a st
 |.ex c st,_=>.ex c st
 |.bad,_=>.bad
@[simp] theorem R.bind_ok{α β:Type}(a:α)(st:List am)(k:α->List am->R β):(R.ok a st).bind k=k a st:=rfl
@[simp] theorem R.bind_ex{α β:Type}(c:Str)(st:List am)(k:α->List am->R β):(R.ex c st:R α).bind k=.ex c st:=rfl
@[simp] theorem R.bind_bad{α β:Type}(k:α->List am->R β):(R.bad:R α).bind k=.bad:=rfl
abbrev cM:=List (Option W)
inductive RS where
 |nx (ρ:cM) (st:List am)|rt (w:W) (st:List am)|bk (ρ:cM) (st:List am)|ct (ρ:cM) (st:List am)
 |ex (c:Str) (ρ:cM) (st:List am)|bad
abbrev FE:=cM->List am->R W
abbrev FT:=cM->List am->R Bool
abbrev FA:=cM->List am->R (List W)
abbrev FS:=cM->List am->RS
section
variable(K:Frag)
mutual
def bH(μ:List Addr)(H:Hp):W->V->Prop
 |.non,v=>v=.non
 |.bl b,v=>v=.bl b
 |.int i,v=>v=.int i
 |.str l,v=>v=.str (tx l)
 |.tup ws,v=>∃p vs,v=.ref p/\gc K H p vs/\RelWs μ H ws vs
 |.loc n,v=>∃a,μ[n]?=some a/\v=.ref a
def RelWs(μ:List Addr)(H:Hp):List W->List V->Prop
 |[],vs=>vs=[]
 |w::ws,vs=>∃x xs,vs=x::xs/\bH μ H w x/\RelWs μ H ws xs
end
end
theorem pre_get(h:μ <+: μ'){a:Addr}(e:μ[n]?=some a):μ'[n]?=some a:=by
 obtain⟨t,rfl⟩:=h
 rw[aL (au.mp e).1];exact e
section
mutual
theorem bH.mono(h:μ <+: μ')(e:fw K H H'):∀{w:W} {v:V},bH K μ H w v->bH K μ' H' w v
 |.non,_,r=>by unfold bH at r ⊢;exact r
 |.bl _,_,r=>by unfold bH at r ⊢;exact r
 |.int _,_,r=>by unfold bH at r ⊢;exact r
 |.str _,_,r=>by unfold bH at r ⊢;exact r
 |.tup _,_,r=>by unfold bH at r ⊢;obtain⟨p,vs,a,b,c⟩:=r;exact⟨p,vs,a,e _ _ b,RelWs.mono h e c⟩
 |.loc _,_,r=>by unfold bH at r ⊢;obtain⟨a,b,c⟩:=r;exact⟨a,pre_get h b,c⟩
theorem RelWs.mono(h:μ <+: μ')(e:fw K H H'):∀{ws:List W} {vs:List V},RelWs K μ H ws vs->RelWs K μ' H' ws vs
 |[],_,r=>by unfold RelWs at r ⊢;exact r
 |_::_,_,r=>by unfold RelWs at r ⊢;obtain⟨x,xs,a,b,c⟩:=r;exact⟨x,xs,a,bH.mono h e b,RelWs.mono h e c⟩
end
theorem RelWs.nilI:RelWs K μ H [] []:=by unfold RelWs;rfl
theorem RelWs.consI{w:W}{ws:List W}{x:V}(a:bH K μ H w x)(b:RelWs K μ H ws xs):RelWs K μ H (w::ws) (x::xs):=by unfold RelWs;exact⟨x,xs,rfl,a,b⟩
theorem RelWs.nilE(h:RelWs K μ H [] vs):vs=[]:=by unfold RelWs at h;exact h
theorem RelWs.consE{w:W}{ws:List W}(h:RelWs K μ H (w::ws) vs):∃x xs,vs=x::xs/\bH K μ H w x/\RelWs K μ H ws xs:=by unfold RelWs at h;exact h
theorem RelWs.pr:∀{ws:List W} {vs:List V},RelWs K μ H ws vs↔Paired (fun w v=>bH K μ H w v) ws vs
 |[],vs=>⟨fun h=>by rw[h.nilE];exact .nil,fun h=>by cases h;exact .nilI⟩
 |w::ws,vs=>⟨fun h=>by obtain⟨x,xs,rfl,a,b⟩:=h.consE;exact .cons a (RelWs.pr.mp b),fun h=>by cases h with|cons a b=>exact .consI a (RelWs.pr.mpr b)⟩
theorem RelWs.len{ws:List W}(h:RelWs K μ H ws vs):ws.length=vs.length:=Paired.length (RelWs.pr.mp h)
theorem RelWs.app:∀{as:List W} {xs:List V} {bs:List W} {ys:List V},RelWs K μ H as xs->RelWs K μ H bs ys->RelWs K μ H (as++bs) (xs++ys)
 |[],xs,bs,ys,a,b=>by rw[a.nilE];exact b
 |w::as,xs,bs,ys,a,b=>by obtain⟨x,xs,rfl,c,d⟩:=a.consE;exact .consI c (RelWs.app d b)
theorem RelWs.get:∀{ws:List W} {vs:List V} {i:Nat} {w:W},RelWs K μ H ws vs->ws[i]?=some w->∃v,vs[i]?=some v/\bH K μ H w v
 |[],_,_,_,_,e=>by simp at e
 |x::ws,vs,0,w,h,e=>by obtain⟨y,ys,rfl,a,b⟩:=h.consE;simp at e;subst e;exact⟨y,rfl,a⟩
 |x::ws,vs,i+1,w,h,e=>by obtain⟨y,ys,rfl,a,b⟩:=h.consE;simpa using RelWs.get (i:=i) b (by simpa using e)
theorem RelWs.take:∀{ws:List W} {vs:List V} (n:Nat),RelWs K μ H ws vs->RelWs K μ H (ws.take n) (vs.take n)
 |_,_,0,_=>by simp only[List.take_zero];exact .nilI
 |[],vs,n+1,h=>by rw[h.nilE];exact .nilI
 |x::ws,vs,n+1,h=>by obtain⟨y,ys,rfl,a,b⟩:=h.consE;exact .consI a (RelWs.take n b)
theorem RelWs.drop:∀{ws:List W} {vs:List V} (n:Nat),RelWs K μ H ws vs->RelWs K μ H (ws.drop n) (vs.drop n)
 |_,_,0,h=>h
 |[],vs,n+1,h=>by rw[h.nilE];exact .nilI
 |x::ws,vs,n+1,h=>by obtain⟨y,ys,rfl,a,b⟩:=h.consE;exact RelWs.drop n b
theorem RelWs.setI:∀{ws:List W} {vs:List V} (i:Nat) {w:W} {v:V},bH K μ H w v->RelWs K μ H ws vs->RelWs K μ H (ws.set i w) (vs.set i v)
 |[],vs,_,_,_,_,h=>by rw[h.nilE];exact .nilI
 |x::ws,vs,0,w,v,r,h=>by obtain⟨y,ys,rfl,a,b⟩:=h.consE;exact .consI r b
 |x::ws,vs,i+1,w,v,r,h=>by obtain⟨y,ys,rfl,a,b⟩:=h.consE;exact .consI a (RelWs.setI i r b)
theorem bH.intE{i:Int}{v:V}(h:bH K μ H (.int i) v):v=.int i:=by unfold bH at h;exact h
theorem bH.blE{b:Bool}{v:V}(h:bH K μ H (.bl b) v):v=.bl b:=by unfold bH at h;exact h
theorem bH.nonE{v:V}(h:bH K μ H .non v):v=.non:=by unfold bH at h;exact h
theorem bH.strE{v:V}(h:bH K μ H (.str l) v):v=.str (tx l):=by unfold bH at h;exact h
theorem bH.tupE{ws:List W}{v:V}(h:bH K μ H (.tup ws) v):∃p vs,v=.ref p/\gc K H p vs/\RelWs K μ H ws vs:=by unfold bH at h;exact h
theorem bH.locE{v:V}(h:bH K μ H (.loc n) v):∃a,μ[n]?=some a/\v=.ref a:=by unfold bH at h;exact h
theorem bH.int{i:Int}:bH K μ H (.int i) (.int i):=by unfold bH;rfl
theorem bH.bl{i:Bool}:bH K μ H (.bl i) (.bl i):=by unfold bH;rfl
theorem bH.non:bH K μ H .non .non:=by unfold bH;rfl
theorem bH.str:bH K μ H (.str l) (.str (tx l)):=by unfold bH;rfl
theorem bH.tupI{ws:List W}{p:Addr}(a:gc K H p vs)(b:RelWs K μ H ws vs):bH K μ H (.tup ws) (.ref p):=by unfold bH;exact⟨p,vs,rfl,a,b⟩
theorem bH.locI{a:Addr}(e:μ[n]?=some a):bH K μ H (.loc n) (.ref a):=by unfold bH;exact⟨a,e,rfl⟩
end
def Q4(a:Addr)(C:Value):HO:=.ext fun h=>∃o vs,h.get? a=some o/\o.cls=C/\o.data=.fields vs
def Ay(b:Addr)(q:Str):HO:=.ext fun h=>∃o vs t,h.get? b=some o/\o.data=.fields vs/\vs[1]?=some (.str q t)
def Ta(K:Frag)(H:Hp)(a:Addr)(xs:List V):Prop:=
 (∃o,H a=some (.frz o (.lst xs)))\/∃(o:Obj) (bJ:Array Value) (n:Nat),K.lookup a=some o/\o.cls=.type "list"/\o.dict=none/\o.data=.seq bJ n/\bJ.size<=sizeLine/\cL 0 xs bJ.toList
theorem Ta.sq{a:Addr}(h:Ta K H a xs):sK K H a xs:=by
 rcases h with⟨o,h⟩|h
 ·exact .inl (.inr ⟨o,h⟩)
 ·exact .inr h
def am.isRo:am->Bool
 |.ro _=>true
 |.gone=>true
 |_=>false
def DX(a:Addr)(es:List DictEntry):Heap->Prop:=fun h=>∃o ep,h.get? a=some o/\o.ExactDict/\o.data=.dict es.toArray ep
abbrev U3(a:Addr)(es:List DictEntry):HO:=.ext (DX a es)
def Az(K:Frag)(μ:List Addr)(H:Hp)(p:KX×W)(e:DictEntry):Prop:=e.hash=p.1.hash/\(∃v,bH K μ H p.1.w v/\c8 0 v e.key)/\∃v,bH K μ H p.2 v/\c8 0 v e.val
def Uh(a:Addr)(o:Obj):HO:=.ext fun h=>h.get? a=some o
def lW(K:Frag)(mg:Str->Option Value)(μ:List Addr)(H:Hp):am->Addr->Prop
 |.lst ws,a=>∃vs,H a=some (.lst vs)/\RelWs K μ H ws vs
 |.ro ws,a=>∃vs,Ta K H a vs/\RelWs K μ H ws vs
 |.exc c,a=>∃C,mg c=some C/\H a=some (Q4 a C)
 |.dct kvs,a=>∃vs,H a=some (.dK ((kvs.map fun p=>p.1.key).zip vs))/\RelWs K μ H (kvs.map fun p=>p.2) vs
 |.rod kvs,a=>∃vs o,H a=some (.frz o (.dK ((kvs.map fun p=>p.1.key).zip vs)))/\RelWs K μ H (kvs.map fun p=>p.2) vs
 |.dcx kvs,a=>∃es,H a=some (U3 a es)/\(a==sysModules)=false/\Paired (Az K μ H) kvs es/\(kvs.map fun p=>p.1).Nodup
 |.rox kvs,a=>∃es o,H a=some (.frz o (U3 a es))/\(a==sysModules)=false/\Paired (Az K μ H) kvs es/\(kvs.map fun p=>p.1).Nodup
 |.obj c fs,a=>∃C dx vs,mg c=some (.ref C)/\H a=some (.ins C dx ((fs.map fun p=>p.1).zip vs))/\RelWs K μ H (fs.map fun p=>p.2) vs
 |.tab P pos q,a=>a=P/\∃ps,H a=some (.tbl ps)/\TriplesOk ps.toList/\(codeAmong pos ps.toList=none\/∃c,codeAmong pos ps.toList=some (.ref c)/\H c=some (Ay c q))
 |.pin k c o w,a=>a=c/\H a=some (Uh a o)/\(k=false->∃fd cd,o.data=.func fd/\fd.code=.ref cd/\H cd=some (Ay cd fd.qualname))/\∃v,bH K μ H w v/\(k=true->∃u,o.data=.cell (some u)/\c8 0 v u)
 |.gone,_=>True
structure jk(K:Frag)(mg:Str->Option Value)(μ:List Addr)(st:List am)(H:Hp):Prop where
 nd:∀(i j:Nat) (a:Addr) (ci cj:am),st[i]?=some ci->st[j]?=some cj->ci.isRo=false->cj.isRo=false->μ[i]?=some a->μ[j]?=some a->i=j
 len:st.length=μ.length
 at':∀(i:Nat) (c:am) (a:Addr),st[i]?=some c->μ[i]?=some a->lW K mg μ H c a
section
variable{st:List am}
theorem Az.mono(h:μ <+: μ')(x:fw K H H'){p:KX×W}{e:DictEntry}(r:Az K μ H p e):Az K μ' H' p e:=by
 obtain⟨a,⟨v,b,c⟩,u,d,g⟩:=r
 exact⟨a,⟨v,b.mono h x,c⟩,u,d.mono h x,g⟩
theorem lW.keep(h:μ <+: μ')(x:fw K H H'){c:am}{a:Addr}(e:∀o,H a=some o->H' a=some o)(e2:∀b q,H b=some (Ay b q)->H' b=some (Ay b q))(r:lW K mg μ H c a):lW K mg μ' H' c a:=by
 cases c with
 |lst ws=>obtain⟨vs,p,y⟩:=r;exact⟨vs,e _ p,y.mono h x⟩
 |ro ws=>
  obtain⟨vs,p,y⟩:=r
  refine⟨vs,?_,y.mono h x⟩
  rcases p with⟨o,p⟩|p
  ·exact .inl ⟨o,e _ p⟩
  ·exact .inr p
 |exc c=>obtain⟨C,p,y⟩:=r;exact⟨C,p,e _ y⟩
 |dct kvs=>obtain⟨vs,p,y⟩:=r;exact⟨vs,e _ p,y.mono h x⟩
 |rod kvs=>obtain⟨vs,o,p,y⟩:=r;exact⟨vs,o,e _ p,y.mono h x⟩
 |dcx kvs=>obtain⟨es,p,d,y,z⟩:=r;exact⟨es,e _ p,d,Paired.imp' (fun _ _ q=>q.mono h x) y,z⟩
 |rox kvs=>obtain⟨es,o,p,d,y,z⟩:=r;exact⟨es,o,e _ p,d,Paired.imp' (fun _ _ q=>q.mono h x) y,z⟩
 |obj c fs=>obtain⟨C,dx,vs,m,p,y⟩:=r;exact⟨C,dx,vs,m,e _ p,y.mono h x⟩
 |tab P pos q=>
  obtain⟨ea,ps,p,t,y⟩:=r
  refine⟨ea,ps,e _ p,t,?_⟩
  rcases y with y|⟨c,y,z⟩
  ·exact .inl y
  ·exact .inr ⟨c,y,e2 _ _ z⟩
 |pin k c o w=>obtain⟨ea,p,g,v,y,z⟩:=r;exact⟨ea,e _ p,fun q=>let ⟨fd,cd,q1,q2,q3⟩:=g q;⟨fd,cd,q1,q2,e2 _ _ q3⟩,v,y.mono h x,z⟩
 |gone=>trivial
theorem lW.ro_ne{c:am}{a:Addr}(r:lW K mg μ H c a)(h:c.isRo=false):∃o,H a=some o:=by
 cases c with
 |lst ws=>obtain⟨vs,p,y⟩:=r;exact⟨_,p⟩
 |ro ws=>cases h
 |exc c=>obtain⟨C,p,y⟩:=r;exact⟨_,y⟩
 |dct kvs=>obtain⟨vs,p,y⟩:=r;exact⟨_,p⟩
 |rod kvs=>obtain⟨vs,o,p,y⟩:=r;exact⟨_,p⟩
 |dcx kvs=>obtain⟨es,p,_⟩:=r;exact⟨_,p⟩
 |rox kvs=>obtain⟨es,o,p,_⟩:=r;exact⟨_,p⟩
 |obj c fs=>obtain⟨C,dx,vs,m,p,y⟩:=r;exact⟨_,p⟩
 |tab P pos q=>obtain⟨_,ps,p,_⟩:=r;exact⟨_,p⟩
 |pin k c o w=>obtain⟨_,p,_⟩:=r;exact⟨_,p⟩
 |gone=>cases h
theorem jk.same(S:jk K mg μ st H)(e:uz H H'):jk K mg μ st H':=⟨S.nd,S.len,fun i c a h1 h2=>(S.at' i c a h1 h2).keep (ao _) (gc.same e) (e a) fun b q h=>e b _ h⟩
theorem jk.get(S:jk K mg μ st H){c:am}(h:st[n]?=some c):∃a,μ[n]?=some a/\lW K mg μ H c a:=by
 have hn:n<μ.length:=by rw[<- S.len];exact(au.mp h).1
 exact⟨μ[n],aj hn,S.at' n c _ h (aj hn)⟩
theorem jk.push(S:jk K mg μ st H){p:Addr}{o:HO}{c:am}(hp:H p=none)(hc:lW K mg (μ++[p]) (f_ H p o) c p):jk K mg (μ++[p]) (st++[c]) (f_ H p o):=by
 have hs:uz H (f_ H p o):=dg hp o
 have BH:μ <+: μ++[p]:=be _ _
 have old:∀{i:Nat} {d:am} {a:Addr},i<st.length->(st++[c])[i]?=some d->(μ++[p])[i]?=some a->st[i]?=some d/\μ[i]?=some a:=fun{i d a} hi h1 h2=>by
  rw[aL hi]at h1
  rw[aL (by rw[<- S.len];exact hi)]at h2
  exact⟨h1,h2⟩
 have new:∀{i:Nat} {d:am} {a:Addr},¬ i<st.length->(st++[c])[i]?=some d->(μ++[p])[i]?=some a->i=st.length/\d=c/\a=p:=fun{i d a} hi h1 h2=>by
  have hi':i=st.length:=by
   have:=(au.mp h1).1
   simp at this;omega
  subst hi'
  simp at h1
  rw[S.len,aX (az _)]at h2
  simp at h2
  exact⟨rfl,h1.symm,h2.symm⟩
 refine⟨fun i j a ci cj h1 h2 r1 r2 m1 m2=>?_,by simp[S.len],fun i d a h1 h2=>?_⟩
 ·by_cases hi:i<st.length
  ·obtain⟨x1,x2⟩:=old hi h1 m1
   by_cases hj:j<st.length
   ·obtain⟨y1,y2⟩:=old hj h2 m2
    exact S.nd i j a ci cj x1 y1 r1 r2 x2 y2
   ·obtain⟨_,_,rfl⟩:=new hj h2 m2
    obtain⟨o',z⟩:=(S.at' i ci a x1 x2).ro_ne r1
    rw[hp]at z;cases z
  ·obtain⟨e1,_,rfl⟩:=new hi h1 m1
   by_cases hj:j<st.length
   ·obtain⟨y1,y2⟩:=old hj h2 m2
    obtain⟨o',z⟩:=(S.at' j cj a y1 y2).ro_ne r2
    rw[hp]at z;cases z
   ·obtain⟨e2,_,_⟩:=new hj h2 m2
    omega
 ·by_cases hi:i<st.length
  ·obtain⟨x1,x2⟩:=old hi h1 h2
   exact(S.at' i d a x1 x2).keep BH (gc.same hs) (hs a) fun b q h=>hs b _ h
  ·obtain⟨_,rfl,rfl⟩:=new hi h1 h2
   exact hc
theorem jk.setG(S:jk K mg μ st H){a:Addr}{c c':am}{o o':HO}(hn:st[n]?=some c)(BI:c.isRo=false)(hm:μ[n]?=some a)(ha:H a=some o)(hf:∀q u,o≠.frz q u)(hg:∀q,o≠Ay a q)(hx:fw K H (f_ H a o'))(VA:c'.isRo=false)(hr:lW K mg μ (f_ H a o') c' a):jk K mg μ (st.set n c') (f_ H a o'):=by
 have hl:n<st.length:=(au.mp hn).1
 have back:∀{i:Nat} {d:am},(st.set n c')[i]?=some d->∃d',st[i]?=some d'/\(d'=d\/(i=n/\d=c')):=fun{i d} h=>by
  by_cases e:i=n
  ·subst e
   rw[cv hl]at h
   exact⟨_,hn,.inr ⟨rfl,(bu h).symm⟩⟩
  ·rw[cW (Ne.symm e)]at h
   exact⟨d,h,.inl rfl⟩
 refine⟨fun i j b ci cj h1 h2 r1 r2 m1 m2=>?_,by simp[S.len],fun i d b h1 h2=>?_⟩
 ·obtain⟨di,x1,y1⟩:=back h1
  obtain⟨dj,x2,y2⟩:=back h2
  refine S.nd i j b di dj x1 x2 ?_ ?_ m1 m2
  ·rcases y1 with rfl|⟨rfl,rfl⟩
   ·exact r1
   ·rw[hn]at x1;cases x1;exact BI
  ·rcases y2 with rfl|⟨rfl,rfl⟩
   ·exact r2
   ·rw[hn]at x2;cases x2;exact BI
 ·by_cases e:i=n
  ·subst e
   rw[cv hl]at h1
   cases h1
   rw[hm]at h2;cases h2
   exact hr
  ·rw[cW (Ne.symm e)]at h1
   have r:=S.at' i d b h1 h2
   by_cases hrd:d.isRo=true
   ·cases d with
    |ro zs=>
     obtain⟨us,p,q⟩:=r
     refine⟨us,?_,q.mono (ao _) hx⟩
     rcases p with⟨o2,p⟩|p
     ·exact .inl ⟨o2,by rw[df (by rintro rfl;rw[ha]at p;cases p;exact hf _ _ rfl)];exact p⟩
     ·exact .inr p
    |lst _=>cases hrd
    |exc _=>cases hrd
    |dct _=>cases hrd
    |rod _=>cases hrd
    |dcx _=>cases hrd
    |rox _=>cases hrd
    |obj _ _=>cases hrd
    |tab _ _ _=>cases hrd
    |pin _ _ _ _=>cases hrd
    |gone=>trivial
   ·refine r.keep (ao _) hx (fun o ho=>?_) fun b' q h=>by rw[df (by rintro rfl;rw[ha]at h;cases h;exact hg _ rfl)];exact h
    have hb:b≠a:=by
     rintro rfl
     exact e (S.nd i n b d _ h1 hn (by simpa using hrd) BI h2 hm)
    rw[df hb];exact ho
theorem jk.set(S:jk K mg μ st H){a:Addr}{ws SU:List W}{Dh:List V}(hn:st[n]?=some (.lst ws))(hm:μ[n]?=some a)(ha:H a=some (.lst vs))(hr:RelWs K μ H SU Dh):jk K mg μ (st.set n (.lst SU)) (f_ H a (.lst Dh)):=by
 have hx:fw K H (f_ H a (.lst Dh)):=gc.but jn ha
 have hl:n<st.length:=(au.mp hn).1
 have back:∀{i:Nat} {d:am},(st.set n (.lst SU))[i]?=some d->∃d',st[i]?=some d'/\(d'=d\/(i=n/\d=.lst SU)):=fun{i d} h=>by
  by_cases e:i=n
  ·subst e
   rw[cv hl]at h
   exact⟨_,hn,.inr ⟨rfl,(bu h).symm⟩⟩
  ·rw[cW (Ne.symm e)]at h
   exact⟨d,h,.inl rfl⟩
 refine⟨fun i j b ci cj h1 h2 r1 r2 m1 m2=>?_,by simp[S.len],fun i d b h1 h2=>?_⟩
 ·obtain⟨di,x1,y1⟩:=back h1
  obtain⟨dj,x2,y2⟩:=back h2
  refine S.nd i j b di dj x1 x2 ?_ ?_ m1 m2
  ·rcases y1 with rfl|⟨rfl,rfl⟩
   ·exact r1
   ·rw[hn]at x1;cases x1;rfl
  ·rcases y2 with rfl|⟨rfl,rfl⟩
   ·exact r2
   ·rw[hn]at x2;cases x2;rfl
 ·by_cases e:i=n
  ·subst e
   rw[cv hl]at h1
   cases h1
   rw[hm]at h2;cases h2
   exact⟨Dh,gN,hr.mono (ao _) hx⟩
  ·rw[cW (Ne.symm e)]at h1
   have r:=S.at' i d b h1 h2
   by_cases BI:d.isRo=true
   ·cases d with
    |ro zs=>
     obtain⟨us,p,q⟩:=r
     refine⟨us,?_,q.mono (ao _) hx⟩
     rcases p with⟨o',p⟩|p
     ·exact .inl ⟨o',by rw[df (by rintro rfl;rw[ha]at p;cases p)];exact p⟩
     ·exact .inr p
    |lst _=>cases BI
    |exc _=>cases BI
    |dct _=>cases BI
    |rod _=>cases BI
    |dcx _=>cases BI
    |rox _=>cases BI
    |obj _ _=>cases BI
    |tab _ _ _=>cases BI
    |pin _ _ _ _=>cases BI
    |gone=>trivial
   ·refine r.keep (ao _) hx (fun o ho=>?_) fun b' q h=>by rw[df (by rintro rfl;rw[ha]at h;cases h)];exact h
    have hb:b≠a:=by
     rintro rfl
     exact e (S.nd i n b d _ h1 hn (by simpa using BI) rfl h2 hm)
    rw[df hb];exact ho
end
end L2
variable{st bp st1 z:List L2.am}{body:L2.FS}{t:L2.FT}{kvs:List (L2.DK×L2.W)}{ws:List L2.W}{ρ:L2.cM}{fa fe fo el:L2.FE}{F G:List L2.W->List L2.am->L2.R L2.W}{ck:Option (Nat×List L2.W)}
namespace L2
open PySem PySem.Spec PyProof.Rows
structure Rl(X:Cx)(μ:List Addr)(ρ:cM)(st:List am)(σ:St)(H:Hp):Prop where
 env:Paired (fun(o:Option W) (s:Option V)=>∀w,o=some w->∃v,s=some v/\bH X.K μ H w v) ρ σ
 sto:jk X.K X.mg μ st H
theorem xK(h:μ <+: μ')(x:fw K H H'):∀{ρ:cM} {σ:St},Paired (fun(o:Option W) (s:Option V)=>∀w,o=some w->∃v,s=some v/\bH K μ H w v) ρ σ ->
  Paired (fun(o:Option W) (s:Option V)=>∀w,o=some w->∃v,s=some v/\bH K μ' H' w v) ρ σ
 |_,_,.nil=>.nil
 |_,_,.cons a t=>.cons (fun w e=>let ⟨v,p,q⟩:=a w e;⟨v,p,q.mono h x⟩) (xK h x t)
theorem Rl.to(r:Rl X μ ρ st σ H)(h:μ <+: μ')(x:fw X.K H H')(s:jk X.K X.mg μ' bp H'):Rl X μ' ρ bp σ H':=⟨xK h x r.env,s⟩
theorem vq:∀{ρ:cM} {σ:St} {i:Nat} {w:W},Paired (fun(o:Option W) (s:Option V)=>∀w,o=some w->∃v,s=some v/\bH K μ H w v) ρ σ->ρ[i]?=some (some w)->∃v,σ[i]?=some (some v)/\bH K μ H w v
 |_,_,_,_,.nil,e=>by simp at e
 |_,_,0,w,.cons a t,e=>by simp at e;obtain⟨v,p,q⟩:=a w e;exact⟨v,by simp[p],q⟩
 |_,_,i+1,w,.cons a t,e=>by simpa using vq (i:=i) t (by simpa using e)
theorem vt{w:W}{v:V}(r:bH K μ H w v):∀{ρ:cM} {σ:St} (i:Nat),Paired (fun(o:Option W) (s:Option V)=>∀w,o=some w->∃v,s=some v/\bH K μ H w v) ρ σ ->
  Paired (fun(o:Option W) (s:Option V)=>∀w,o=some w->∃v,s=some v/\bH K μ H w v) (ρ.set i (some w)) (σ.set i (some v))
 |_,_,_,.nil=>.nil
 |_,_,0,.cons a t=>.cons (fun w' e=>⟨v,rfl,by cases e;exact r⟩) t
 |_,_,i+1,.cons a t=>.cons a (vt r i t)
structure xL(X:Cx)(ak:List (Addr×Obj))(σ:St)(c:Str)(H:Hp)(e:Value)(s:Shared):Prop where
 inv:bQ X ak σ H s
 ex:∃x C t B,e=.ref x/\X.mg c=some C/\H x=none/\B.StaysIn s.heap/\B.get? x=none/\s.heap.FunFrames B X.stack /\
  (s.heap.TracedW B x C (.ref t)\/(∃oe vs,s.heap.get? x=some oe/\oe.cls=C/\oe.dict=none/\oe.data=.fields vs/\vs[1]?=some .none/\vs[0]?=some (.ref t))\/∃L,X.env.frame=some L/\s.heap.TracedAtW B x C (.ref t) (rawInt L)) /\
  ∀b o,s.heap.get? b=some o->(H b≠none\/((∃o0,X.s₀.heap.get? b=some o0)/\b∉X.fs/\b∉X.ex)\/((∃y,X.env.cells.lookup y=some b)/\b∉uV X.stack)\/∃p∈X.pn++ak,p.1=b)->B.get? b=some o
def XS(X:Cx)(c:Str)(μ:List Addr)(ρ:cM)(st:List am)(H:Hp):Prop:=
 ∀ak μ' σ' H' e s',μ <+: μ'->fw X.K H H'->Rl X μ' ρ st σ' H'->xL X ak σ' c H' e s'->X.xe e s'
def XE(X:Cx)(c:Str)(μ:List Addr)(st:List am)(σ:St)(H:Hp):Prop:=
 ∀ak μ' H' e s',μ <+: μ'->fw X.K H H'->jk X.K X.mg μ' st H'->xL X ak σ c H' e s'->X.xe e s'
theorem XE.mono{c:Str}{μ1:List Addr}{H1:Hp}(h:XE X c μ st σ H)(p:μ <+: μ1)(x:fw X.K H H1):XE X c μ1 st σ H1:=fun ak μ' H' e s' a b=>h ak μ' H' e s' (p.trans a) (x.trans b)
theorem XS.mono{c:Str}{μ1:List Addr}{H1:Hp}(h:XS X c μ ρ st H)(p:μ <+: μ1)(x:fw X.K H H1):XS X c μ1 ρ st H1:=fun ak μ' σ' H' e s' a b=>h ak μ' σ' H' e s' (p.trans a) (x.trans b)
theorem XS.toE{c:Str}{Tx:List am}(h:XS X c μ ρ st H)(r:Rl X μ ρ Tx σ H):XE X c μ st σ H:=fun ak μ' H' e s' a b s f=>h ak μ' σ H' e s' a b (r.to a b s) f
def RK(X:Cx)(rel:List Addr->Hp->α->β->Prop)(μ:List Addr)(σ:St)(H:Hp)(Q:β->Hp->Prop):R α->Prop
 |.ok a bp=>∀μ' b H',μ <+: μ'->fw X.K H H'->jk X.K X.mg μ' bp H'->rel μ' H' a b->Q b H'
 |.ex c bp=>XE X c μ bp σ H
 |.bad=>False
theorem RK.mono{rel:List Addr->Hp->α->β->Prop}{μ1:List Addr}{H1:Hp}{Q:β->Hp->Prop}{r:R α}(h:RK X rel μ σ H Q r)(p:μ <+: μ1)(x:fw X.K H H1):RK X rel μ1 σ H1 Q r:=by
 cases r with
 |ok a st=>exact fun μ' b H' a1 b1=>h μ' b H' (p.trans a1) (x.trans b1)
 |ex c st=>exact XE.mono h p x
 |bad=>exact h
def tG(X:Cx)(rel:List Addr->Hp->α->β->Prop)(f:cM->List am->R α)(σ:St)(H:Hp)(Q:β->Hp->Prop):Prop:=
 ∃μ ρ st,Rl X μ ρ st σ H/\RK X rel μ σ H Q (f ρ st)
abbrev sR(X:Cx):List Addr->Hp->W->V->Prop:=fun μ H w v=>bH X.K μ H w v
abbrev Ui(X:Cx):List Addr->Hp->List W->List V->Prop:=fun μ H w v=>RelWs X.K μ H w v
abbrev NH:List Addr->Hp->Bool->Bool->Prop:=fun _ _ a b=>a=b
abbrev tE(X:Cx)(f:FE):TE:=tG X (sR X) f
abbrev tT(X:Cx)(f:FT):TT:=tG X NH f
abbrev Q5(X:Cx)(f:FA):TA:=tG X (Ui X) f
theorem RK.bind{α' β':Type}{rel:List Addr->Hp->α->β->Prop}{SX:List Addr->Hp->α'->β'->Prop}{r:R α}{k:α->List am->R α'}{Q:β'->Hp->Prop}{T:β->Hp->Prop}
  (h:RK X SX μ σ H Q (r.bind k)) (l:Rl X μ ρ st σ H)
  (hk:∀μ' bp x v H',μ <+: μ'->fw X.K H H'->Rl X μ' ρ bp σ H'->rel μ' H' x v->RK X SX μ' σ H' Q (k x bp)->T v H'):RK X rel μ σ H T r:=by
 cases r with
 |ok a bp=>exact fun μ' b H' p x s q=>hk μ' bp a b H' p x (l.to p x s) q (RK.mono h p x)
 |ex c bp=>exact h
 |bad=>exact h
def SK(X:Cx)(μ:List Addr)(H:Hp)(D:yA):RS->Prop
 |.nx ρ st=>∀μ' σ' H',μ <+: μ'->fw X.K H H'->Rl X μ' ρ st σ' H'->D.nx σ' H'
 |.bk ρ st=>∀μ' σ' H',μ <+: μ'->fw X.K H H'->Rl X μ' ρ st σ' H'->D.bk σ' H'
 |.ct ρ st=>∀μ' σ' H',μ <+: μ'->fw X.K H H'->Rl X μ' ρ st σ' H'->D.ct σ' H'
 |.rt w st=>∀μ' v H',μ <+: μ'->fw X.K H H'->jk X.K X.mg μ' st H'->bH X.K μ' H' w v->D.rt v H'
 |.ex c ρ st=>XS X c μ ρ st H
 |.bad=>False
theorem SK.mono{μ1:List Addr}{H1:Hp}{D:yA}{r:RS}(h:SK X μ H D r)(p:μ <+: μ1)(x:fw X.K H H1):SK X μ1 H1 D r:=by
 cases r with
 |nx ρ st=>exact fun μ' b H' a1 b1=>h μ' b H' (p.trans a1) (x.trans b1)
 |bk ρ st=>exact fun μ' b H' a1 b1=>h μ' b H' (p.trans a1) (x.trans b1)
 |ct ρ st=>exact fun μ' b H' a1 b1=>h μ' b H' (p.trans a1) (x.trans b1)
 |rt w st=>exact fun μ' b H' a1 b1=>h μ' b H' (p.trans a1) (x.trans b1)
 |ex c ρ st=>exact XS.mono h p x
 |bad=>exact h
def Tb(X:Cx)(g:FS):TS:=fun D σ H=>∃μ ρ st,Rl X μ ρ st σ H/\SK X μ H D (g ρ st)
structure SE(X:Cx)(e:Expr)(f:FE):Prop where
 h:PE X e (tE X f)
structure ST(X:Cx)(e:Expr)(f:FT):Prop where
 h:PT X e (tT X f)
structure SW(X:Cx)(e:Expr)(f:FT):Prop where
 h:PW X e (tT X f)
structure SA(X:Cx)(es:List Expr)(f:FA):Prop where
 h:PA X es (Q5 X f)
structure SS(X:Cx)(s:Stmt)(g:FS):Prop where
 h:PS X s (Tb X g)
structure SB(X:Cx)(s:List Stmt)(g:FS):Prop where
 h:Em X s (Tb X g)
theorem PE.imp{t t':TE}(h:PE X e t)(i:∀σ H Q,t' σ H Q->t σ H Q):PE X e t':=fun ak s σ H Q I q=>h ak s σ H Q I (i _ _ _ q)
theorem PT.imp{t t':TT}(h:PT X e t)(i:∀σ H Q,t' σ H Q->t σ H Q):PT X e t':=fun ak s σ H Q I q=>h ak s σ H Q I (i _ _ _ q)
theorem PW.imp{t t':TT}(h:PW X e t)(i:∀σ H Q,t' σ H Q->t σ H Q):PW X e t':=fun wh ak s σ H Q I q=>h wh ak s σ H Q I (i _ _ _ q)
theorem PA.imp{e:List Expr}{t t':TA}(h:PA X e t)(i:∀σ H Q,t' σ H Q->t σ H Q):PA X e t':=fun pos ak s σ H Q I q=>h pos ak s σ H Q I (i _ _ _ q)
theorem PS.imp{e:Stmt}{t t':TS}(h:PS X e t)(i:∀D σ H,t' D σ H->t D σ H):PS X e t':=fun ak s σ H D I q=>h ak s σ H D I (i _ _ _ q)
theorem Em.imp{e:List Stmt}{t t':TS}(h:Em X e t)(i:∀D σ H,t' D σ H->t D σ H):Em X e t':=fun ak s σ H D I q=>h ak s σ H D I (i _ _ _ q)
section
variable{a b:Expr}{x:Str}{iF:List Expr}{fb fc:FE}{ft fu:FT}{fs:FA}
def ag(i:Nat):FE:=fun ρ st=>match ρ[i]? with
 |some (some w)=>.ok w st
 |_=>.bad
theorem aa(i:Nat){pos:Pos}(hN:X.N[i]?=some x:=by rfl)(hv:P' X.env.scope x:=by first|exact Or.inl rfl|exact Or.inr (Or.inl rfl)|exact Or.inr (Or.inr rfl))(hd:(x==("__debug__":Str))=false:=by decide)
  (Fh:(x==("__classdict__":Str))=false:=by decide):SE X (.Name x pos) (ag i):=⟨(pv i hN hv hd Fh).imp fun σ H Q h=>by
 obtain⟨μ,ρ,st,r,h⟩:=h
 unfold ag at h
 cases e:ρ[i]? with
 |none=>rw[e]at h;exact h.elim
 |some ow=>
  cases ow with
  |none=>rw[e]at h;exact h.elim
  |some w=>
   rw[e]at h
   obtain⟨v,e1,e2⟩:=vq r.env e
   exact⟨v,e1,h μ v H (ao _) fw.refl r.sto e2⟩⟩
def eC(w:W):FE:=fun _ st=>.ok w st
abbrev eI(n:Int):FE:=eC (.int n)
theorem Q6{w:W}{v:V}(hc:PE X e (tC v))(hr:∀μ H,bH X.K μ H w v):SE X e (eC w):=⟨hc.imp fun σ H Q h=>by
 obtain⟨μ,ρ,st,r,h⟩:=h
 exact h μ v H (ao _) fw.refl r.sto (hr _ _)⟩
theorem aB{i:Int}:SE X (.Constant (.int i) j pos) (eC (.int i)):=Q6 ML fun _ _=>.int
theorem Co{k:Bool}:SE X (.Constant (.bool k) j pos) (eC (.bl k)):=Q6 Qb fun _ _=>.bl
theorem qi:SE X (.Constant .none j pos) (eC .non):=Q6 MM fun _ _=>.non
theorem fB(h:x=tx l:=by decide +kernel):SE X (.Constant (.str x) j pos) (eC (.str l)):=Q6 MN fun _ _=>by rw[h];exact .str
theorem Uj{w:W}(h:∃u v,X.mg x=some u/\c8 0 v u/\∀μ H,bH X.K μ H w v)(hg:Gl X x:=by rfl)(hd:(x==("__debug__":Str))=false:=by decide):SE X (.Name x pos) (eC w):=by
 obtain⟨u,v,a,b,c⟩:=h
 exact Q6 (QQ ⟨u,a,b⟩ hg hd) c
def e2(f:W->W->List am->R W)(fa fb:FE):FE:=fun ρ st=>(fa ρ st).bind fun x st=>(fb ρ st).bind fun y st=>f x y st
def Fv(X:Cx)(μ:List Addr)(H:Hp)(Q:VK):R W->Prop
 |.ok w bp=>∀μ' v H',μ <+: μ'->fw X.K H H'->jk X.K X.mg μ' bp H'->bH X.K μ' H' w v->Q v H'
 |_=>False
def uD:R α->Prop
 |.ex _ _=>False
 |_=>True
def Uk(X:Cx)(f:W->W->List am->R W):R2:=fun x y H Q=>∃μ st wx wy,jk X.K X.mg μ st H/\bH X.K μ H wx x/\bH X.K μ H wy y/\Fv X μ H Q (f wx wy st)
structure wW(X:Cx)(g:Value->Value->Sem Value)(f:W->W->List am->R W):Prop where
 h:oy X g (Uk X f)
 n:∀x y st,uD (f x y st)
theorem sT{Q:VK}{r:R W}(h:RK X (sR X) μ σ H Q r)(n:uD r):Fv X μ H Q r:=by
 cases r with
 |ok a st=>exact h
 |ex c st=>exact n.elim
 |bad=>exact h
theorem DF{f:W->W->List am->R W}{Q:VK}(n:∀x y st,uD (f x y st))(h:tE X (e2 f fa fb) σ H Q):Qo (Uk X f) (tE X fa) (tE X fb) σ H Q:=by
 walk_at "2"
 refine⟨μ,ρ,st,l,RK.bind h l fun μ1 st1 x v H1 p1 x1 l1 q1 h1=>⟨μ1,ρ,st1,l1,RK.bind h1 l1 fun μ2 cZ y u H2 p2 x2 l2 q2 h2=>?_⟩⟩
 exact⟨μ2,cZ,x,y,l2.sto,q1.mono p2 x2,q2,sT h2 (n _ _ _)⟩
theorem bF{op:Operator}{f:W->W->List am->R W}(ho:wW X (binaryOp op) f)(ha:SE X a fa)(hb:SE X b fb):SE X (.BinOp a op b pos) (e2 f fa fb):=⟨(Qp ho.h ha.h hb.h).imp fun _ _ _ h=>DF ho.n h⟩
theorem rd{f:W->W->List am->R W}(ho:wW X (compareOp op) f)(ha:SE X a fa)(hb:SE X b fb)(hm:behindInMarks op b=false:=by first|exact FW _|rfl):SE X (.Compare a [op] [b] pos) (e2 f fa fb):=⟨(JS ho.h ha.h hb.h hm).imp fun _ _ _ h=>DF ho.n h⟩
def eG(fa:FE):FT:=fun ρ st=>(fa ρ st).bind fun x st=>match x with
 |.bl k=>.ok k st
 |_=>.bad
theorem re{Q:Bool->Hp->Prop}(h:tT X (eG fa) σ H Q):tE X fa σ H fun x H1=>∃k,x=.bl k/\Q k H1:=by
 walk_at "2"
 walk_at "1"
 cases x with
 |bl k=>exact⟨k,q1.blE,h1 μ1 k H1 (ao _) fw.refl l1.sto rfl⟩
 |_=>exact h1.elim
theorem cr{f:W->W->List am->R W}(ho:wW X (compareOp op) f)(ha:SE X a fa)(hb:SE X b fb)(hm:behindInMarks op b=false:=by first|exact FW _|rfl):ST X (.Compare a [op] [b] pos) (eG (e2 f fa fb)):=⟨(JT ho.h ha.h hb.h hm).imp fun σ H Q h=>by
 have h':tE X (e2 f fa fb) σ H fun x H1=>∃k,x=.bl k/\Q k H1:=re h
 exact DF ho.n h'⟩
theorem kh(h:SE X e fe)(he:∀whole,isTrue e X.env whole=(do let v <- whole;standAt e.pos;holding [v] (truthy v)):=by intro _;rfl):ST X e (eG fe):=⟨(MP h.h he).imp fun σ H Q h=>re h⟩
def Q7(t u:FT):FT:=fun ρ st=>(t ρ st).bind fun k st=>if k then u ρ st else .ok false st
def Ju(t u:FT):FT:=fun ρ st=>(t ρ st).bind fun k st=>if k then .ok true st else u ρ st
def Fw(t:FT):FT:=fun ρ st=>(t ρ st).bind fun k st=>.ok (!k) st
theorem yP(ha:ST X a ft):SW X (.BoolOp .Or [a] pos) ft:=⟨MQ ha.h⟩
theorem DG(ha:ST X a ft)(hb:SW X (.BoolOp .Or (b::iF) pos) fu):SW X (.BoolOp .Or (a::b::iF) pos) (Ju ft fu):=⟨(Qd ha.h hb.h).imp fun σ H Q h=>by
 walk_at "2"
 walk_at "1"
 cases q1
 cases x with
 |false=>exact⟨μ1,ρ,st1,l1,h1⟩
 |true=>exact h1 μ1 true H1 (ao _) fw.refl l1.sto rfl⟩
theorem Ki(h:SW X e ft):ST X e ft:=⟨h.h.pt⟩
theorem sU(ha:ST X a ft):ST X (.UnaryOp .Not a pos) (Fw ft):=⟨(MR ha.h).imp fun σ H Q h=>by
 walk_at "2"
 walk_at "1"
 cases q1
 exact h1 μ1 _ H1 (ao _) fw.refl l1.sto rfl⟩
def Cp(fa fb:FE):FE:=fun ρ st=>(fa ρ st).bind fun x st=>match x with
 |.bl true=>fb ρ st
 |.bl false=>.ok (.bl false) st
 |_=>.bad
def Kj(fa:FE):FE:=fun ρ st=>(fa ρ st).bind fun x st=>match x with
 |.bl k=>.ok (.bl (!k)) st
 |_=>.bad
theorem Gy{op:BoolOp}(h:SE X a fa):SE X (.BoolOp op [a] pos) fa:=⟨MS h.h⟩
theorem DH(ha:SE X a fa)(hb:SE X (.BoolOp .And (b::iF) pos) fb):SE X (.BoolOp .And (a::b::iF) pos) (Cp fa fb):=⟨(MU ha.h hb.h).imp fun σ H Q h=>by
 walk_at "2"
 walk_at "1"
 cases x with
 |bl k=>
  refine⟨k,q1.blE,?_⟩
  cases k with
  |true=>exact⟨μ1,ρ,st1,l1,h1⟩
  |false=>exact h1 μ1 _ H1 (ao _) fw.refl l1.sto .bl
 |_=>exact h1.elim⟩
theorem Q8(ha:SE X a fa):SE X (.UnaryOp .Not a pos) (Kj fa):=⟨(MV ha.h).imp fun σ H Q h=>by
 walk_at "2"
 walk_at "1"
 cases x with
 |bl k=>exact⟨k,q1.blE,h1 μ1 _ H1 (ao _) fw.refl l1.sto .bl⟩
 |_=>exact h1.elim⟩
def Gz(t:FT)(fa fb:FE):FE:=fun ρ st=>(t ρ st).bind fun k st=>if k then fa ρ st else fb ρ st
theorem ER(hc:ST X c ft)(ha:SE X a fa)(hb:SE X b fb):SE X (.IfExp c a b pos) (Gz ft fa fb):=⟨(FJ hc.h ha.h hb.h).imp fun σ H Q h=>by
 walk_at "2"
 walk_at "1"
 cases q1
 cases x with
 |false=>exact⟨μ1,ρ,st1,l1,h1⟩
 |true=>exact⟨μ1,ρ,st1,l1,h1⟩⟩
def W.isNon:W->Bool
 |.non=>true
 |_=>false
def yQ(fa:FE):FE:=fun ρ st=>(fa ρ st).bind fun x st=>.ok (.bl x.isNon) st
def gA(fa:FE):FE:=fun ρ st=>(fa ρ st).bind fun x st=>.ok (.bl (!x.isNon)) st
theorem Lo{w:W}{v:V}(r:bH X.K μ H w v):decide (v=.non)=w.isNon:=by
 cases w with
 |non=>rw[r.nonE];rfl
 |bl b=>rw[r.blE];rfl
 |int b=>rw[r.intE];rfl
 |str b=>rw[r.strE];rfl
 |tup b=>obtain⟨p,vs,rfl,_⟩:=r.tupE;rfl
 |loc b=>obtain⟨p,_,rfl⟩:=r.locE;rfl
theorem Lp{Q:VK}(h:tE X (yQ fa) σ H Q):Qc (tE X fa) σ H Q:=by
 walk_at "2"
 walk_at "1"
 show Q (.bl (decide (v=.non))) H1
 rw[Lo q1]
 exact h1 μ1 _ H1 (ao _) fw.refl l1.sto .bl
theorem NI{Q:VK}(h:tE X (gA fa) σ H Q):Lf (tE X fa) σ H Q:=by
 walk_at "2"
 walk_at "1"
 show Q (.bl (!decide (v=.non))) H1
 rw[Lo q1]
 exact h1 μ1 _ H1 (ao _) fw.refl l1.sto .bl
theorem Q9(ha:SE X a fa):SE X (.Compare a [.Is] [.Constant .none j iq] pos) (yQ fa):=⟨(MO (FF ha.h)).imp fun _ _ _ h=>Lp h⟩
theorem Cq(ha:SE X a fa):ST X (.Compare a [.Is] [.Constant .none j iq] pos) (eG (yQ fa)):=⟨(FH (FF ha.h)).imp fun _ _ _ h=>Lp (re h)⟩
theorem ij(ha:SE X a fa):ST X (.Compare a [.IsNot] [.Constant .none j iq] pos) (eG (gA fa)):=⟨(FH (JI ha.h)).imp fun _ _ _ h=>NI (re h)⟩
def aE:FA:=fun _ st=>.ok [] st
def ah(fa:FE)(fs:FA):FA:=fun ρ st=>(fa ρ st).bind fun x st=>(fs ρ st).bind fun xs st=>.ok (x::xs) st
theorem ax:SA X [] aE:=⟨FZ.imp fun σ H Q h=>by
 walk_at "2"
 exact h μ [] H (ao _) fw.refl l.sto .nilI⟩
theorem ae(ha:SE X e fe)(hr:SA X es fs)(hs:starEach (e::es) X.env=(false,eval e X.env)::starEach es X.env:=by rfl):SA X (e::es) (ah fe fs):=⟨(yC ha.h hr.h hs).imp fun σ H Q h=>by
 walk_at "2"
 refine⟨μ,ρ,st,l,RK.bind h l fun μ1 st1 x v H1 p1 x1 l1 q1 h1=>⟨μ1,ρ,st1,l1,RK.bind h1 l1 fun μ2 cZ xs vs H2 p2 x2 l2 q2 h2=>?_⟩⟩
 exact h2 μ2 _ H2 (ao _) fw.refl l2.sto (.consI (q1.mono p2 x2) q2)⟩
def Q_(zs:List (List Nat)):FA:=fun _ st=>.ok (zs.map W.str) st
def qj(ws:List W)(st:List am):R W:=if ws.length<=mB then .ok (.tup ws) st else .bad
def qk(ws:List W)(st:List am):R W:=if ws.length<=mB then .ok #[5] (st++[.lst ws])else .bad
def gg(fs:FA):FE:=fun ρ st=>(fs ρ st).bind fun ws st=>qj ws st
def ki(fs:FA):FE:=fun ρ st=>(fs ρ st).bind fun ws st=>qk ws st
theorem jk.newLst(S:jk K mg μ st H){p:Addr}(hp:H p=none)(r:RelWs K μ H ws vs):jk K mg (μ++[p]) (st++[.lst ws]) (f_ H p (.lst vs)):=
 S.push hp ⟨vs,gN,r.mono (be _ _) (gc.same (dg hp _))⟩
theorem oF(S:jk K mg μ st H){p:Addr}:bH K (μ++[p]) H' #[5] (.ref p):=.locI (by rw[S.len];simp)
theorem GA{Q:VK}(S:jk X.K X.mg μ st H)(q:RelWs X.K μ H ws vs)(h:RK X (sR X) μ σ H Q (qj ws st)):vs.length<=sizeLine/\∀p H2,H p=none->H2=f_ H p (.tup vs)->Q (.ref p) H2:=by
 unfold qj at h
 by_cases hz:ws.length<=mB
 ·rw[aF hz]at h
  refine⟨by rw[<- q.len];exact oE hz,fun p H2 hp e=>?_⟩
  subst e
  have x:=gc.same (K:=X.K) (dg hp (.tup vs))
  exact h μ _ _ (ao _) x (S.same (dg hp _)) (.tupI gc.new (q.mono (ao _) x))
 ·rw[aO hz]at h;exact h.elim
theorem vw{σ:St}{Q:VK}(S:jk X.K X.mg μ st H)(q:RelWs X.K μ H ws vs)(h:RK X (sR X) μ σ H Q (qk ws st)):vs.length<=sizeLine/\∀p H2,H p=none->H2=f_ H p (.lst vs)->Q (.ref p) H2:=by
 unfold qk at h
 by_cases hz:ws.length<=mB
 ·rw[aF hz]at h
  refine⟨by rw[<- q.len];exact oE hz,fun p H2 hp e=>?_⟩
  subst e
  exact h (μ++[p]) _ _ (be _ _) (gc.same (dg hp _)) (S.newLst hp q) (oF S)
 ·rw[aO hz]at h;exact h.elim
theorem eT{k:Nat}(h:SA X es fs):SE X (.Tuple es k pos) (gg fs):=⟨(J_ h.h).imp fun σ H Q h=>by
 walk_at "2"
 exact⟨μ,ρ,st,l,RK.bind h l fun μ1 st1 x v H1 p1 x1 l1 q1 h1=>GA l1.sto q1 h1⟩⟩
theorem iN(h:SA X es fs):SE X (.List es pos) (ki fs):=⟨(J' h.h).imp fun σ H Q h=>by
 walk_at "2"
 exact⟨μ,ρ,st,l,RK.bind h l fun μ1 st1 x v H1 p1 x1 l1 q1 h1=>vw l1.sto q1 h1⟩⟩
end
end L2
namespace L2
open PySem PySem.Spec PyProof.Rows
section
theorem kP{Q:VK}{i:Int}(S:jk X.K X.mg μ st H)(h:Fv X μ H Q (.ok (.int i) st)):Q (.int i) H:=h μ _ H (ao _) fw.refl S .int
theorem sV{Q:VK}{i:Bool}(S:jk X.K X.mg μ st H)(h:Fv X μ H Q (.ok (.bl i) st)):Q (.bl i) H:=h μ _ H (ao _) fw.refl S .bl
theorem rh{Q:VK}{i:List Nat}(S:jk X.K X.mg μ st H)(h:Fv X μ H Q (.ok (.str i) st)):Q (.str (tx i)) H:=h μ _ H (ao _) fw.refl S .str
theorem NJ{Q:VK}{r:R W}(h:Fv X μ H Q r):RK X (sR X) μ σ H Q r:=by
 cases r with
 |ok a st=>exact h
 |ex c st=>exact h.elim
 |bad=>exact h
def ES(C:Int->Int->Prop)[∀i j,Decidable (C i j)](f:Int->Int->Int):W->W->List am->R W
 |.int i,.int j,st=>if C i j then .ok (.int (f i j)) st else .bad
 |_,_,_=>.bad
theorem AA{C C':Int->Int->Prop}[∀i j,Decidable (C' i j)]{f:Int->Int->Int}(h:oy X g (rI C fun i j=>.int (f i j)))(hC:∀i j,C' i j->C i j):wW X g (ES C' f):=⟨h.imp fun x y H Q zq=>by
 obtain⟨μ,st,wx,wy,S,rx,ry,q⟩:=zq
 cases wx with
 |int i=>
  cases wy with
  |int j=>
   simp only[ES]at q
   by_cases c:C' i j
   ·rw[aF c]at q;exact⟨i,j,rx.intE,ry.intE,hC i j c,kP S q⟩
   ·rw[aO c]at q;exact q.elim
  |_=>exact q.elim
 |_=>cases wy<;>exact q.elim,fun x y st=>by
 unfold ES
 split
 ·split<;>trivial
 ·trivial⟩
def ET(f:Int->Int->Bool):W->W->List am->R W
 |.int i,.int j,st=>.ok (.bl (f i j)) st
 |_,_,_=>.bad
theorem GB{f:Int->Int->Bool}(h:oy X g (Js fun i j=>.bl (f i j))):wW X g (ET f):=⟨h.imp fun x y H Q zq=>by
 obtain⟨μ,st,wx,wy,S,rx,ry,q⟩:=zq
 cases wx with
 |int i=>
  cases wy with
  |int j=>exact⟨i,j,rx.intE,ry.intE,sV S q⟩
  |_=>exact q.elim
 |_=>cases wy<;>exact q.elim,fun x y st=>by
 unfold ET
 split<;>trivial⟩
abbrev NK(i j:Int):Prop:=(-(2^64)<i/\i<2^64)\/(-(2^64)<j/\j<2^64)
abbrev kQ:=ES (fun _ _=>True) fun i j=>i-j
abbrev Ra:=ES NK fun i j=>i*j
abbrev i7:=ES (fun _ j=>0<j) fun i j=>i%j
abbrev uc:=ES (fun _ j=>0<j/\j<1073741824) fun i j=>i/j
abbrev Rb:=ES (fun i j=>0<=j/\j<=1000000/\i.natAbs<2^64) fun i j=>i^j.toNat
abbrev AB:=ES (fun i j=>0<=j/\j<=1000000/\i.natAbs<2^64) fun i j=>i*2^j.toNat
abbrev NL:=ES (fun _ j=>0<=j) fun i j=>i/2^j.toNat
abbrev GC:=ES (fun _ _=>True) fun i j=>Builtin.bitAnd i j
theorem GD{f:Int->Int->V}(h:oy X g (Js f)):oy X g (rI (fun _ _=>True) f):=h.imp fun _ _ _ _ ⟨i,j,a,b,_,q⟩=>⟨i,j,a,b,q⟩
theorem j4:wW X (binaryOp .Sub) kQ:=AA (GD M_) fun _ _ _=>trivial
theorem Rc:wW X (binaryOp .Mult) Ra:=AA M' fun _ _ h=>h
theorem iB:wW X (binaryOp .Mod) i7:=AA Na fun _ _ h=>h
theorem sX:wW X (binaryOp .FloorDiv) uc:=AA JR fun _ _ h=>h
theorem Re:wW X (binaryOp .Pow) Rb:=AA Nb fun _ _ h=>h
theorem Lq:wW X (binaryOp .LShift) AB:=AA FV fun _ _ h=>h
theorem Rf:wW X (binaryOp .RShift) NL:=AA Nc fun _ _ h=>h
theorem NM:wW X (binaryOp .BitAnd) GC:=AA (GD Nd) fun _ _ _=>trivial
def cQ:W->W->List am->R W
 |.int i,.int j,st=>.ok (.int (i+j)) st
 |.str a,.str b,st=>if a.length+b.length<=mB then .ok (.str (a++b)) st else .bad
 |.tup a,.tup b,st=>qj (a++b) st
 |.loc n,.loc m,st=>match st[n]?,st[m]? with
  |some (.lst a),some (.lst b)=>qk (a++b) st
  |_,_=>.bad
 |_,_,_=>.bad
theorem Kk(ws:List W)(st:List am):uD (qj ws st):=by unfold qj;split<;>trivial
theorem Kl(ws:List W)(st:List am):uD (qk ws st):=by unfold qk;split<;>trivial
theorem cH:wW X (binaryOp .Add) cQ:=⟨fun ak s σ H x y v u Q I rv ru zq=>by
 obtain⟨μ,st,wx,wy,S,rx,ry,q⟩:=zq
 cases wx with
 |int i=>
  cases wy with
  |int j=>exact M9 ak s σ H x y v u Q I rv ru ⟨i,j,rx.intE,ry.intE,kP S q⟩
  |_=>exact q.elim
 |str a=>
  cases wy with
  |str b=>
   simp only[cQ]at q
   by_cases c:a.length+b.length<=mB
   ·rw[aF c]at q
    exact BZ ak s σ H x y v u Q I rv ru ⟨_,_,rx.strE,ry.strE,by rw[i6,i6];exact oE c,by rw[Ce];exact rh S q⟩
   ·rw[aO c]at q;exact q.elim
  |_=>exact q.elim
 |tup a=>
  cases wy with
  |tup b=>
   obtain⟨p1,vs1,rfl,h1,r1⟩:=rx.tupE
   obtain⟨p2,vs2,rfl,h2,r2⟩:=ry.tupE
   have q':Fv X μ H Q (qj (a++b) st):=q
   unfold qj at q'
   by_cases c:(a++b).length<=mB
   ·rw[aF c]at q'
    refine NF.h ak s σ H _ _ v u Q I rv ru ⟨p1,p2,vs1,vs2,rfl,rfl,h1,h2,by rw[<- r1.len,<- r2.len,<- ai];exact oE c,fun p H2 e t=>?_⟩
    exact q' μ _ _ (ao _) (gc.same e) (S.same e) (.tupI t ((r1.app r2).mono (ao _) (gc.same e)))
   ·rw[aO c]at q';exact q'.elim
  |_=>exact q.elim
 |loc n=>
  cases wy with
  |loc m=>
   simp only[cQ]at q
   cases e1:st[n]? with
   |none=>rw[e1]at q;exact q.elim
   |some c1=>
    cases e2:st[m]? with
    |none=>rw[e1,e2]at q;cases c1<;>exact q.elim
    |some c2=>
     cases c1 with
     |lst a=>
      cases c2 with
      |lst b=>
       rw[e1,e2]at q
       obtain⟨a1,g1,vs1,k1,r1⟩:=S.get e1
       obtain⟨a2,g2,vs2,k2,r2⟩:=S.get e2
       obtain⟨b1,f1,rfl⟩:=rx.locE
       obtain⟨b2,f2,rfl⟩:=ry.locE
       rw[g1]at f1;cases f1
       rw[g2]at f2;cases f2
       obtain⟨hz,qq⟩:=vw (σ:=σ) S (r1.app r2) (NJ q)
       exact Kc ak s σ H _ _ v u Q I rv ru ⟨a1,a2,vs1,vs2,rfl,rfl,k1,k2,by rw[<- ai];exact hz,qq⟩
      |_=>rw[e1,e2]at q;exact q.elim
     |_=>rw[e1,e2]at q;exact q.elim
  |_=>exact q.elim
 |_=>cases wy<;>exact q.elim,fun x y st=>by
 unfold cQ
 split
 ·trivial
 ·split<;>trivial
 ·exact Kk _ _
 ·split
  ·exact Kl _ _
  ·trivial
 ·trivial⟩
abbrev NN:=ET fun i j=>decide (i<j)
abbrev Fx:=ET fun i j=>decide (j<i)
abbrev NO:=ET fun i j=>decide (j<=i)
theorem w_lt:wW X (compareOp .Lt) NN:=GB Qr
theorem yR:wW X (compareOp .Gt) Fx:=GB Qs
theorem Km:wW X (compareOp .GtE) NO:=GB Qt
end
end L2
namespace L2
open PySem PySem.Spec PyProof.Rows
mutual
def kR:W->W->Option Bool
 |.non,.non=>some true
 |.bl a,.bl b=>some (a==b)
 |.bl a,.int b=>some ((if a then 1 else 0)==b)
 |.int a,.bl b=>some (a==(if b then 1 else 0))
 |.int a,.int b=>some (a==b)
 |.str a,.str b=>some (a==b)
 |.tup a,.tup b=>eqWs a b
 |.loc _,_=>none
 |.non,.loc _=>none
 |.bl _,.loc _=>none
 |.int _,.loc _=>none
 |.str _,.loc _=>none
 |.tup _,.loc _=>none
 |.non,.bl _=>some false
 |.non,.int _=>some false
 |.non,.str _=>some false
 |.non,.tup _=>some false
 |.bl _,.non=>some false
 |.bl _,.str _=>some false
 |.bl _,.tup _=>some false
 |.int _,.non=>some false
 |.int _,.str _=>some false
 |.int _,.tup _=>some false
 |.str _,.non=>some false
 |.str _,.bl _=>some false
 |.str _,.int _=>some false
 |.str _,.tup _=>some false
 |.tup _,.non=>some false
 |.tup _,.bl _=>some false
 |.tup _,.int _=>some false
 |.tup _,.str _=>some false
def eqWs:List W->List W->Option Bool
 |[],[]=>some true
 |[],_::_=>some false
 |_::_,[]=>some false
 |x::xs,y::ys=>match kR x y,eqWs xs ys with
  |some a,some b=>some (a&&b)
  |_,_=>none
end
mutual
def W.dep:W->Nat
 |.tup ws=>depWs ws+1
 |_=>0
def depWs:List W->Nat
 |[]=>0
 |w::ws=>max w.dep (depWs ws)
end
theorem qC:∀(xs ys:List W) (b:Bool),eqWs xs ys=some b->∃e:Nat->Bool,(∀j (h1:j<xs.length) (h2:j<ys.length),kR xs[j] ys[j]=some (e j))/\((List.range (min xs.length ys.length)).all e&&xs.length==ys.length)=b
 |[],[],b,h=>by unfold eqWs at h;cases h;exact⟨fun _=>true,fun j h1=>absurd h1 (iW _),rfl⟩
 |[],y::ys,b,h=>by unfold eqWs at h;cases h;exact⟨fun _=>true,fun j h1=>absurd h1 (iW _),by simp⟩
 |x::xs,[],b,h=>by unfold eqWs at h;cases h;exact⟨fun _=>true,fun j _ h1=>absurd h1 (iW _),by simp⟩
 |x::xs,y::ys,b,h=>by
  unfold eqWs at h
  cases e1:kR x y with
  |none=>rw[e1]at h;simp at h
  |some a=>
   cases e2:eqWs xs ys with
   |none=>rw[e1,e2]at h;simp at h
   |some c=>
    rw[e1,e2]at h
    simp at h
    obtain⟨e,he,hb⟩:=qC xs ys c e2
    refine⟨fun j=>match j with|0=>a|j+1=>e j,fun j h1 h2=>?_,?_⟩
    ·cases j with
     |zero=>exact e1
     |succ j=>exact he j (jA h1) (jA h2)
    ·have m:min (x::xs).length (y::ys).length=min xs.length ys.length+1:=by simp only[bh];omega
     rw[m,nz,List.all_cons,List.all_map,<- h,<- hb]
     simp[Function.comp_def,Bool.and_assoc]
theorem DI{a b:W}{x:V}{k:Bool}(hn:a.dep<=0)(ra:bH X.K μ H a x)(rb:bH X.K μ H b x)(he:kR a b=some k):k=true:=by
 cases a with
 |tup i=>unfold W.dep at hn;omega
 |non=>cases ra.nonE;cases b<;>first|(unfold kR at he;cases he;rfl)|cases rb.blE|cases rb.intE|cases rb.strE|(obtain⟨_,_,z,_⟩:=rb.tupE;cases z)|(unfold kR at he;cases he)
 |bl i=>cases ra.blE;cases b<;>first|(cases rb.blE;unfold kR at he;simp at he;exact he)|cases rb.nonE|cases rb.intE|cases rb.strE|(obtain⟨_,_,z,_⟩:=rb.tupE;cases z)|(unfold kR at he;cases he)
 |int i=>cases ra.intE;cases b<;>first|(cases rb.intE;unfold kR at he;simp at he;exact he)|cases rb.nonE|cases rb.blE|cases rb.strE|(obtain⟨_,_,z,_⟩:=rb.tupE;cases z)|(unfold kR at he;cases he)
 |str i=>cases ra.strE;cases b<;>first|(have z:=rb.strE;injection z with z;rw[yK.mp z]at he;unfold kR at he;simp at he;exact he)|cases rb.nonE|cases rb.blE|cases rb.intE|(obtain⟨_,_,z,_⟩:=rb.tupE;cases z)|(unfold kR at he;cases he)
 |loc i=>cases b<;>(unfold kR at he;cases he)
theorem GE(I:bQ X ak σ H s):∀(n:Nat) (a b:W) (x:V) (k:Bool),a.dep<=n->bH X.K μ H a x->bH X.K μ H b x->kR a b=some k->k=true:=by
 intro n
 induction n with
 |zero=>exact fun a b x k hn ra rb he=>DI hn ra rb he
 |succ n ih=>
  intro a b x k hn ra rb he
  cases a with
  |tup i=>
   obtain⟨p',Dh,rfl,hS',r'⟩:=ra.tupE
   cases b with
   |tup z=>
    obtain⟨p,vs,e,hS,r⟩:=rb.tupE
    cases e
    obtain rfl:=I.tuple_inj hS hS'
    have he':eqWs i z=some k:=by unfold kR at he;exact he
    have dn:depWs i<=n:=by unfold W.dep at hn;omega
    have key:∀(i z:List W) (vs:List V) (k:Bool),depWs i<=n->RelWs X.K μ H i vs->RelWs X.K μ H z vs->eqWs i z=some k->k=true:=by
     intro i
     induction i with
     |nil=>
      intro z vs k _ r' r he
      have e1:=r'.nilE
      subst e1
      cases z with
      |nil=>unfold eqWs at he;cases he;rfl
      |cons _ _=>have e2:=r.len;simp at e2
     |cons w i ih2=>
      intro z vs k dn r' r he
      obtain⟨x,xs,rfl,rx,rxs⟩:=r'.consE
      cases z with
      |nil=>have e2:=r.len;simp at e2
      |cons y z=>
       obtain⟨x2,xs2,e3,ry,rys⟩:=r.consE
       cases e3
       unfold eqWs at he
       cases e1:kR w y with
       |none=>rw[e1]at he;simp at he
       |some k1=>
        cases e2:eqWs i z with
        |none=>rw[e1,e2]at he;simp at he
        |some k2=>
         rw[e1,e2]at he
         simp at he
         unfold depWs at dn
         have q1:=ih w y x k1 #[0] rx ry e1
         have q2:=ih2 z xs k2 #[0] rxs rys e2
         rw[<- he,q1,q2];rfl
    exact key i z _ k dn r' r he'
   |non=>cases rb.nonE
   |bl z=>cases rb.blE
   |int z=>cases rb.intE
   |str z=>cases rb.strE
   |loc z=>unfold kR at he;cases he
  |_=>exact DI (az _) ra rb he
theorem sY:∀{ws:List W} {j:Nat} (h:j<ws.length),ws[j].dep<=depWs ws
 |w::ws,0,_=>by unfold depWs;exact Nat.le_max_left _ _
 |w::ws,j+1,h=>by unfold depWs;exact aN (sY (j:=j) (jA h)) (Nat.le_max_right _ _)
inductive Sh(s:Shared):W->Value->Prop
 |non:Sh s .non .none
 |bl (b:Bool):Sh s (.bl b) (.bool b)
 |int (i:Int) (t:Tok):Sh s (.int i) (.int i t)
 |str (l:List Nat) (t:Tok):Sh s (.str l) (.str (tx l) t)
 |tup (ws:List W) (p:Addr) (bJ:List Value) (h:IsTup s.heap p bJ.toArray):Sh s (.tup ws) (.ref p)
 |loc (n:Nat) (u:Value):Sh s (.loc n) u
section
theorem ud(I:bQ X ak σ H s){a:W}{x:V}(ra:bH X.K μ H a x)(ru:c8 s.toks x u):Sh s a u:=by
 cases a with
 |non=>cases ra.nonE;cases ru;exact .non
 |bl i=>cases ra.blE;cases ru;exact .bl _
 |int i=>cases ra.intE;obtain⟨t,rfl⟩:=ru;exact .int _ _
 |str i=>cases ra.strE;obtain⟨t,rfl⟩:=ru;exact .str _ _
 |tup i=>obtain⟨p,vs,rfl,hS,_⟩:=ra.tupE;cases ru;obtain⟨bJ,_,ht,_⟩:=I.tuple hS;exact .tup _ _ _ ht
 |loc i=>exact .loc _ _
open SeqAt.EqAt in
theorem DJ{a b:W}{k:Bool}(ha:Sh s a u)(hb:Sh s b v)(hu:A.units<cLine)(ht:b.dep=0\/a.dep=0)(he:kR a b=some k):SeqAt.EqAt A s u v k:=by
 cases ha<;>cases hb<;>first
  |(unfold kR at he;cases he;done)
  |(unfold kR at he;cases he;with_reducible first|exact same _|exact bool_none _|exact bool_bool _ _|exact bool_int _ _ _|exact bool_str _ _ _|exact int_none _ _|exact int_bool _ _ _|exact int_int _ _ _ _|exact int_str _ _ _ _|exact str_none _ _|exact str_bool _ _ _|exact str_int _ _ _ _|exact none_bool _|exact none_int _ _|exact none_str _ _)
  |(unfold kR at he;cases he;(with_reducible first|refine' bool_tuple _ ?_ hu|refine' int_tuple _ _ ?_ hu|refine' str_tuple _ _ ?_ hu|refine' tuple_none ?_ hu|refine' tuple_bool _ ?_ hu|refine' tuple_int _ _ ?_ hu|refine' tuple_str _ _ ?_ hu|refine' none_tuple ?_ hu);rotate_left;assumption)
  |(unfold W.dep at ht;omega)
  |skip
 rename_i i t z r
 unfold kR at he;cases he
 have:=str_str (A:=A) (s:=s) (tx i) t (tx z) r
 rw[<- qx]at this
 exact this
open SeqAt.RcAt in
theorem Kn{a b:W}{k:Bool}(ha:Sh s a u)(hb:Sh s b v)(hu:A.units<cLine)(ht:b.dep=0\/a.dep=0)(he:kR a b=some k):SeqAt.RcAt A s u v k:=by
 cases ha<;>cases hb<;>first
  |(unfold kR at he;cases he;done)
  |(unfold kR at he;cases he;with_reducible first|exact none_none|exact bool_none _|exact bool_bool _ _|exact bool_int _ _ _|exact bool_str _ _ _|exact int_none _ _|exact int_bool _ _ _|exact int_int _ _ _ _|exact int_str _ _ _ _|exact str_none _ _|exact str_bool _ _ _|exact str_int _ _ _ _|exact none_bool _|exact none_int _ _|exact none_str _ _)
  |(unfold kR at he;cases he;(with_reducible first|refine' bool_tuple _ ?_ hu|refine' int_tuple _ _ ?_ hu|refine' str_tuple _ _ ?_ hu|refine' tuple_none ?_ hu|refine' tuple_bool _ ?_ hu|refine' tuple_int _ _ ?_ hu|refine' tuple_str _ _ ?_ hu|refine' none_tuple ?_ hu);rotate_left;assumption)
  |(unfold W.dep at ht;omega)
  |skip
 rename_i i t z r
 unfold kR at he;cases he
 have:=str_str (A:=A) (s:=s) (tx i) t (tx z) r
 rw[<- qx]at this
 exact this
open SeqAt.RcNeAt in
theorem EU         {a b:W}  {k:Bool} (ha : Sh s a u) (hb : Sh s b v) (hu : A.units < cLine) (ht : b.dep = 0 \/ a.dep = 0) (he : kR  a b = some k) : SeqAt.RcNeAt A s u v (!k) := by
  cases ha <;> cases hb <;> first
    | (unfold kR  at he; cases he; done)
    | (unfold kR  at he; cases he; try simp only [Bool.not_true, Bool.not_false]
       with_reducible first | exact none_none | exact bool_none _ | exact bool_bool _ _ | exact bool_int _ _ _ | exact bool_str _ _ _ | exact int_none _ _ | exact int_bool _ _ _ | exact int_int _ _ _ _ | exact int_str _ _ _ _ | exact str_none _ _ | exact str_bool _ _ _ | exact str_int _ _ _ _ | exact none_bool _ | exact none_int _ _ | exact none_str _ _)
    | (unfold kR  at he; cases he; try simp only [Bool.not_true, Bool.not_false]
       (with_reducible first | refine' bool_tuple _ ?_ hu | refine' int_tuple _ _ ?_ hu | refine' str_tuple _ _ ?_ hu | refine' tuple_none ?_ hu | refine' tuple_bool _ ?_ hu | refine' tuple_int _ _ ?_ hu | refine' tuple_str _ _ ?_ hu | refine' none_tuple ?_ hu); rotate_left; assumption)
    | (unfold W.dep at ht; omega)
    | skip
  rename_i i t z r
  unfold kR  at he; cases he
  have := str_str (A := A) (s := s) (tx i) t (tx z) r
  rw [<- qx           ] at this
  exact this
theorem AC{i z:List W}{Dh:List V}{its':List Value}{e:Nat->Bool}{A:Around}{m:Nat}(ih:∀(a b:W) (A:Around) (x y:V) (u v:Value) (k:Bool),a.dep<=m->bH X.K μ H a x->bH X.K μ H b y->c8 nk x u->c8 nk y v->A.units+m<cLine->kR a b=some k->SeqAt.EqAt A s u v k)
  (r':RelWs X.K μ H i Dh) (r:RelWs X.K μ H z vs) (w':cL nk Dh its') (w:cL nk vs bJ) (hd:depWs i<=m) (hu:A.units+1+m<cLine) (h1:∀j (h1:j<i.length) (h2:j<z.length),kR i[j] z[j]=some (e j)):∀j (j1:j<its'.toArray.size) (j2:j<bJ.toArray.size),SeqAt.EqAt A.in1 s its'.toArray[j] bJ.toArray[j] (e j):=fun j j1 j2=>by
 have j1':j<i.length:=by rw[r'.len,w'.length];simpa using j1
 have j2':j<z.length:=by rw[r.len,w.length];simpa using j2
 obtain⟨x1,g1,q1⟩:=r'.get (aj j1')
 obtain⟨x2,g2,q2⟩:=r.get (aj j2')
 obtain⟨u1,f1,v1⟩:=w'.get g1
 obtain⟨u2,f2,v2⟩:=w.get g2
 have E:=ih i[j] z[j] A.in1 x1 x2 u1 u2 (e j) (aN (sY j1') hd) q1 q2 v1 v2 hu (h1 j j1' j2')
 have t1:its'.toArray[j]=u1:=by simpa using (au.mp f1).2
 have t2:bJ.toArray[j]=u2:=by simpa using (au.mp f2).2
 rw[t1,t2];exact E
theorem GF(I:bQ X ak σ H s):∀(n:Nat) (a b:W) (A:Around) (x y:V) (u v:Value) (k:Bool),a.dep<=n->bH X.K μ H a x->bH X.K μ H b y->c8 s.toks x u->c8 s.toks y v->A.units+n<cLine->kR a b=some k->SeqAt.EqAt A s u v k:=by
 intro n
 induction n with
 |zero=>exact fun a b A x y u v k hn ra rb ru rv hu he=>DJ (ud I ra ru) (ud I rb rv) hu (.inr (by omega)) he
 |succ m ih=>
  intro a b A x y u v k hn ra rb ru rv hu he
  by_cases hb:b.dep=0\/a.dep=0
  ·exact DJ (ud I ra ru) (ud I rb rv) #[0] hb he
  ·cases b with
   |tup z=>
    cases a with
    |tup i=>
     obtain⟨p',Dh,rfl,hS',r'⟩:=id ra.tupE;cases ru;obtain⟨its',w',ht',_⟩:=I.tuple hS'
     obtain⟨p,vs,rfl,hS,r⟩:=id rb.tupE;cases rv;obtain⟨bJ,w,ht,_⟩:=I.tuple hS
     by_cases z_:p'=p
     ·subst z_
      rw[GE I (m+1) (.tup i) (.tup z) (.ref p') k hn ra rb he]
      exact SeqAt.EqAt.same _
     ·obtain⟨e,h1,h2⟩:=qC i z k (by unfold kR at he;exact he)
      have R:=SeqAt.RcAt.tuples (A:=A) (e:=e) ht' ht #[0] (AC ih r' r w' w (by unfold W.dep at hn;omega) #[0] h1)
      rw[show its'.toArray.size=i.length by simp[<- w'.length,<- r'.len],show bJ.toArray.size=z.length by simp[<- w.length,<- r.len],h2]at R
      exact SeqAt.EqAt.of_refs z_ R
    |_=>exact(hb (.inr rfl)).elim
   |_=>exact(hb (.inl rfl)).elim
theorem GG(I:bQ X ak σ H s){a b:W}{x y:V}{k:Bool}(hn:b.dep=0\/a.dep<=n)(ra:bH X.K μ H a x)(rb:bH X.K μ H b y)(ru:c8 s.toks x u)(rv:c8 s.toks y v)(hu:A.units+n<cLine)(he:kR a b=some k):SeqAt.RcAt A s u v k/\SeqAt.RcNeAt A s u v (!k):=by
 by_cases hb:b.dep=0\/a.dep=0
 ·exact⟨Kn (ud I ra ru) (ud I rb rv) #[0] hb he,EU (ud I ra ru) (ud I rb rv) #[0] hb he⟩
 cases b with
 |tup z=>
  cases a with
  |tup i=>
   obtain⟨p',Dh,rfl,hS',r'⟩:=ra.tupE;cases ru;obtain⟨its',w',ht',_⟩:=I.tuple hS'
   obtain⟨p,vs,rfl,hS,r⟩:=rb.tupE;cases rv;obtain⟨bJ,w,ht,_⟩:=I.tuple hS
   obtain⟨e,h1,h2⟩:=qC i z k (by unfold kR at he;exact he)
   have hd:depWs i+1<=n:=hn.elim (fun z=>(hb (.inl z)).elim) id
   obtain⟨m,rfl⟩:∃m,n=m+1:=⟨n-1,by omega⟩
   have T:=AC (A:=A) (GF I m) r' r w' w #[0] #[0] h1
   have R:=SeqAt.RcAt.tuples (A:=A) (e:=e) ht' ht #[0] T
   have R2:=SeqAt.RcNeAt.tuples (A:=A) (e:=e) ht' ht #[0] T
   rw[show its'.toArray.size=i.length by simp[<- w'.length,<- r'.len],show bJ.toArray.size=z.length by simp[<- w.length,<- r.len],h2]at R R2
   exact⟨R,R2⟩
  |_=>exact(hb (.inr rfl)).elim
 |_=>exact(hb (.inl rfl)).elim
end
def iC:W->W->List am->R W:=fun x y st=>match kR x y with
 |some k=>if y.dep=0\/x.dep<=64 then .ok (.bl k) st else .bad
 |none=>.bad
theorem gY{k:Nat}(hr:iL k X.A):wW X (compareOp .Eq) iC:=⟨fun ak s σ H x y v u Q I rv ru zq=>by
 obtain⟨μ,st,wx,wy,S,rx,ry,q⟩:=zq
 unfold iC at q
 cases e:kR wx wy with
 |none=>rw[e]at q;exact q.elim
 |some b=>
  rw[e]at q
  simp only at q
  by_cases c:wy.dep=0\/wx.dep<=64
  ·rw[aF c]at q
   have:=hr.units
   exact(GG I c rx ry rv ru this e).1 X.prog X.w X.xe _ ⟨.bl b,H,I,rfl,sV S q⟩
  ·rw[aO c]at q;exact q.elim,fun x y st=>by
 unfold iC
 split
 ·split<;>trivial
 ·trivial⟩
def Jv:W->W->List am->R W:=fun x y st=>match kR x y with
 |some k=>if y.dep=0\/x.dep<=64 then .ok (.bl (!k)) st else .bad
 |none=>.bad
theorem NP{k:Nat}(hr:iL k X.A):wW X (compareOp .NotEq) Jv:=⟨fun ak s σ H x y v u Q I rv ru zq=>by
 obtain⟨μ,st,wx,wy,S,rx,ry,q⟩:=zq
 unfold Jv at q
 cases e:kR wx wy with
 |none=>rw[e]at q;exact q.elim
 |some b=>
  rw[e]at q
  simp only at q
  by_cases c:wy.dep=0\/wx.dep<=64
  ·rw[aF c]at q
   have:=hr.units
   exact(GG I c rx ry rv ru this e).2 X.prog X.w X.xe _ ⟨.bl (!b),H,I,rfl,sV S q⟩
  ·rw[aO c]at q;exact q.elim,fun x y st=>by
 unfold Jv
 split
 ·split<;>trivial
 ·trivial⟩
def wX(x:W):List W->Option Bool
 |[]=>some false
 |y::ys=>match kR y x,wX x ys with
  |some a,some b=>some (a||b)
  |_,_=>none
def Fy(Sx:Bool)(x y:W)(st:List am):R W:=match y with
 |.str l=>(match x with
  |.str [c]=>.ok (.bl (if Sx then !decide (c∈l)else decide (c∈l))) st
  |_=>.bad)
 |.tup ys=>(match wX x ys with
  |some k=>if depWs ys<=63 then .ok (.bl (if Sx then !k else k)) st else .bad
  |none=>.bad)
 |.loc n=>(match st[n]? with
  |some (.lst ys)=>(match wX x ys with
   |some k=>if depWs ys<=63 then .ok (.bl (if Sx then !k else k)) st else .bad
   |none=>.bad)
  |_=>.bad)
 |_=>.bad
theorem AD{x:W}:∀{ys:List W} {k:Bool},wX x ys=some k->(∀(j:Nat) w,ys[j]?=some w->∃b,kR w x=some b)/\(k=true↔∃(j:Nat) (w:W),ys[j]?=some w/\kR w x=some true)
 |[],k,h=>by
  unfold wX at h;cases h
  exact⟨fun j w e=>by simp at e,fun z=>(by cases z),fun⟨j,w,e,_⟩=>(by simp at e)⟩
 |y::ys,k,h=>by
  unfold wX at h
  cases e1:kR y x with
  |none=>rw[e1]at h;simp at h
  |some a=>
   cases e2:wX x ys with
   |none=>rw[e1,e2]at h;simp at h
   |some b=>
    rw[e1,e2]at h
    simp at h
    obtain⟨q1,q2⟩:=AD e2
    refine⟨fun j w e=>?_,fun z=>?_,fun⟨j,w,e,f⟩=>?_⟩
    ·cases j with
     |zero=>simp at e;subst e;exact⟨a,e1⟩
     |succ j=>exact q1 j w (by simpa using e)
    ·rw[<- h]at z
     cases a with
     |true=>exact⟨0,y,rfl,e1⟩
     |false=>
      obtain⟨j,w,p,q⟩:=q2.mp (by simpa using z)
      exact⟨j+1,w,by simpa using p,q⟩
    ·rw[<- h]
     cases j with
     |zero=>simp at e;subst e;rw[e1]at f;cases f;rfl
     |succ j=>rw[q2.mpr ⟨j,w,by simpa using e,f⟩];simp
theorem vx(I:bQ X ak σ H s){wx:W}{x:V}(rx:bH X.K μ H wx x)(rv:c8 s.toks x v)(n:Nat){A:Around}(hu:A.units+n<cLine)
  {ys:List W} {vs:List V} {us:List Value} {k:Bool} (hd:depWs ys<=n) (rs:RelWs X.K μ H ys vs) (oq:cL s.toks vs us) (ha:wX wx ys=some k):∃e:Value->Bool,(∀u,u∈us.toArray->SeqAt.EqAt A s u v (e u))/\us.toArray.any e=k:=by
 classical
 obtain⟨q1,q2⟩:=AD ha
 have at':∀(j:Nat) (u:Value),us[j]?=some u->∃w b,ys[j]?=some w/\kR w wx=some b/\SeqAt.EqAt A s u v b:=fun j u e=>by
  have hj:j<ys.length:=by
   have h1:=(au.mp e).1
   rw[rs.len,oq.length];exact h1
  obtain⟨b,hb⟩:=q1 j ys[j] (aj hj)
  obtain⟨y,g1,r1⟩:=rs.get (aj hj)
  obtain⟨u',f1,v1⟩:=oq.get g1
  rw[e]at f1;cases f1
  exact⟨_,b,aj hj,hb,GF I n ys[j] wx A y x u v b (aN (sY hj) hd) r1 rx v1 rv hu hb⟩
 refine⟨fun u=>decide (∃(j:Nat) (w:W),us[j]?=some u/\ys[j]?=some w/\kR w wx=some true),fun u hu=>?_,?_⟩
 ·by_cases c:∃(j:Nat) (w:W),us[j]?=some u/\ys[j]?=some w/\kR w wx=some true
  ·show SeqAt.EqAt A s u v (decide _)
   rw[bn c]
   obtain⟨j,w,e1,e2,e3⟩:=c
   obtain⟨w',b,f1,f2,f3⟩:=at' j u e1
   rw[e2]at f1;cases f1
   rw[e3]at f2;cases f2
   exact f3
  ·show SeqAt.EqAt A s u v (decide _)
   rw[aV c]
   obtain⟨j,hj,e⟩:=List.mem_iff_getElem.mp (show u∈us by simpa using hu)
   have e':us[j]?=some u:=by rw[aj hj,e]
   obtain⟨w',b,f1,f2,f3⟩:=at' j u e'
   cases b with
   |false=>exact f3
   |true=>exact absurd ⟨j,w',e',f1,f2⟩ c
 ·rw[List.any_toArray]
  cases k with
  |true=>
   obtain⟨j,w,e1,e2⟩:=q2.mp rfl
   have hj:j<us.length:=by rw[<- oq.length,<- rs.len];exact(au.mp e1).1
   exact List.any_eq_true.mpr ⟨us[j],dR hj,bn ⟨j,w,aj hj,e1,e2⟩⟩
  |false=>
   refine List.any_eq_false.mpr fun u _ c=>?_
   obtain⟨j,w,_,e1,e2⟩:=of_decide_eq_true c
   have:=q2.mpr ⟨j,w,e1,e2⟩
   cases this
theorem Ko{k:Nat}(hr:iL k X.A):wW X (compareOp .In) (Fy false):=⟨fun ak s σ H x y v u Q I rv ru zq=>by
 obtain⟨μ,st,wx,wy,S,rx,ry,q⟩:=zq
 have hu:=hr.units
 cases wy with
 |str l=>
  simp only[Fy]at q
  split at q
  ·exact EG ak s σ H x y v u Q I rv ru ⟨_,_,rx.strE,ry.strE,sV S q⟩
  ·exact q.elim
 |tup ys=>
  simp only[Fy]at q
  cases hk:wX wx ys with
  |none=>rw[hk]at q;exact q.elim
  |some kk=>
   rw[hk]at q
   simp only at q
   by_cases c:depWs ys<=63
   ·rw[aF c]at q
    obtain⟨p,vs,rfl,hS,r⟩:=ry.tupE
    cases ru
    obtain⟨bJ,w,ht,_⟩:=I.tuple hS
    obtain⟨e,he,ha⟩:=vx (A:=X.A.in1) I rx rv 63 (by show X.A.units+1+63<cLine;omega) c r w hk
    exact SeqAt.in_tupleAt e ht he ⟨.bl _,H,I,rfl,by rw[ha];exact sV S q⟩
   ·rw[aO c]at q;exact q.elim
 |loc n=>
  simp only[Fy]at q
  cases e1:st[n]? with
  |none=>rw[e1]at q;exact q.elim
  |some cc=>
   rw[e1]at q
   cases cc with
   |lst ys=>
    simp only at q
    cases hk:wX wx ys with
    |none=>rw[hk]at q;exact q.elim
    |some kk=>
     rw[hk]at q
     simp only at q
     by_cases c:depWs ys<=63
     ·rw[aF c]at q
      obtain⟨a1,g1,vs,k1,r⟩:=S.get e1
      obtain⟨b1,f1,rfl⟩:=ry.locE
      rw[g1]at f1;cases f1
      cases ru
      obtain⟨bJ,w,ht,_⟩:=I.list (sK.of k1)
      obtain⟨e,he,ha⟩:=vx (A:=X.A.in1) I rx rv 63 (by show X.A.units+1+63<cLine;omega) c r w hk
      exact SeqAt.in_listAt e ht.isList he ⟨.bl _,H,I,rfl,by rw[ha];exact sV S q⟩
     ·rw[aO c]at q;exact q.elim
   |_=>exact q.elim
 |_=>exact q.elim,fun x y st=>by
 unfold Fy
 repeat' split
 all_goals trivial⟩
end L2
namespace L2
open PySem PySem.Spec PyProof.Rows
section
variable{w:World}
theorem AE{t sl:Addr}{items:Array Value}{vl vu:Value}{lo hi:Option Int}(ht:IsTup s.heap t items)(hs:s.heap.IsSliceOf sl vl vu .none)(pl:IsPart vl lo)(pu:IsPart vu hi)
  (hw:HT.sIx items.size 0 lo=0/\HT.sIx items.size items.size hi=items.size) (h:Q (.ref t) s):wpAny #[8] A (getItem (.ref t) (.ref sl)) Q E s:=by
 obtain⟨os,hos,hcs,MB⟩:=id hs
 have hTs:s.TypeIs (.ref sl) "slice":=⟨os,hos,hcs⟩
 unfold getItem
 try with_reducible refine dm ?_
 first|refine af (ay ?_)|skip
 refine af (wpAny_sequenceKey ht.typeIs #[13] ?_)
 refine af (bT (name:=Str.ofString "__getitem__") ht.typeIs eM
  (b_ eM ht.typeIs entry_tuple_getitem ?_ (args_tuple_getitem _ _)))
 show wpAny _ _ (Builtin.Tuple.tupleItemsOf (.ref t) >>= _) _ _ s
 refine af (tupleItemsOf_ ht ?_)
 refine af (iy hTs ?_)
 rw[aF #[13]]
 refine af (HT.sliceApplied_gen hs pl pu ?_)
 have hyes:(((HT.sIx items.size 0 lo:Nat):Int)==0&&(1:Int)==1&&(HT.sIx items.size items.size hi-HT.sIx items.size 0 lo)==items.size)=true:=by
  rw[hw.1,hw.2];simp
 show wpAny _ _ (if (((HT.sIx items.size 0 lo:Nat):Int)==0&&(1:Int)==1&&(HT.sIx items.size items.size hi-HT.sIx items.size 0 lo)==items.size)=true then _ else _) _ _ s
 rw[aF hyes]
 unfold Builtin.Tuple.tupleIsExact
 obtain⟨ot,hot,hct,nt,hdt⟩:=id ht
 refine af (af (iy (T:="tuple") ht.typeIs ?_))
 refine ay ?_
 rw[aF #[13]]
 exact af (jU (ay ⟨_,rfl,ay h⟩))
end
section
variable{a b:Expr}{x:Str}{fb fc:FE}{fs:FA}
def lstOf(st:List am)(n:Nat):Option (List W):=match st[n]? with
 |some (.lst ws)=>some ws
 |some (.ro ws)=>some ws
 |_=>none
theorem jk.lstOf(S:jk K mg μ st H)(h:lstOf st n=some ws):∃a vs,μ[n]?=some a/\sK K H a vs/\RelWs K μ H ws vs:=by
 unfold L2.lstOf at h
 cases e:st[n]? with
 |none=>rw[e]at h;cases h
 |some cc=>
  rw[e]at h
  cases cc with
  |lst zs=>cases h;obtain⟨a,g,vs,k,r⟩:=S.get e;exact⟨a,vs,g,sK.of k,r⟩
  |ro zs=>cases h;obtain⟨a,g,vs,k,r⟩:=S.get e;exact⟨a,vs,g,k.sq,r⟩
  |exc zs=>cases h
  |dct zs=>cases h
  |rod zs=>cases h
  |dcx zs=>cases h
  |rox zs=>cases h
  |obj _ _=>cases h
  |tab _ _ _=>cases h
  |pin _ _ _ _=>cases h
  |gone=>cases h
def sZ(o:Option α)(k:α->R W):R W:=match o with
 |some a=>k a
 |none=>.bad
@[simp] theorem eV{α:Type}(a:α)(k:α->R W):sZ (some a) k=k a:=rfl
def bj(x y:W)(st:List am):R W:=match x,y with
 |.tup ws,.int i=>sZ (sO ws i) fun w=>.ok w st
 |.str l,.int i=>if l.length<=mB then sZ (sO l i) (fun c=>.ok (.str [c]) st)else .bad
 |.loc n,.int i=>sZ (lstOf st n) fun ws=>sZ (sO ws i) fun w=>.ok w st
 |_,_=>.bad
theorem DL{i:Int}{w:W}(r:RelWs K μ H ws vs)(h:sO ws i=some w):∃v,sO vs i=some v/\bH K μ H w v:=by
 unfold sO at h ⊢
 rw[<- r.len]
 cases e:Dt ws.length i with
 |none=>rw[e]at h;cases h
 |some k=>rw[e]at h;exact r.get h
theorem Ul:Jt X (Uk X bj):=fun value slice ak s σ H x y v u Q I rv ru zq hs=>by
 obtain⟨μ,st,wx,wy,S,rx,ry,q⟩:=zq
 refine Nn value slice ak s σ H x y v u Q I rv ru ?_ hs
 cases wy with
 |int i=>
  cases wx with
  |tup ws=>
   simp only[bj]at q
   cases e1:sO ws i with
   |none=>rw[e1]at q;exact q.elim
   |some w=>
    rw[e1]at q
    obtain⟨p,vs,rfl,hS,r⟩:=rx.tupE
    obtain⟨z,f,g⟩:=DL r e1
    exact .inr (.inl ⟨p,vs,i,z,rfl,ry.intE,hS,f,q μ z H (ao _) fw.refl S g⟩)
  |str l=>
   simp only[bj]at q
   by_cases c:l.length<=mB
   ·rw[aF c]at q
    cases e1:sO l i with
    |none=>rw[e1]at q;exact q.elim
    |some w=>
     rw[e1]at q
     exact .inr (.inr ⟨_,i,w,rx.strE,ry.intE,by rw[i6];exact oE c,by rw[Nv];exact e1,rh S q⟩)
   ·rw[aO c]at q;exact q.elim
  |loc n=>
   simp only[bj]at q
   cases e0:lstOf st n with
   |none=>rw[e0]at q;exact q.elim
   |some ws=>
    rw[e0]at q
    cases e1:sO ws i with
    |none=>rw[eV,e1]at q;exact q.elim
    |some w=>
     rw[eV,e1]at q
     obtain⟨a,vs,g,hS,r⟩:=S.lstOf e0
     obtain⟨b1,f1,rfl⟩:=rx.locE
     rw[g]at f1;cases f1
     obtain⟨z,f,g⟩:=DL r e1
     exact .inl ⟨_,vs,i,z,rfl,ry.intE,hS,f,q μ z H (ao _) fw.refl S g⟩
  |_=>exact q.elim
 |_=>cases wx<;>exact q.elim
theorem ue{o:Option α}{k:α->R W}(h:∀a,uD (k a)):uD (sZ o k):=by
 unfold sZ
 split
 ·exact h _
 ·trivial
theorem Rg(x y:W)(st:List am):uD (bj x y st):=by
 unfold bj
 split
 ·exact ue fun _=>trivial
 ·split
  ·exact ue fun _=>trivial
  ·trivial
 ·exact ue fun _=>ue fun _=>trivial
 ·trivial
theorem bd(ha:SE X a fa)(hb:SE X b fb)(hs:Dv b:=by intro _ _;rfl):SE X (.Subscript a b pos) (e2 bj fa fb):=⟨(QD Ul ha.h hb.h hs).imp fun _ _ _ h=>DF Rg h⟩
abbrev FO:=cM->List am->R (Option Int)
abbrev Um:List Addr->Hp->Option Int->Option Int->Prop:=fun _ _ a b=>a=b
structure SO(X:Cx)(e:Option Expr)(f:FO):Prop where
 h:PO X e (tG X Um f)
def gO:FO:=fun _ st=>.ok none st
def eW(fa:FE):FO:=fun ρ st=>(fa ρ st).bind fun x st=>match x with
 |.int i=>.ok (some i) st
 |_=>.bad
theorem PO.imp{e:Option Expr}{t t':TO}(h:PO X e t)(i:∀σ H Q,t' σ H Q->t σ H Q):PO X e t':=fun ak s σ H Q I q=>h ak s σ H Q I (i _ _ _ q)
theorem fg:SO X none gO:=⟨JY.imp fun σ H Q h=>by
 walk_at "2"
 exact h μ none H (ao _) fw.refl l.sto rfl⟩
theorem dr(ha:SE X a fa):SO X (some a) (eW fa):=⟨(JZ ha.h).imp fun σ H Q h=>by
 walk_at "2"
 walk_at "1"
 cases x with
 |int k=>exact⟨k,q1.intE,h1 μ1 _ H1 (ao _) fw.refl l1.sto rfl⟩
 |_=>exact h1.elim⟩
def jp(xs:List α)(lo hi:Option Int):List α:=(xs.drop (HT.sIx xs.length 0 lo)).take (HT.sIx xs.length xs.length hi-HT.sIx xs.length 0 lo)
def wP(x:W)(lo hi:Option Int)(st:List am):R W:=match x with
 |.tup ws=>.ok (.tup (jp ws lo hi)) st
 |.str l=>if l.length<=mB then .ok (.str (jp l lo hi)) st else .bad
 |.loc n=>sZ (lstOf st n) fun ws=>.ok (.loc st.length) (st++[.lst (jp ws lo hi)])
 |_=>.bad
theorem Rh(x:W)(lo hi:Option Int)(st:List am):uD (wP x lo hi st):=by
 unfold wP sZ
 repeat' split
 all_goals trivial
def qD(fa:FE)(fl fh:FO):FE:=fun ρ st=>(fa ρ st).bind fun x st=>(fl ρ st).bind fun l st=>(fh ρ st).bind fun h st=>wP x l h st
theorem Uo:QB X (fun x lo hi H Q=>∃μ st wx,jk X.K X.mg μ st H/\bH X.K μ H wx x/\Fv X μ H Q (wP wx lo hi st)):=by
 intro ak s σ H x v vl vu lo hi sl Q I rv hs pl pu ⟨μ,st,wx,S,rx,q⟩
 cases wx with
 |tup ws=>
  obtain⟨p,vs,rfl,hS,r⟩:=rx.tupE
  have hl:=r.len
  by_cases hw:HT.sIx vs.length 0 lo=0/\HT.sIx vs.length vs.length hi=vs.length
  ·cases rv
   obtain⟨bJ,w,ht,hz⟩:=I.tuple hS
   have fY:bJ.toArray.size=vs.length:=by rw[aU];exact w.length.symm
   refine⟨"tuple",_,eM.lookup,ht.typeIs,AE ht hs pl pu (by rw[fY];exact hw) ⟨.ref p,H,I,rfl,?_⟩⟩
   have e:jp ws lo hi=ws:=by
    unfold jp
    rw[hl,hw.1,hw.2,List.drop_zero,Nat.sub_zero,<- hl,dS]
   have q':Fv X μ H Q (.ok (.tup (jp ws lo hi)) st):=q
   rw[e]at q'
   exact q' μ _ H (ao _) fw.refl S rx
  ·refine Nk ak s σ H _ v vl vu lo hi sl Q I rv hs pl pu ⟨p,vs,rfl,hS,hw,fun p2 JA=>?_⟩
   have x:=gc.same (K:=X.K) (dg JA (.tup (vd vs lo hi)))
   have rc:RelWs X.K μ H (jp ws lo hi) (vd vs lo hi):=by
    unfold jp vd
    rw[hl]
    exact(r.drop _).take _
   exact q μ _ _ (ao _) x (S.same (dg JA _)) (.tupI gc.new (rc.mono (ao _) x))
 |str l=>
  simp only[wP]at q
  by_cases c:l.length<=mB
  ·rw[aF c]at q
   exact Ny ak s σ H _ v vl vu lo hi sl Q I rv hs pl pu ⟨l,rx.strE,oE c,rh S q⟩
  ·rw[aO c]at q;exact q.elim
 |loc n=>
  simp only[wP]at q
  cases e0:lstOf st n with
  |none=>rw[e0]at q;exact q.elim
  |some ws=>
   rw[e0]at q
   obtain⟨a,vs,g,hS,r⟩:=S.lstOf e0
   obtain⟨b1,f1,rfl⟩:=rx.locE
   rw[g]at f1;cases f1
   have hl:=r.len
   refine J2 ak s σ H _ v vl vu lo hi sl Q I rv hs pl pu ⟨_,vs,rfl,hS,fun p2 JA=>?_⟩
   have rc:RelWs X.K μ H (jp ws lo hi) (vd vs lo hi):=by
    unfold jp vd
    rw[hl]
    exact(r.drop _).take _
   exact q (μ++[p2]) _ _ (be _ _) (gc.same (dg JA _)) (S.newLst JA rc) (oF S)
 |_=>exact q.elim
theorem k6{lo hi:Option Expr}{fl fh:FO}(ha:SE X a fa)(hl:SO X lo fl)(hh:SO X hi fh):SE X (.Subscript a (.Slice lo hi none p2) pos) (qD fa fl fh):=⟨(F2 Uo ha.h hl.h hh.h).imp fun σ H Q h=>by
 walk_at "2"
 refine⟨μ,ρ,st,l,RK.bind h l fun μ1 st1 x v H1 p1 x1 l1 q1 h1=>⟨μ1,ρ,st1,l1,RK.bind h1 l1 fun μ2 cZ y u H2 p2 x2 l2 q2 h2=>⟨μ2,ρ,cZ,l2,RK.bind h2 l2 fun μ3 lZ z t H3 p3 x3 l3 q3 h3=>?_⟩⟩⟩
 cases q2;cases q3
 exact⟨μ3,lZ,x,l3.sto,(q1.mono p2 x2).mono p3 x3,sT h3 (Rh _ _ _ _)⟩⟩
def U4(X:Cx)(F:List W->List am->R W):List V->Hp->VK->Prop:=fun vs H Q=>∃μ st ws,jk X.K X.mg μ st H/\RelWs X.K μ H ws vs/\Fv X μ H Q (F ws st)
structure oG(X:Cx)(f:Value)(F:List W->List am->R W):Prop where
 h:i' X f (U4 X F)
 n:∀ws st,uD (F ws st)
def bG(F:List W->List am->R W)(fs:FA):FE:=fun ρ st=>(fs ρ st).bind fun ws st=>F ws st
theorem DM{Q:VK}(n:∀ws st,uD (F ws st))(h:tE X (bG F fs) σ H Q):T5 (U4 X F) (Q5 X fs) σ H Q:=by
 walk_at "2"
 exact⟨μ,ρ,st,l,RK.bind h l fun μ1 st1 x v H1 p1 x1 l1 q1 h1=>⟨μ1,st1,x,l1.sto,q1,sT h1 (n _ _)⟩⟩
theorem bK{id:String}(hc:oG X (.builtin id) F)(hm:X.mg x=none)(hv:bootBuiltins x=some (.builtin id))(ha:SA X (e::es) fs)(hg:Gl X x:=by rfl)(hn:x ≠ "__name__":=by decide)(IS:(x==("__debug__":Str))=false:=by decide)
  (he:starEach (e::es) X.env=(false,eval e X.env)::starEach es X.env:=by rfl) (qe:(backTo pos (starEach es X.env)).any (·.1)=false:=by rfl):SE X (.Call (.Name x p) (e::es) [] pos) (bG F fs):=⟨(Ah hc.h hg hm hv ha.h hn IS he qe).imp fun _ _ _ h=>DM hc.n h⟩
theorem gl(hc:oG X (.type T) F)(hm:X.mg x=none)(hv:bootBuiltins x=some (.type T))(ha:SA X (e::es) fs)(hg:Gl X x:=by rfl)(hn:x ≠ "__name__":=by decide)(IS:(x==("__debug__":Str))=false:=by decide)
  (he:starEach (e::es) X.env=(false,eval e X.env)::starEach es X.env:=by rfl) (qe:(backTo pos (starEach es X.env)).any (·.1)=false:=by rfl):SE X (.Call (.Name x p) (e::es) [] pos) (bG F fs):=⟨(Ez hc.h hg hm hv ha.h hn IS he qe).imp fun _ _ _ h=>DM hc.n h⟩
theorem RelWs.two{a b:W}(r:RelWs K μ H [a,b] vs):∃x y,vs=[x,y]/\bH K μ H a x/\bH K μ H b y:=by
 obtain⟨x,xs,rfl,rx,rn⟩:=r.consE
 obtain⟨y,ys,rfl,ry,rm⟩:=rn.consE
 rw[rm.nilE];exact⟨x,y,rfl,rx,ry⟩
theorem RelWs.one{a:W}(r:RelWs K μ H [a] vs):∃x,vs=[x]/\bH K μ H a x:=by
 obtain⟨x,xs,rfl,rx,rn⟩:=r.consE
 rw[rn.nilE];exact⟨x,rfl,rx⟩
def dG(ws:List W)(st:List am):R W:=match ws with
 |[.tup xs]=>.ok (.int xs.length) st
 |[.str l]=>if l.length<=mB then .ok (.int l.length) st else .bad
 |[.loc n]=>sZ (lstOf st n) fun xs=>.ok (.int xs.length) st
 |_=>.bad
theorem dO:oG X (.builtin "len") dG:=⟨fun ak s σ H vs us Q I rv zq=>by
 obtain⟨μ,st,ws,S,r,q⟩:=zq
 unfold dG at q
 split at q
 ·obtain⟨x,rfl,rx⟩:=r.one
  obtain⟨p,ys,rfl,hS,r'⟩:=rx.tupE
  exact q5 ak s σ H _ us Q I rv ⟨p,ys,rfl,.inr hS,by rw[<- r'.len];exact kP S q⟩
 ·obtain⟨x,rfl,rx⟩:=r.one
  split at q
  ·rename_i c
   exact yF ak s σ H _ us Q I rv ⟨_,by rw[rx.strE],by rw[i6];exact oE c,by rw[i6];exact kP S q⟩
  ·exact q.elim
 ·obtain⟨x,rfl,rx⟩:=r.one
  unfold sZ at q
  split at q
  ·rename_i ys e0
   obtain⟨a,vs,g,hS,r'⟩:=S.lstOf e0
   obtain⟨b1,f1,rfl⟩:=rx.locE
   rw[g]at f1;cases f1
   exact q5 ak s σ H _ us Q I rv ⟨_,vs,rfl,.inl hS,by rw[<- r'.len];exact kP S q⟩
  ·exact q.elim
 ·exact q.elim,fun ws st=>by
 unfold dG sZ
 repeat' split
 all_goals trivial⟩
def Cr(ws:List W)(st:List am):R W:=match ws with
 |[.int i,.int j]=>.ok (.int (if j>i then j else i)) st
 |_=>.bad
def EV(ws:List W)(st:List am):R W:=match ws with
 |[.int i,.int j]=>.ok (.int (if j<i then j else i)) st
 |_=>.bad
theorem Ri(hc:X.calm=true:=by rfl):oG X (.builtin "max") Cr:=⟨fun ak s σ H vs us Q I rv zq=>by
 obtain⟨μ,st,ws,S,r,q⟩:=zq
 unfold Cr at q
 split at q
 ·obtain⟨x,y,rfl,rx,ry⟩:=r.two
  exact Et hc ak s σ H _ us Q I rv ⟨_,_,by rw[rx.intE,ry.intE],kP S q⟩
 ·exact q.elim,fun ws st=>by unfold Cr;split<;>trivial⟩
theorem Rj(hc:X.calm=true:=by rfl):oG X (.builtin "min") EV:=⟨fun ak s σ H vs us Q I rv zq=>by
 obtain⟨μ,st,ws,S,r,q⟩:=zq
 unfold EV at q
 split at q
 ·obtain⟨x,y,rfl,rx,ry⟩:=r.two
  exact Eu hc ak s σ H _ us Q I rv ⟨_,_,by rw[rx.intE,ry.intE],kP S q⟩
 ·exact q.elim,fun ws st=>by unfold EV;split<;>trivial⟩
def i8(ws:List W)(st:List am):R W:=match ws with
 |[.tup xs]=>.ok (.tup xs) st
 |[.loc n]=>sZ (lstOf st n) fun xs=>.ok (.tup xs) st
 |_=>.bad
theorem kS:oG X (.type "tuple") i8:=⟨fun ak s σ H vs us Q I rv zq=>by
 obtain⟨μ,st,ws,S,r,q⟩:=zq
 unfold i8 at q
 split at q
 ·obtain⟨x,rfl,rx⟩:=r.one
  obtain⟨p,ys,rfl,hS,r'⟩:=id rx.tupE
  exact Ai ak s σ H _ us Q I rv ⟨p,ys,rfl,hS,q μ _ H (ao _) fw.refl S rx⟩
 ·obtain⟨x,rfl,rx⟩:=r.one
  unfold sZ at q
  split at q
  ·rename_i ys e0
   obtain⟨a,vs,g,hS,r'⟩:=S.lstOf e0
   obtain⟨b1,f1,rfl⟩:=rx.locE
   rw[g]at f1;cases f1
   refine Am ak s σ H _ us Q I rv ⟨_,vs,rfl,hS,fun l H2 hl e=>?_⟩
   subst e
   have x:=gc.same (K:=X.K) (dg hl (.tup vs))
   exact q μ _ _ (ao _) x (S.same (dg hl _)) (.tupI gc.new (r'.mono (ao _) x))
  ·exact q.elim
 ·exact q.elim,fun ws st=>by
 unfold i8 sZ
 repeat' split
 all_goals trivial⟩
def xM(ws:List W)(st:List am):R W:=match ws with
 |[.tup xs]=>.ok (.loc st.length) (st++[.lst xs])
 |[.loc n]=>sZ (lstOf st n) fun xs=>.ok (.loc st.length) (st++[.lst xs])
 |_=>.bad
theorem NQ:oG X (.type "list") xM:=⟨fun ak s σ H vs us Q I rv zq=>by
 obtain⟨μ,st,ws,S,r,q⟩:=zq
 unfold xM at q
 split at q
 ·obtain⟨x,rfl,rx⟩:=r.one
  obtain⟨p,ys,rfl,hS,r'⟩:=id rx.tupE
  refine vi ak s σ H _ us Q I rv ⟨p,ys,rfl,.inr hS,fun l H2 hl e=>?_⟩
  subst e
  exact q (μ++[l]) _ _ (be _ _) (gc.same (dg hl _)) (S.newLst hl r') (oF S)
 ·obtain⟨x,rfl,rx⟩:=r.one
  unfold sZ at q
  split at q
  ·rename_i ys e0
   obtain⟨a,vs,g,hS,r'⟩:=S.lstOf e0
   obtain⟨b1,f1,rfl⟩:=rx.locE
   rw[g]at f1;cases f1
   refine vi ak s σ H _ us Q I rv ⟨_,vs,rfl,.inl hS,fun l H2 hl e=>?_⟩
   subst e
   exact q (μ++[l]) _ _ (be _ _) (gc.same (dg hl _)) (S.newLst hl r') (oF S)
  ·exact q.elim
 ·exact q.elim,fun ws st=>by
 unfold xM sZ
 repeat' split
 all_goals trivial⟩
def EW(ws:List W)(st:List am):R W:=match ws with
 |[.int i]=>.ok (.int i) st
 |[.bl k]=>.ok (.int (if k then 1 else 0)) st
 |_=>.bad
theorem Lr:oG X (.type "int") EW:=⟨fun ak s σ H vs us Q I rv zq=>by
 obtain⟨μ,st,ws,S,r,q⟩:=zq
 unfold EW at q
 split at q
 ·obtain⟨x,rfl,rx⟩:=r.one
  exact xy ak s σ H _ us Q I rv (.inl ⟨_,by rw[rx.intE],kP S q⟩)
 ·obtain⟨x,rfl,rx⟩:=r.one
  exact xy ak s σ H _ us Q I rv (.inr ⟨_,by rw[rx.blE],kP S q⟩)
 ·exact q.elim,fun ws st=>by unfold EW;split<;>trivial⟩
end
section
variable{a b:Expr}{x:Str}{fb fc:FE}{fs:FA}{ft:FT}{st1:Stmt}{sr sa sb:List Stmt}{g g':FS}
def aK(g g':FS):FS:=fun ρ st=>match g ρ st with
 |.nx ρ' bp=>g' ρ' bp
 |r=>r
def bM:FS:=fun ρ st=>.nx ρ st
theorem bN:SB X [] bM:=⟨JJ.imp fun D σ H h=>by
 walk_at "2"
 exact h μ σ H (ao _) fw.refl l⟩
theorem aG(h1:SS X st1 g):SB X [st1] g:=⟨JK h1.h⟩
theorem ar(h1:SS X st1 g)(h2:SB X sr g'):SB X (st1::sr) (aK g g'):=⟨(FK h1.h h2.h).imp fun D σ H h=>by
 walk_at "2"
 refine⟨μ,ρ,st,l,?_⟩
 unfold aK at h
 cases e:g ρ st with
 |nx ρ' bp=>rw[e]at h;exact fun μ' σ' H' p x l'=>⟨μ',ρ',bp,l',SK.mono h p x⟩
 |rt w bp=>rw[e]at h;exact h
 |bk ρ' bp=>rw[e]at h;exact h
 |ct ρ' bp=>rw[e]at h;exact h
 |ex c ρ' bp=>rw[e]at h;exact h
 |bad=>rw[e]at h;exact h⟩
def Cs:FS:=fun ρ st=>.bk ρ st
def vy:FS:=fun ρ st=>.ct ρ st
theorem GH:SS X (.Break pos) Cs:=⟨FL.imp fun D σ H h=>by
 walk_at "2"
 exact h μ σ H (ao _) fw.refl l⟩
theorem oH:SS X (.Continue pos) vy:=⟨Ag.imp fun D σ H h=>by
 walk_at "2"
 exact h μ σ H (ao _) fw.refl l⟩
def R.stmt(r:R α)(ρ:cM)(k:α->List am->RS):RS:=match r with
 |.ok a st=>k a st
 |.ex c st=>.ex c ρ st
 |.bad=>.bad
@[simp] theorem R.stmt_ok{α:Type}(a:α)(st:List am)(ρ:cM)(k:α->List am->RS):(R.ok a st).stmt ρ k=k a st:=rfl
theorem RK.stmt{rel:List Addr->Hp->α->β->Prop}{D:yA}{r:R α}{k:α->List am->RS}{T:β->Hp->Prop}
  (h:SK X μ H D (r.stmt ρ k)) (l:Rl X μ ρ st σ H)
  (hk:∀μ' bp x v H',μ <+: μ'->fw X.K H H'->Rl X μ' ρ bp σ H'->rel μ' H' x v->SK X μ' H' D (k x bp)->T v H'):RK X rel μ σ H T r:=by
 cases r with
 |ok a bp=>exact fun μ' b H' p x s q=>hk μ' bp a b H' p x (l.to p x s) q (SK.mono h p x)
 |ex c bp=>exact XS.toE h l
 |bad=>exact h
def c6(fe:FE):FS:=fun ρ st=>(fe ρ st).stmt ρ fun _ st=>.nx ρ st
theorem cI(he:SE X e fe)(hs:swapsWith e none pos.line X.env=pure false:=by rfl):SS X (.Expr e pos) (c6 fe):=⟨(JL he.h hs).imp fun D σ H h=>by
 walk_at "2"
 exact⟨μ,ρ,st,l,RK.stmt h l fun μ1 st1 x v H1 p1 x1 l1 q1 h1=>h1 μ1 σ H1 (ao _) fw.refl l1⟩⟩
def cS(fe:FE):FS:=fun ρ st=>(fe ρ st).stmt ρ fun w st=>.rt w st
theorem bq(he:SE X e fe):SS X (.Return (some e) pos) (cS fe):=⟨(MX he.h).imp fun D σ H h=>by
 walk_at "2"
 exact⟨μ,ρ,st,l,RK.stmt h l fun μ1 st1 x v H1 p1 x1 l1 q1 h1=>h1 μ1 v H1 (ao _) fw.refl l1.sto q1⟩⟩
def fO(t:FT)(g g':FS):FS:=fun ρ st=>(t ρ st).stmt ρ fun k st=>if k then g ρ st else g' ρ st
theorem cD(hc:ST X c ft)(ha:SB X sa g)(hb:SB X sb g'):SS X (.If c sa sb pos) (fO ft g g'):=⟨(Qj hc.h ha.h hb.h).imp fun D σ H h=>by
 walk_at "2"
 refine⟨μ,ρ,st,l,RK.stmt h l fun μ1 st1 x v H1 p1 x1 l1 q1 h1=>?_⟩
 cases q1
 cases x with
 |true=>exact⟨μ1,ρ,st1,l1,h1⟩
 |false=>exact⟨μ1,ρ,st1,l1,h1⟩⟩
abbrev FG:=W->cM->Option cM
abbrev Ls:=List W->cM->Option cM
def Rk(X:Cx)(f:FG):TG:=fun v σ H Q=>∃μ ρ st w ρ',Rl X μ ρ st σ H/\bH X.K μ H w v/\f w ρ=some ρ'/\∀σ',Rl X μ ρ' st σ' H->Q σ' H
def Uq(X:Cx)(f:Ls):JM:=fun vs σ H Q=>∃μ ρ st ws ρ',Rl X μ ρ st σ H/\RelWs X.K μ H ws vs/\f ws ρ=some ρ'/\∀σ',Rl X μ ρ' st σ' H->Q σ' H
theorem PG.imp{t t':TG}(h:PG X e t)(i:∀v σ H Q,t' v σ H Q->t v σ H Q):PG X e t':=fun ak s σ H x u Q I r q=>h ak s σ H x u Q I r (i _ _ _ _ q)
theorem Lg.imp{e:List Expr}{t t':JM}(h:Lg X e t)(i:∀v σ H Q,t' v σ H Q->t v σ H Q):Lg X e t':=fun ak s σ H x u Q I r q=>h ak s σ H x u Q I r (i _ _ _ _ q)
structure SG(X:Cx)(e:Expr)(f:FG):Prop where
 h:PG X e (Rk X f)
structure Tc(X:Cx)(e:List Expr)(f:Ls):Prop where
 h:Lg X e (Uq X f)
def jD(i:Nat):FG:=fun w ρ=>some (ρ.set i (some w))
theorem DN(hN:X.N.Nodup)(hi:X.N[i]?=some x)(hx:JF X.env.scope x)(hf:X.fn x=true\/X.env.scope.names.lookup x=some .local:=by first|exact .inl rfl|exact .inr rfl|assumption):SG X (.Name x pos) (jD i):=⟨(JO hN hi hx hf).imp fun v σ H Q h=>by
 obtain⟨μ,ρ,st,w,ρ',l,r,e,q⟩:=h
 cases e
 exact q _ ⟨vt r i l.env,l.sto⟩⟩
def oI:Ls:=fun ws ρ=>match ws with
 |[]=>some ρ
 |_=>none
def fC(f:FG)(fs:Ls):Ls:=fun ws ρ=>match ws with
 |w::ws=>(f w ρ).bind fun ρ'=>fs ws ρ'
 |[]=>none
theorem jX:Tc X [] oI:=⟨JP.imp fun vs σ H Q h=>by
 obtain⟨μ,ρ,st,ws,ρ',l,r,e,q⟩:=h
 cases ws with
 |nil=>cases e;exact⟨r.nilE,q σ l⟩
 |cons _ _=>cases e⟩
theorem dJ{f:FG}{fs:Ls}(h1:SG X e f)(h2:Tc X es fs)(hs:(assignEach (e::es) X.env).map (·.2)=assign e X.env::(assignEach es X.env).map (·.2):=by rfl):Tc X (e::es) (fC f fs):=⟨(FM h1.h h2.h hs).imp fun vs σ H Q h=>by
 obtain⟨μ,ρ,st,ws,ρ',l,r,e,q⟩:=h
 cases ws with
 |nil=>cases e
 |cons w ws=>
  obtain⟨x,xs,rfl,rx,rs⟩:=r.consE
  simp only[fC]at e
  cases e1:f w ρ with
  |none=>rw[e1]at e;cases e
  |some ρ1=>
   rw[e1]at e
   exact⟨x,xs,rfl,μ,ρ,st,w,ρ1,l,rx,e1,fun σ1 l1=>⟨μ,ρ1,st,ws,ρ',l1,rs,e,q⟩⟩⟩
def Fz(n:Nat)(fs:Ls):FG:=fun w ρ=>match w with
 |.tup ws=>if ws.length=n then fs ws ρ else none
 |_=>none
theorem md{k:Nat}{fs:Ls}(hc:X.calm=true)(h:Tc X es fs)(hn:(assignEach es X.env).length=n:=by rfl)(su:(assignEach es X.env).findIdx? (·.1)=none:=by rfl):SG X (.Tuple es k pos) (Fz n fs):=⟨(MY hc h.h hn su).imp fun v σ H Q h=>by
 obtain⟨μ,ρ,st,w,ρ',l,r,e,q⟩:=h
 cases w with
 |tup ws=>
  obtain⟨p,vs,rfl,hS,rs⟩:=r.tupE
  simp only[Fz]at e
  by_cases c:ws.length=n
  ·rw[aF c]at e
   exact⟨p,vs,rfl,hS,by rw[<- rs.len];exact c,μ,ρ,st,ws,ρ',l,rs,e,q⟩
  ·rw[aO c]at e;cases e
 |_=>cases e⟩
def uE(fe:FE)(f:FG):FS:=fun ρ st=>(fe ρ st).stmt ρ fun w st=>match f w ρ with
 |some ρ'=>.nx ρ' st
 |none=>.bad
theorem Rm{f:FG}{D:yA}(h:Tb X (uE fe f) D σ H):FN (tE X fe) (Rk X f) D σ H:=by
 walk_at "2"
 refine⟨μ,ρ,st,l,RK.stmt h l fun μ1 st1 x v H1 p1 x1 l1 q1 h1=>?_⟩
 cases e1:f x ρ with
 |none=>rw[e1]at h1;exact h1.elim
 |some ρ'=>rw[e1]at h1;exact⟨μ1,ρ,st1,x,ρ',l1,q1,e1,fun σ' l'=>h1 μ1 σ' H1 (ao _) fw.refl l'⟩
theorem yS{f:FG}(he:SE X e fe)(hg:SG X tg f)(hs:swapsWithSole [tg] e pos.line X.env=pure false:=by rfl)(hw:swappedStores [tg] e X.env=pure none:=by rfl)(h1:(assignEach [tg] X.env).map (·.2)=[assign tg X.env]:=by rfl):SS X (.Assign [tg] e pos) (uE fe f):=⟨(FP he.h hg.h hs hw h1).imp fun D σ H h=>Rm h⟩
def ba(i:Nat)(fe:FE):FS:=fun ρ st=>(fe ρ st).stmt ρ fun w st=>.nx (ρ.set i (some w)) st
theorem NR(hN:X.N.Nodup)(hi:X.N[i]?=some x)(hx:JF X.env.scope x)(he:SE X e fe)(hs:swapsWith e (some (.Name x iq)) pos.line X.env=pure false:=by rfl)(hf:X.fn x=true\/X.env.scope.names.lookup x=some .local:=by first|exact .inl rfl|exact .inr rfl|assumption) :
  SS X (.Assign [.Name x iq] e pos) (ba i fe):=⟨(M0 hN hi hx he.h hs hf).imp fun D σ H h=>by
 walk_at "2"
 exact⟨μ,ρ,st,l,RK.stmt h l fun μ1 st1 x v H1 p1 x1 l1 q1 h1=>h1 μ1 _ H1 (ao _) fw.refl ⟨vt q1 i l1.env,l1.sto⟩⟩⟩
def ql(x i v:W)(st:List am):Option (List am):=match x,i with
 |.loc n,.int k=>(match st[n]? with
  |some (.lst ws)=>(Dt ws.length k).map fun j=>st.set n (.lst (ws.set j v))
  |_=>none)
 |_,_=>none
def wY(fo fi fe:FE)(f:W->W->W->List am->Option (List am)):FS:=fun ρ st=>(fe ρ st).stmt ρ fun v st=>(fo ρ st).stmt ρ fun x st=>(fi ρ st).stmt ρ fun i st=>match f x i v st with
 |some bp=>.nx ρ bp
 |none=>.bad
def GI(X:Cx)(f:W->W->W->List am->Option (List am)):JN:=fun o i v H Q=>∃μ st wo wi wv bp,jk X.K X.mg μ st H/\bH X.K μ H wo o/\bH X.K μ H wi i/\bH X.K μ H wv v/\f wo wi wv st=some bp/\∀H',fw X.K H H'->jk X.K X.mg μ bp H'->Q H'
theorem Ct:En X (GI X ql):=fun ak s σ H o i v ov iv u Q I r1 r2 r3 zq=>by
 obtain⟨μ,st,wo,wi,wv,bp,S,ro,ri,rv,e,q⟩:=zq
 cases wo with
 |loc n=>
  cases wi with
  |int k=>
   simp only[ql]at e
   cases e1:st[n]? with
   |none=>rw[e1]at e;cases e
   |some cc=>
    rw[e1]at e
    cases cc with
    |lst ws=>
     simp only at e
     cases e2:Dt ws.length k with
     |none=>rw[e2]at e;cases e
     |some jj=>
      rw[e2]at e
      cases e
      obtain⟨a1,g1,vs,k1,r⟩:=S.get e1
      obtain⟨b1,f1,rfl⟩:=ro.locE
      rw[g1]at f1;cases f1
      refine EH ak s σ H _ i v ov iv u Q I r1 r2 r3 ⟨a1,vs,k,jj,rfl,ri.intE,k1,by rw[<- r.len];exact e2,fun H2 eH=>?_⟩
      subst eH
      exact q _ (gc.but jn k1) (S.set e1 g1 k1 (r.setI jj rv))
    |_=>cases e
  |_=>cases e
 |_=>cases wi<;>cases e
theorem yT{f:W->W->W->List am->Option (List am)}{i:Expr}{fi:FE}(PY:En X (GI X f))(he:SE X e fe)(ho:SE X o fo)(hi:SE X i fi)
  (ha:∀v,assign (.Subscript o i iq) X.env v=(do
   let ov <- holding [v] (eval o X.env)
   let iv <- holding [v,ov] (eval i X.env)
   standAt iq
   holding [v,ov,iv] (setItem ov iv v)
   release [v,ov,iv] []):=by intro _;rfl)
  (hs:swapsWithSole [.Subscript o i iq] e pos.line X.env=pure false:=by rfl) (hw:swappedStores [.Subscript o i iq] e X.env=pure none:=by rfl) (h1:(assignEach [.Subscript o i iq] X.env).map (·.2)=[assign (.Subscript o i iq) X.env]:=by rfl) :
  SS X (.Assign [.Subscript o i iq] e pos) (wY fo fi fe f):=⟨(FP he.h (MZ ho.h hi.h PY ha) hs hw h1).imp fun D σ H h=>by
 walk_at "2"
 refine⟨μ,ρ,st,l,RK.stmt h l fun μ1 st1 v vv H1 p1 x1 l1 q1 h1=>⟨μ1,ρ,st1,l1,RK.stmt h1 l1 fun μ2 cZ x xv H2 p2 x2 l2 q2 h2=>⟨μ2,ρ,cZ,l2,RK.stmt h2 l2 fun μ3 lZ i iv H3 p3 x3 l3 q3 h3=>?_⟩⟩⟩
 cases e1:f x i v lZ with
 |none=>rw[e1]at h3;exact h3.elim
 |some bp=>
  rw[e1]at h3
  exact⟨μ3,lZ,x,i,v,bp,l3.sto,q2.mono p3 x3,q3,(q1.mono p2 x2).mono p3 x3,e1,fun H' xx S'=>h3 μ3 σ H' (ao _) xx (l3.to (ao _) xx S')⟩⟩
end
def jq(st:List am):Option (Nat×List W)->Prop
 |none=>True
 |some (n,ws)=>lstOf st n=some ws
abbrev GJ:=List W×Option (Nat×List W)
abbrev FI:=cM->List am->R GJ
def Cu(X:Cx)(J:It)(k:GJ)(μ:List Addr)(H:Hp):Prop:=
 ∀(i:Nat) μ' bp H',μ <+: μ'->fw X.K H H'->jk X.K X.mg μ' bp H'->jq bp k.2 ->
  (∀w,k.1[i]?=some w->J.go i H'/\∀x H'',J.yld i H' x H''->fw X.K H' H''/\jk X.K X.mg μ' bp H''/\bH X.K μ' H'' w x)/\(k.1.length<=i->J.stop i H')
abbrev Rn(X:Cx):List Addr->Hp->GJ->It->Prop:=fun μ H k J=>Cu X J k μ H
structure SI(X:Cx)(tg it:Expr)(f:FI):Prop where
 h:PI X tg it (fun σ H R=>tG X (Rn X) f σ H R)
theorem PI.imp{it:Expr}{t t':TI}(h:PI X tg it t)(i:∀σ H Q,t' σ H Q->t σ H Q):PI X tg it t':=fun ak s σ H Q I q=>h ak s σ H Q I (i _ _ _ q)
open Classical in
def n6(f:FG)(body:FS)(ck:Option (Nat×List W)):List W->FS
 |[],ρ,st=>if jq st ck then .nx ρ st else .bad
 |w::ws,ρ,st=>if jq st ck then(match f w ρ with
  |none=>.bad
  |some ρ'=>(match body ρ' st with
   |.nx ρ2 cZ=>n6 f body ck ws ρ2 cZ
   |.ct ρ2 cZ=>n6 f body ck ws ρ2 cZ
   |.bk ρ2 cZ=>.nx ρ2 cZ
   |.rt w cZ=>.rt w cZ
   |.ex c ρ2 cZ=>.ex c ρ2 cZ
   |.bad=>.bad))else .bad
def k7(fi:FI)(f:FG)(body:FS):FS:=fun ρ st=>(fi ρ st).stmt ρ fun k st=>n6 f body k.2 k.1 ρ st
section
variable{a b:Expr}{fb:FE}{fs:FA}{ft:FT}{body:List Stmt}{g:FS}{f:FG}{fi:FI}
theorem gZ(hi:SI X tg ef fi)(hg:SG X tg f)(hb:SB X body g)(hc:X.calm=true:=by rfl)(hp:PassesOwn #[3] X.A X.env X.xe:=by passes_own)(hs:∀x,foldedSetIterable ef X.env x=pure x:=by intro _;rfl):SS X (.For tg ef body [] pos) (k7 fi f g):=⟨(M3 hp hc hi.h hg.h hb.h hs).imp fun D σ H h=>by
 walk_at "2"
 refine⟨μ,ρ,st,l,RK.stmt h l fun μ1 st1 k J H1 p1 x1 l1 wk h1=>?_⟩
 refine⟨fun i m σ' H'=>i<=k.1.length/\m=k.1.length-i/\∃μ' ρ' bp,μ1 <+: μ'/\fw X.K H1 H'/\Rl X μ' ρ' bp σ' H'/\SK X μ' H' D (n6 f g k.2 (k.1.drop i) ρ' bp),
  ⟨_,cx _,rfl,μ1,ρ,st1,ao _,fw.refl,l1,h1⟩,?_⟩
 rintro i m σ' H' ⟨hi,rfl,μ',ρ',bp,pm,xm,lm,hm⟩
 by_cases hlt:i<k.1.length
 ·rw[fQ hlt]at hm
  unfold n6 at hm
  by_cases ck:jq bp k.2
  ·rw[aF ck]at hm
   obtain⟨go,yld⟩:=(wk i μ' bp H' pm xm lm.sto ck).1 _ (aj hlt)
   cases hf:f k.1[i] ρ' with
   |none=>rw[hf]at hm;exact hm.elim
   |some ρ2=>
    rw[hf]at hm
    simp only at hm
    refine .inr ⟨go,fun σ2 H2=>∃μ2 ρ3 cZ,μ' <+: μ2/\fw X.K H' H2/\Rl X μ2 ρ3 cZ σ2 H2/\SK X μ2 H2 D (n6 f g k.2 (k.1.drop (i+1)) ρ3 cZ),fun σ2 H2 ⟨μ2,ρ3,cZ,q1,q2,q3,q4⟩=>
     ⟨_,by omega,hlt,rfl,μ2,ρ3,cZ,pm.trans q1,xm.trans q2,q3,q4⟩,fun x H2 hy=>?_⟩
    obtain⟨y1,y2,y3⟩:=yld x H2 hy
    refine⟨μ',ρ',bp,k.1[i],ρ2,lm.to (ao _) y1 y2,y3,hf,fun σ2 l2=>⟨μ',ρ2,bp,l2,?_⟩⟩
    cases e:g ρ2 bp with
    |nx ρ3 lZ=>rw[e]at hm;exact fun μ4 σ4 H4 p4 x4 l4=>⟨μ4,ρ3,lZ,p4,y1.trans x4,l4,SK.mono hm p4 (y1.trans x4)⟩
    |ct ρ3 lZ=>rw[e]at hm;exact fun μ4 σ4 H4 p4 x4 l4=>⟨μ4,ρ3,lZ,p4,y1.trans x4,l4,SK.mono hm p4 (y1.trans x4)⟩
    |bk ρ3 lZ=>rw[e]at hm;exact fun μ4 σ4 H4 p4 x4 l4=>hm μ4 σ4 H4 p4 (y1.trans x4) l4
    |rt w lZ=>rw[e]at hm;exact fun μ4 v4 H4 p4 x4=>hm μ4 v4 H4 p4 (y1.trans x4)
    |ex c ρ3 lZ=>rw[e]at hm;exact XS.mono hm (ao _) y1
    |bad=>rw[e]at hm;exact hm
  ·rw[aO ck]at hm;exact hm.elim
 ·have hi':i=k.1.length:=by omega
  subst hi'
  rw[nE (az _)]at hm
  unfold n6 at hm
  by_cases ck:jq bp k.2
  ·rw[aF ck]at hm
   exact .inl ⟨(wk _ μ' bp H' pm xm lm.sto ck).2 (az _),hm μ' σ' H' (ao _) fw.refl lm⟩
  ·rw[aO ck]at hm;exact hm.elim⟩
def dD(t:FT)(body:FS):Nat->FS
 |0,_,_=>.bad
 |n+1,ρ,st=>(t ρ st).stmt ρ fun k st=>if k then(match body ρ st with
   |.nx ρ2 cZ=>dD t body n ρ2 cZ
   |.ct ρ2 cZ=>dD t body n ρ2 cZ
   |.bk ρ2 cZ=>.nx ρ2 cZ
   |.rt w cZ=>.rt w cZ
   |.ex c ρ2 cZ=>.ex c ρ2 cZ
   |.bad=>.bad)else .nx ρ st
open Classical in
def mW(t:FT)(body:FS):FS:=fun ρ st=>if h:∃n,dD t body n ρ st≠.bad then dD t body h.choose ρ st else .bad
theorem oJ(t:FT)(g:FS):∀(n:Nat) (ρ:cM) (st:List am),dD t g n ρ st≠.bad->dD t g (n+1) ρ st=dD t g n ρ st
 |0,_,_,h=>absurd rfl h
 |n+1,ρ,st,h=>by
  unfold dD at h ⊢
  cases e:t ρ st with
  |ex c st1=>rfl
  |bad=>rfl
  |ok k st1=>
   rw[e]at h
   simp only[R.stmt_ok]at h ⊢
   cases k with
   |false=>rfl
   |true=>
    simp only[f7]at h ⊢
    cases e2:g ρ st1 with
    |nx ρ2 cZ=>rw[e2]at h;exact oJ t g n ρ2 cZ h
    |ct ρ2 cZ=>rw[e2]at h;exact oJ t g n ρ2 cZ h
    |_=>rfl
theorem xN{n m:Nat}(h:dD t g n ρ st≠.bad)(hm:n<=m):dD t g m ρ st=dD t g n ρ st:=by
 induction hm with
 |refl=>rfl
 |@step m _ ih=>rw[oJ t g m ρ st (by rw[ih];exact h),ih]
theorem pT{r:RS}(h:dD t g n ρ st=r)(hr:r≠.bad):mW t g ρ st=r:=by
 have hx:∃n,dD t g n ρ st≠.bad:=⟨n,by rw[h];exact hr⟩
 unfold mW
 rw[dif_pos hx]
 have c:=hx.choose_spec
 have a:=xN c (Nat.le_max_left hx.choose n)
 have b:=xN (n:=n) (m:=max hx.choose n) (by rw[h];exact hr) (Nat.le_max_right _ _)
 rw[<- a,b,h]
theorem AF{D:yA}:∀(n:Nat) (σ:St) (H:Hp) (μ:List Addr) (ρ:cM) (st:List am),Rl X μ ρ st σ H->SK X μ H D (dD t g n ρ st)->FQ (tT X t) (Tb X g) D σ H:=by
 intro n σ H μ ρ st l h
 refine⟨fun m σ' H'=>∃μ' ρ' bp,Rl X μ' ρ' bp σ' H'/\SK X μ' H' D (dD t g m ρ' bp),⟨n,μ,ρ,st,l,h⟩,?_⟩
 rintro m σ' H' ⟨μ',ρ',bp,l',h'⟩
 cases m with
 |zero=>exact h'.elim
 |succ m=>
  refine⟨μ',ρ',bp,l',RK.stmt h' l' fun μ1 st1 k v H1 p1 x1 l1 q1 h1=>?_⟩
  cases q1
  cases k with
  |false=>exact h1 μ1 σ' H1 (ao _) fw.refl l1
  |true=>
   refine⟨fun σ2 H2=>∃μ2 ρ2 cZ,Rl X μ2 ρ2 cZ σ2 H2/\SK X μ2 H2 D (dD t g m ρ2 cZ),fun σ2 H2 z=>⟨m,b9 m,z⟩,μ1,ρ',st1,l1,?_⟩
   simp only[f7]at h1
   cases e:g ρ' st1 with
   |nx ρ3 lZ=>rw[e]at h1;exact fun μ4 σ4 H4 p4 x4 l4=>⟨μ4,ρ3,lZ,l4,SK.mono h1 p4 x4⟩
   |ct ρ3 lZ=>rw[e]at h1;exact fun μ4 σ4 H4 p4 x4 l4=>⟨μ4,ρ3,lZ,l4,SK.mono h1 p4 x4⟩
   |bk ρ3 lZ=>rw[e]at h1;exact h1
   |rt w lZ=>rw[e]at h1;exact h1
   |ex c ρ3 lZ=>rw[e]at h1;exact h1
   |bad=>rw[e]at h1;exact h1
theorem vz(hc:ST X c t)(hb:SB X body g)(hp:PassesOwn #[3] X.A X.env X.xe:=by passes_own):SS X (.While c body [] pos) (mW t g):=⟨(FR hp hc.h hb.h).imp fun D σ H h=>by
 walk_at "2"
 unfold mW at h
 by_cases hx:∃n,dD t g n ρ st≠.bad
 ·rw[dif_pos hx]at h;exact AF _ σ H μ ρ st l h
 ·rw[dif_neg hx]at h;exact h.elim⟩
def GK(fe:FE):FI:=fun ρ st=>(fe ρ st).bind fun x st=>match x with
 |.tup ws=>.ok (ws,none) st
 |_=>.bad
theorem GL(he:SE X e fe):SI X tg e (GK fe):=⟨(M2 he.h).imp fun σ H R h=>by
 walk_at "2"
 walk_at "1"
 cases x with
 |tup ws=>
  obtain⟨p,vs,rfl,hS,r⟩:=q1.tupE
  refine⟨p,rfl,⟨vs,hS⟩,h1 μ1 _ H1 (ao _) fw.refl l1.sto fun i μ' bp H' pp xx S _=>⟨fun w hw=>?_,fun hl=>⟨vs,xx _ _ hS,by rw[<- r.len];exact hl⟩⟩⟩
  have r':=r.mono pp xx
  obtain⟨v,g1,g2⟩:=r'.get hw
  refine⟨⟨vs,v,xx _ _ hS,g1⟩,fun y H'' hy=>?_⟩
  obtain⟨rfl,hy⟩:=hy
  have:=hy vs (xx _ _ hS)
  rw[g1]at this;cases this
  exact⟨fw.refl,S,g2⟩
 |_=>exact h1.elim⟩
def Lu(fe:FE):FI:=fun ρ st=>(fe ρ st).bind fun x st=>match x with
 |.loc n=>(match lstOf st n with
  |some ws=>.ok (ws,some (n,ws)) st
  |none=>.bad)
 |_=>.bad
theorem NS(he:SE X e fe):SI X tg e (Lu fe):=⟨(JQ he.h).imp fun σ H R h=>by
 walk_at "2"
 walk_at "1"
 cases x with
 |loc n=>
  obtain⟨a,ha,rfl⟩:=q1.locE
  simp only at h1
  cases e1:lstOf st1 n with
  |none=>rw[e1]at h1;exact h1.elim
  |some ws=>
   rw[e1]at h1
   obtain⟨a',vs0,g0,hS0,r0⟩:=l1.sto.lstOf e1
   rw[ha]at g0;cases g0
   refine⟨a,rfl,⟨vs0,hS0⟩,h1 μ1 _ H1 (ao _) fw.refl l1.sto fun i μ' bp H' pp xx S ck=>?_⟩
   obtain⟨a2,vs,g2,hS,r⟩:=S.lstOf (show lstOf bp n=some ws from ck)
   have:μ'[n]?=some a:=pre_get pp ha
   rw[g2]at this;cases this
   refine⟨fun w hw=>?_,fun hl=>⟨vs,hS,by rw[<- r.len];exact hl⟩⟩
   obtain⟨v,g1,g3⟩:=r.get hw
   refine⟨⟨vs,v,hS,g1⟩,fun y H'' hy=>?_⟩
   obtain⟨rfl,hy⟩:=hy
   have:=hy vs hS
   rw[g1]at this;cases this
   exact⟨fw.refl,S,g3⟩
 |_=>exact h1.elim⟩
def gF(lo:Int)(n:Nat):List W:=(List.range n).map fun(i:Nat)=>W.int (lo+i)
theorem fD(lo:Int)(n:Nat):(gF lo n).length=n:=by simp[gF]
theorem Cv{lo:Int}:Cu X (S8 lo n) (gF lo n,none) μ H:=fun i μ' bp H' pp xx S _=>by
 refine⟨fun w hw=>?_,fun hl=>by rw[fD]at hl;exact hl⟩
 have hi:i<n:=by
  have:=(au.mp hw).1
  rw[fD]at this;exact this
 refine⟨hi,fun y H'' hy=>?_⟩
 obtain⟨rfl,rfl⟩:=hy
 have e:w=.int (lo+i):=by
  unfold gF at hw
  rw[aI,iK hi]at hw
  exact(bu hw).symm
 subst e
 exact⟨fw.refl,S,.int⟩
def dP(fs:FA):FI:=fun ρ st=>(fs ρ st).bind fun ws st=>match ws with
 |[.int j]=>if -(2^62)<=j/\j<2^62 then .ok (gF 0 j.toNat,none) st else .bad
 |_=>.bad
theorem gU(hm:X.mg "range"=none)(ha:SA X [a] fs)(hg:Gl X "range":=by rfl)(hs:starEach [a] X.env=[(false,eval a X.env)]:=by rfl):SI X tg (.Call (.Name "range" p) [a] [] pos) (dP fs):=⟨(Ep hg hm ha.h hs).imp fun σ H R h=>by
 walk_at "2"
 walk_at "1"
 split at h1
 ·obtain⟨y,rfl,ry⟩:=q1.one
  split at h1
  ·rename_i c
   exact⟨_,by rw[ry.intE],c.1,c.2,h1 μ1 _ H1 (ao _) fw.refl l1.sto Cv⟩
  ·exact h1.elim
 ·exact h1.elim⟩
end
end L2
variable{fi:L2.FI}
namespace L2
open PySem PySem.Spec PyProof.Rows
mutual
def W.und(n:Nat):W->Bool
 |.loc m=>decide (m<n)
 |.tup ws=>undWs n ws
 |_=>true
def undWs(n:Nat):List W->Bool
 |[]=>true
 |w::ws=>w.und n&&undWs n ws
end
def am.und(n:Nat):am->Bool
 |.lst ws=>undWs n ws
 |.ro ws=>undWs n ws
 |.exc _=>true
 |.dct kvs=>undWs n (kvs.map fun p=>p.2)
 |.rod kvs=>undWs n (kvs.map fun p=>p.2)
 |.dcx kvs=>undWs n (kvs.map fun p=>p.2)
 |.rox kvs=>undWs n (kvs.map fun p=>p.2)
 |.obj _ fs=>undWs n (fs.map fun p=>p.2)
 |.tab _ _ _=>true
 |.pin _ _ _ w=>w.und n
 |.gone=>true
section
mutual
theorem bH.und:∀{w:W} {v:V},bH K μ H w v->w.und μ.length=true
 |.non,_,_=>by simp[W.und]
 |.bl _,_,_=>by simp[W.und]
 |.int _,_,_=>by simp[W.und]
 |.str _,_,_=>by simp[W.und]
 |.tup _,_,r=>by obtain⟨p,vs,_,_,c⟩:=r.tupE;unfold W.und;exact RelWs.und c
 |.loc _,_,r=>by obtain⟨a,e,_⟩:=r.locE;unfold W.und;exact bn (au.mp e).1
theorem RelWs.und:∀{ws:List W} {vs:List V},RelWs K μ H ws vs->undWs μ.length ws=true
 |[],_,_=>by unfold undWs;rfl
 |_::_,_,r=>by obtain⟨x,xs,_,b,c⟩:=r.consE;unfold undWs;rw[bH.und b,RelWs.und c];rfl
end
mutual
theorem bH.take:∀{w:W} {v:V},bH K μ H w v->w.und n=true->bH K (μ.take n) H w v
 |.non,_,r,_=>by rw[r.nonE];exact .non
 |.bl _,_,r,_=>by rw[r.blE];exact .bl
 |.int _,_,r,_=>by rw[r.intE];exact .int
 |.str _,_,r,_=>by rw[r.strE];exact .str
 |.tup _,_,r,b=>by obtain⟨p,vs,rfl,h,c⟩:=r.tupE;unfold W.und at b;exact .tupI h (RelWs.takeN c b)
 |.loc _,_,r,b=>by obtain⟨a,e,rfl⟩:=r.locE;unfold W.und at b;exact .locI (by rw[cO (of_decide_eq_true b)];exact e)
theorem RelWs.takeN:∀{ws:List W} {vs:List V},RelWs K μ H ws vs->undWs n ws=true->RelWs K (μ.take n) H ws vs
 |[],_,r,_=>by rw[r.nilE];exact .nilI
 |_::_,_,r,b=>by
  obtain⟨x,xs,rfl,b1,c1⟩:=r.consE
  unfold undWs at b
  rw[dA]at b
  exact .consI (bH.take b1 b.1) (RelWs.takeN c1 b.2)
end
theorem KX.und_w(k:KX)(n:Nat):k.w.und n=true:=by
 have hi:∀ks:List Int,undWs n (ks.map W.int)=true:=fun ks=>by
  induction ks with
  |nil=>rfl
  |cons a l ih=>show(true&&undWs n (l.map W.int))=true;rw[ih];rfl
 cases k with
 |bo b=>rfl
 |fl ks=>unfold KX.w W.und;exact hi ks
 |pr i ks=>unfold KX.w W.und undWs;rw[show(W.int i).und n=true from rfl];unfold undWs;rw[show(W.tup (ks.map W.int)).und n=true by unfold W.und;exact hi ks];rfl
theorem vA:∀{kvs:List (KX×W)} {es:List DictEntry},Paired (Az K μ H) kvs es->undWs μ.length (kvs.map fun p=>p.2)=true
 |_,_,.nil=>rfl
 |_,_,.cons r t=>by
  obtain⟨_,_,v,h,_⟩:=r
  show(_&&undWs _ _)=true
  rw[h.und,vA t];rfl
theorem s9:∀{kvs:List (KX×W)} {es:List DictEntry},Paired (Az K μ H) kvs es->undWs n (kvs.map fun p=>p.2)=true->Paired (Az K (μ.take n) H) kvs es
 |_,_,.nil,_=>.nil
 |_,_,.cons r t,b=>by
  obtain⟨a,⟨u,c,d⟩,v,h,g⟩:=r
  have b:(_&&undWs n _)=true:=b
  rw[dA]at b
  exact .cons ⟨a,⟨u,bH.take c (KX.und_w _ n),d⟩,v,bH.take h b.1,g⟩ (s9 t b.2)
theorem lW.und{c:am}{a:Addr}(r:lW K mg μ H c a):c.und μ.length=true:=by
 cases c with
 |lst ws=>obtain⟨vs,_,y⟩:=r;exact y.und
 |ro ws=>obtain⟨vs,_,y⟩:=r;exact y.und
 |exc c=>rfl
 |dct kvs=>obtain⟨vs,_,y⟩:=r;exact y.und
 |rod kvs=>obtain⟨vs,_,_,y⟩:=r;exact y.und
 |dcx kvs=>obtain⟨es,_,_,y,_⟩:=r;exact vA y
 |rox kvs=>obtain⟨es,_,_,_,y,_⟩:=r;exact vA y
 |obj _ fs=>obtain⟨_,_,vs,_,_,y⟩:=r;exact y.und
 |tab _ _ _=>rfl
 |pin _ _ _ _=>obtain⟨_,_,_,v,y,_⟩:=r;exact y.und
 |gone=>rfl
theorem lW.take{c:am}{a:Addr}(r:lW K mg μ H c a)(b:c.und n=true):lW K mg (μ.take n) H c a:=by
 cases c with
 |lst ws=>obtain⟨vs,x,y⟩:=r;exact⟨vs,x,y.takeN b⟩
 |ro ws=>obtain⟨vs,x,y⟩:=r;exact⟨vs,x,y.takeN b⟩
 |exc c=>exact r
 |dct kvs=>obtain⟨vs,x,y⟩:=r;exact⟨vs,x,y.takeN b⟩
 |rod kvs=>obtain⟨vs,o,x,y⟩:=r;exact⟨vs,o,x,y.takeN b⟩
 |dcx kvs=>obtain⟨es,x,d,y,z⟩:=r;exact⟨es,x,d,s9 y b,z⟩
 |rox kvs=>obtain⟨es,o,x,d,y,z⟩:=r;exact⟨es,o,x,d,s9 y b,z⟩
 |obj _ fs=>obtain⟨C,dx,vs,m,x,y⟩:=r;exact⟨C,dx,vs,m,x,y.takeN b⟩
 |tab _ _ _=>exact r
 |pin _ _ _ _=>obtain⟨ea,p,g,v,y,z⟩:=r;exact⟨ea,p,g,v,y.take b,z⟩
 |gone=>trivial
end
theorem fA.ex{w:World}{a:Addr}{o:HO}(x:fA P w nk H h a o):∃ob,h.get? a=some ob:=by
 cases o with
 |lst xs=>obtain⟨_,_,_,_,e⟩:=x;exact⟨_,e⟩
 |tup xs=>obtain⟨_,_,_,o,e,_⟩:=x;exact⟨_,e⟩
 |dK kvs=>obtain⟨_,_,_,_,o,_,_,e,_⟩:=x;exact⟨_,e⟩
 |dT kvs=>obtain⟨_,_,_,_,o,_,_,e,_⟩:=x;exact⟨_,e⟩
 |set S n=>obtain⟨o,_,_,_,e,_⟩:=x;exact⟨_,e⟩
 |ins C dx fs=>obtain⟨_,_,_,e,_⟩:=x;exact⟨_,e⟩
 |own y=>obtain⟨_,e⟩:=x;exact⟨_,e⟩
 |xd fs=>obtain⟨_,⟨_,_,_,e,_⟩,_⟩:=x;exact⟨_,e⟩
 |rng lo hi=>obtain⟨_,_,_,e⟩:=x;exact⟨_,e⟩
 |frz ob u=>obtain⟨e,_⟩:=x;exact⟨_,e⟩
 |tbl ps=>exact⟨_,(show h.get? a=some _ from x)⟩
 |met f y=>exact⟨_,(show h.get? a=some _ from x)⟩
 |ext φ=>obtain⟨_,⟨_,e⟩,_⟩:=x;exact⟨_,e⟩
def Lw(st bp:List am)(ws:List W):Prop:=undWs st.length ws=true/\st.length<=bp.length/\∀(i:Nat),i<st.length->bp[i]?=st[i]?\/∃c,bp[i]?=some c/\c.und st.length=true
open Classical in
def h_(st bp:List am)(ws:List W):List am:=if Lw st bp ws then bp.take st.length else bp
theorem vB{ws:List W}{vs:List V}(S:jk K mg μ st H)(S':jk K mg μ' bp H')(p:μ <+: μ')(r:RelWs K μ' H' ws vs) :
  ∃μ2,μ <+: μ2/\jk K mg μ2 (h_ st bp ws) H'/\RelWs K μ2 H' ws vs:=by
 unfold h_
 by_cases k:Lw st bp ws
 ·rw[aF k]
  obtain⟨k1,k2,k3⟩:=k
  have e:μ'.take st.length=μ:=by
   obtain⟨t,rfl⟩:=p
   rw[S.len,gy]
  refine⟨μ'.take st.length,by rw[e];exact ao _,⟨fun i j a ci cj h1 h2 r1 r2 m1 m2=>?_,by rw[aM,aM,S'.len],fun i c a h1 h2=>?_⟩,r.takeN k1⟩
  ·have hi:i<st.length:=by have:=(au.mp h1).1;rw[aM]at this;omega
   have hj:j<st.length:=by have:=(au.mp h2).1;rw[aM]at this;omega
   rw[cO hi]at h1 m1
   rw[cO hj]at h2 m2
   exact S'.nd i j a ci cj h1 h2 r1 r2 m1 m2
  ·have hi:i<st.length:=by have:=(au.mp h1).1;rw[aM]at this;omega
   rw[cO hi]at h1 h2
   refine(S'.at' i c a h1 h2).take ?_
   rcases k3 i hi with q|⟨c',q,b⟩
   ·rw[h1]at q
    obtain⟨a0,g0,r0⟩:=S.get q.symm
    have:=r0.und
    rw[S.len];exact this
   ·rw[h1]at q;cases q;exact b
 ·rw[aO k]
  exact⟨μ',p,S',r⟩
def c9(N:Nat)(body:FS)(ws:List W)(st:List am):R W:=match body #[11] st with
 |.rt w bp=>.ok w (h_ st bp [w])
 |.nx _ bp=>.ok .non (h_ st bp [])
 |.ex c _ bp=>.ex c (h_ st bp [])
 |_=>.bad
def hZ(P:Program)(w:World):Ex:=fun outer H s E e s'=>∃x C t B H',e=.ref x/\E C none H'/\s'.os=s.os/\AllBare s'.gens/\Un (uV outer) [] H H' s.heap s'.heap/\pN P w s'.toks H' s'.heap/\H' x=none/\Heap.FlyingW B outer x C (.ref t) s'.heap /\
 ∀b o,s'.heap.get? b=some o->(H' b≠none\/((∃o0,s.heap.get? b=some o0)/\b∉uV outer))->B.get? b=some o
def iD(K:Frag)(mg:Str->Option Value)(n:Nat)(F:List W->List am->R W):Sp:=fun vs H Q E=>vs.length=n/\∃μ ws st,jk K mg μ st H/\RelWs K μ H ws vs/\(match F ws st with
 |.ok w bp=>∀μ' v H',μ <+: μ'->fw K H H'->jk K mg μ' bp H'->bH K μ' H' w v->Q v H'
 |.ex c bp=>∀C μ' H',mg c=some C->μ <+: μ'->fw K H H'->jk K mg μ' bp H'->E C none H'
 |.bad=>False)
theorem xL.noted{c:Str}{e:Value}{Q:Unit->Shared->Prop}{E:Value->Shared->Prop}{M:Model}{outer:List Env}(f:xL X ak σ c H e s)(su:X.stack=X.env::outer)(Dg:X.env.frame=some X.env.locals)(hA:X.A.frames=some X.stack)
  (h:∀x C t B h',e=.ref x->X.mg c=some C->H x=none->Heap.FlyingW B X.stack x C (.ref t) h'->s.heap.UpToSlots h' ->
   (∀b o,s.heap.get? b=some o->(H b≠none\/((∃o0,X.s₀.heap.get? b=some o0)/\b∉X.fs/\b∉X.ex)\/((∃y,X.env.cells.lookup y=some b)/\b∉uV X.stack)\/∃p∈X.pn++ak,p.1=b)->B.get? b=some o)->Q () { s with heap:=h' }) :
  wpAny M X.A (leaving X.env e) Q E s:=by
 obtain⟨x,C,t,B,rfl,hC,hx,st,nx,ff,tr,cov⟩:=f.ex
 rw[su]at ff hA
 rcases tr with tr|⟨oe,vs,he,rfl,_,hd,h1,h0⟩|⟨L,hL,tr⟩
 ·refine wpAny_leaving_nextW hA ff Dg tr st nx fun h' hL=>?_
  obtain⟨k1,k2,k3,k4⟩:=hL
  exact h x C t B h' rfl hC hx ⟨k1,nx,by rw[su];exact k2,k3⟩ k4 cov
 ·refine wpAny_leaving_firstW hA ff Dg he st nx hd h1 h0 fun h' hL=>?_
  obtain⟨k1,k2,k3,k4⟩:=hL
  exact h x _ t B h' rfl hC hx ⟨k1,nx,by rw[su];exact k2,k3⟩ k4 cov
 ·unfold leaving
  refine af (wpAny_noteFrame_againW hL tr (wpAny_landsW ⟨st,nx,ff,tr⟩ fun h' fl up=>?_))
  exact h x C t B h' rfl hC hx (by rw[su];exact fl) up cov
theorem xL.leaves{c:Str}{e:Value}{E:XK}{E':Value->Shared->Prop}(f:xL X ak σ c H e s)(su:X.stack=X.env::X.outer)(Dg:X.env.frame=some X.env.locals)(hA:X.A.frames=some X.stack)(Aa:X.ex=[])
  (hE:∀C,X.mg c=some C->E C none H):wpAny M X.A (leaving X.env e) (fun _ s''=>hZ X.prog X.w X.outer X.H₀ X.s₀ E e s'') E' s:=by
 refine f.noted su Dg hA fun x C t B h' he hC hx fl up cov=>?_
 have I:=f.inv
 have un:=I.base
 rw[Aa]at un
 have fsE:X.fs=uV X.outer:=rfl
 obtain⟨f1,f2,f3,f4⟩:=fl
 rw[su]at f3
 obtain⟨_,_,f3'⟩:=f3
 have frames:∀b∈uV X.outer,∀o,s.heap.get? b=some o->∃sl,h'.get? b=some { o with slots:=sl }:=fun b hb o ho=>by
  obtain⟨_,o',ho',hd⟩:=I.funs.mem hb
  rw[ho]at ho';cases ho'
  exact up b o ho hd
 have kept:∀b o,s.heap.get? b=some o->(∃o0,X.s₀.heap.get? b=some o0)->b∉uV X.outer->h'.get? b=some o:=fun b o ho h0 hb=>f1 b o (cov b o ho (.inr (.inl ⟨h0,hb,by rw[Aa];simp⟩)))
 have keptH:∀b o,s.heap.get? b=some o->H b≠none->h'.get? b=some o:=fun b o ho h0=>f1 b o (cov b o ho (.inl h0))
 refine⟨x,C,t,B,H,he,hE C hC,I.os,I.bare,⟨fun b o q n hb hx=>?_,fun b o q n hb hx=>?_,fun b o q n hx=>un.free b o q n hx,fun b o q hx=>?_,un.tups,un.frzs,un.tbls⟩,fun b u hb=>?_,hx,⟨f1,f2,f3',f4⟩,fun b o ho hr=>?_⟩
 ·exact kept b o (un.keep b o q n hb hx) ⟨o,q⟩ hb
 ·obtain⟨sl,q1⟩:=un.slot b o q n hb hx
  obtain⟨sl2,q2⟩:=frames b hb _ q1
  exact⟨sl2,q2⟩
 ·obtain⟨o',q1⟩:=un.there b o q hx
  by_cases hb:b∈uV X.outer
  ·obtain⟨sl2,q2⟩:=frames b hb _ q1;exact⟨_,q2⟩
  ·exact⟨o',kept b o' q1 ⟨o,q⟩ hb⟩
 ·refine(I.hok b u hb).stay (fun c v hc q=>?_) (fun _ q=>q) fun _ _ q=>q
  refine keptH c v q ?_
  rcases hc with rfl|hc
  ·rw[hb];simp
  ·rw[hc];simp
 ·rcases hr with hr|⟨⟨o0,h0⟩,hb⟩
  ·cases hu:H b with
   |none=>exact absurd hu hr
   |some u=>
    have lt:=I.hok.lt hu
    obtain⟨ob,hob⟩:∃ob,s.heap.get? b=some ob:=by
     exact(I.hok b u hu).ex
    have:=keptH b ob hob hr
    rw[ho]at this;cases this
    exact cov b o hob (.inl hr)
  ·obtain⟨o',q1⟩:=un.there b o0 h0 #[15]
   have:=kept b o' q1 ⟨o0,h0⟩ hb
   rw[ho]at this;cases this
   exact cov b o q1 (.inr (.inl ⟨⟨o0,h0⟩,hb,by rw[Aa];simp⟩))
structure bY(P:Program)(w:World)(K:Frag)(mg:Str->Option Value)(base:Heap)(k:Nat)(x:Str)(n:Nat)(F:List W->List am->R W):Prop where
 ex:∃(f:Addr) (fd:FuncData) (ps:List Str),mg x=some (.ref f)/\keepIn K (.ref f)=true/\ps.length=n/\qf K fd ps []/\c7 P w K mg base (hZ P w) k f fd ps (iD K mg n F)
theorem bY.mono{w:World}{k:Nat}{x:Str}(h:bY P w K mg base j x n F)(hj:j<=k):bY P w K mg base k x n F:=by
 obtain⟨f,fd,ps,a,b,c,d,e⟩:=h.ex
 exact⟨f,fd,ps,a,b,c,d,e.mono hj⟩
def cq(n:Nat)(F:List W->List am->R W)(fs:FA):FE:=fun ρ st=>(fs ρ st).bind fun ws st=>if ws.length=n then F ws st else .bad
section
theorem GM{k:Nat}{f:Addr}{Q:VK}{us:List Value}{vs:List V}
  (Fn:c7 X.prog X.w X.K X.mg X.base (hZ X.prog X.w) k f fd ps (iD X.K X.mg n F)) (hn:ps.length=n) (hr:iL k X.A) (hb:qf X.K fd ps []) (I:bQ X ak σ H s) (S:jk X.K X.mg μ st H) (r:RelWs X.K μ H ws vs) (rv:cL s.toks vs us) (hl:ws.length=n)
  (h:RK X (sR X) μ σ H Q (F ws st)):wpAny #[3] X.A (call (.ref f) us) (EP X ak σ Q) X.xe s:=by
 have hl':(us++([]:List Value)).length=ps.length:=by rw[bv,<- rv.length,<- r.len,hl,hn]
 cases e:F ws st with
 |bad=>rw[e]at h;exact h.elim
 |ok w bp=>
  rw[e]at h
  refine up (qY (iw (Fn.run X.A X.stack s H ⟨us,[]⟩ us vs Q (fun _ _ _=>False) hr I.env0 (.inl I.pos) (by have:=hb s us I.kIn hl';rwa[bv]at this) rv ⟨by rw[<- r.len];exact hl,μ,ws,st,S,r,by rw[e];exact h⟩) fun r s' hq=>?_))
  cases r with
  |error e=>obtain⟨_,_,_,_,_,_,z,_⟩:=hq;exact z.elim
  |ok fl=>
   cases fl with
   |ret u=>exact fun kt=>I.after hq kt
   |next=>exact False.elim hq
   |brk=>exact False.elim hq
   |cont=>exact False.elim hq
 |ex c bp=>
  rw[e]at h
  refine up (qY (iw (Fn.run X.A X.stack s H ⟨us,[]⟩ us vs (fun _ _=>False) (fun C _ H'=>X.mg c=some C/\∃μ',μ <+: μ'/\fw X.K H H'/\jk X.K X.mg μ' bp H') hr I.env0 (.inl I.pos) (by have:=hb s us I.kIn hl';rwa[bv]at this) rv
   ⟨by rw[<- r.len];exact hl,μ,ws,st,S,r,by rw[e];exact fun C μ' H' hC p x S'=>⟨hC,μ',p,x,S'⟩⟩) fun r s' hq=>?_))
  cases r with
  |ok fl=>
   cases fl with
   |ret u=>obtain⟨_,_,_,_,_,_,_,z⟩:=hq;exact z.elim
   |next=>exact False.elim hq
   |brk=>exact False.elim hq
   |cont=>exact False.elim hq
  |error ev=>
   obtain⟨x,C,t,B,H',rfl,⟨hC,μ',p,xx,S'⟩,os,bare,un,hok,hx,fl,cov⟩:=hq
   intro kt
   have I':bQ X ak σ H' s':=I.call' os un hok bare (fun b hb=>absurd hb #[15]) kt
   refine h ak μ' H' (.ref x) s' p xx S' ⟨I',x,C,t,B,rfl,hC,hx,fl.1,fl.2.1,fl.2.2.1,.inl fl.2.2.2,fun b o ho hrel=>?_⟩
   refine cov b o ho ?_
   rcases hrel with q|⟨⟨o0,h0⟩,hb,hbx⟩|⟨⟨y,hy⟩,hb⟩|⟨pp,hp,rfl⟩
   ·exact .inl q
   ·refine .inr ⟨?_,fun z=>?_⟩
    ·obtain⟨o',q1⟩:=I.base.there b o0 h0 hbx
     exact⟨o',q1⟩
    ·rcases aT.mp (I.stkSub b z)with z|z
     ·rw[z]at h0
      exact absurd (aP (aJ h0) I.ok.above) (dL _)
     ·exact hb z
   ·obtain⟨v,ov,hov,_⟩:=I.cell y b hy
    exact .inr ⟨⟨_,hov⟩,hb⟩
   ·obtain⟨g1,g2,g3,g4,_⟩:=I.pin pp hp
    refine .inr ⟨⟨_,g1⟩,fun z=>?_⟩
    rcases aT.mp (I.stkSub _ z)with z|z
    ·exact g3 z
    ·exact g4 z
variable{x:Str}{fs:FA}
theorem bR{k k':Nat}(Fn:bY X.prog X.w X.K X.mg X.base k x n F)(hr:iL k' X.A)(hk:k<=k')(ha:SA X (e::es) fs)(hg:Gl X x:=by rfl)(IS:(x==("__debug__":Str))=false:=by decide)
  (he:starEach (e::es) X.env=(false,eval e X.env)::starEach es X.env:=by rfl) (qe:(backTo pos (starEach es X.env)).any (·.1)=false:=by rfl):SE X (.Call (.Name x p) (e::es) [] pos) (cq n F fs):=⟨by
 intro ak s σ H Q I h
 obtain⟨f,fd,ps,hm,hkp,hn,hb,Fo⟩:=(Fn.mono hk).ex
 refine fK (uW I hg hm ?_ IS)
 walk_at "2"
 have h':Q5 X fs σ H fun vs H1=>∃μ1 st1 ws,Rl X μ1 ρ st1 σ H1/\RelWs X.K μ1 H1 ws vs/\RK X (sR X) μ1 σ H1 Q (if ws.length=n then F ws st1 else .bad):=
  ⟨μ,ρ,st,l,RK.bind h l fun μ1 st1 x v H1 p1 x1 l1 q1 h1=>⟨μ1,st1,x,l1,q1,h1⟩⟩
 refine PySem.W.callWith_K (h₀:=X.base) I.ok.mod.kin hkp (jC (ha.h pos ak s σ H _ I h') fun us s1 kt1 ⟨vs,H1,I1,r,μ1,st1,ws,l1,r1,q⟩=>⟨I1.kIn,?_⟩) he qe
 by_cases c:ws.length=n
 ·rw[aF c]at q
  exact GM Fo hn hr hb I1 l1.sto r1 r c q
 ·rw[aO c]at q;exact q.elim⟩
end
theorem Kp{w:World}{x:Str}{st:Stmt}{f:Addr}{N:List Str}{k:Nat}{g:FS}(F:iA K x fG st f fd)(S:bg N ps (aQ st))(hn:ps.length=n)
  (BF:∀(fq:Value) (A:Around) (outer:List Env) (s:Shared) (H:Hp) (E:XK),fd.code=fq->iL k (A.deeper (envOfC fG (aQ st) s.heap.objs.size f fq)) ->
   SB (B6 (hZ P w) P w K mg base N fG (aQ st) f fq A outer s H E) (gE st) g):c7 P w K mg base (hZ P w) (k+1) f fd ps (iD K mg n (c9 N.length g)):=by
 obtain⟨oc,od,kV,sI,pm,an,fq,ct,MD,rfl,lk,Fh⟩:=F.ex
 refine Qy lk Fh S (fun vs H Q E h=>by rw[hn];exact h.1) fun A outer s H vs Q E hr MC=>?_
 obtain⟨hl,μ,ws,Tx,Sr,r,h⟩:=MC
 refine⟨_,(BF fq A outer s H E rfl hr).h,μ,ws.map some++List.replicate (N.length-ws.length) none,Tx,⟨?_,Sr⟩,?_⟩
 ·unfold t6
  rw[<- r.len]
  have base:∀(ws:List W) (vs:List V) (m:Nat),RelWs K μ H ws vs->Paired (fun(o:Option W) (s:Option V)=>∀w,o=some w->∃v,s=some v/\bH K μ H w v) (ws.map some++List.replicate m none) (vs.map some++List.replicate m none):=by
   intro ws
   induction ws with
   |nil=>
    intro vs m r
    rw[r.nilE]
    induction m with
    |zero=>exact .nil
    |succ m ih=>exact .cons (fun w z=>nomatch z) ih
   |cons w ws ih=>
    intro vs m r
    obtain⟨y,ys,rfl,ry,rys⟩:=r.consE
    exact .cons (fun w' z=>⟨y,rfl,by cases z;exact ry⟩) (ih ys m rys)
  exact base ws vs _ r
 ·unfold c9 at h
  cases e:g (ws.map some++List.replicate (N.length-ws.length) none) Tx with
  |rt w bp=>
   rw[e]at h
   intro μ' v H' p x S' oq
   obtain⟨μ2,p2,S2,r2⟩:=vB Sr S' p (.consI oq .nilI)
   obtain⟨_,e2,r3⟩:=r2.one
   cases e2
   exact h μ2 v H' p2 x S2 r3
  |nx ρ' bp=>
   rw[e]at h
   intro μ' σ' H' p x l'
   obtain⟨μ2,p2,S2,_⟩:=vB (ws:=[]) (vs:=[]) Sr l'.sto p .nilI
   exact h μ2 .non H' p2 x S2 .non
  |ex c ρ' bp=>
   rw[e]at h
   intro ak μ' σ' H' ev s' p x l' fl
   obtain⟨μ2,p2,S2,_⟩:=vB (ws:=[]) (vs:=[]) Sr l'.sto p .nilI
   exact fl.leaves rfl rfl fl.inv.ok.frames rfl fun C hC=>h C μ2 H' hC p2 x S2
  |bk ρ' bp=>rw[e]at h;exact h.elim
  |ct ρ' bp=>rw[e]at h;exact h.elim
  |bad=>rw[e]at h;exact h.elim
theorem bP{w:World}{x:Str}{st:Stmt}{f:Addr}{N:List Str}{k:Nat}{g:FS}(F:iA K x fG st f fd)(S:bg N ps (aQ st))(hn:ps.length=n)
  (BF:∀(fq:Value) (A:Around) (outer:List Env) (s:Shared) (H:Hp) (E:XK),iL k (A.deeper (envOfC fG (aQ st) s.heap.objs.size f fq)) ->
   SB (B6 (hZ P w) P w K mg base N fG (aQ st) f fq A outer s H E) (gE st) g):c7 P w K mg base (hZ P w) (k+1) f fd ps (iD K mg n (c9 N.length g)):=Kp F S hn fun fq A outer s H E _ hr=>BF fq A outer s H E hr
theorem yU{w:World}{k:Nat}{x:Str}{st:Stmt}{f:Addr}{ps:List Str}
  (F:iA K x x st f fd) (hm:mg x=some (.ref f)) (hn:ps.length=n)
  (hb:∀(kV sI pm:Value) (an:Option Addr) (fq ct:Value) (us:List Value),us.length=ps.length->bindArgs (fnOf x x (ii st) (gE st) (aQ st) .none kV sI pm an fq ct) ⟨us,[]⟩=pure (ps.zip us))
  (ok:c7 P w K mg base (hZ P w) k f fd ps (iD K mg n G)):bY P w K mg base k x n G:=⟨f,fd,ps,hm,F.kp,hn,F.binds hb,ok⟩
end L2
namespace L2
open PySem PySem.Spec PyProof.Rows
theorem RelWs.split:∀{as bs:List W} {vs:List V},RelWs K μ H (as++bs) vs->∃xs ys,vs=xs++ys/\RelWs K μ H as xs/\RelWs K μ H bs ys
 |[],_,vs,r=>⟨[],vs,rfl,.nilI,r⟩
 |w::as,bs,vs,r=>by
  obtain⟨x,xs,rfl,rx,rs⟩:=r.consE
  obtain⟨ys,zs,rfl,r1,r2⟩:=RelWs.split rs
  exact⟨x::ys,zs,rfl,.consI rx r1,r2⟩
section
variable{a b:Expr}{x:Str}{fb:FE}{fs:FA}{id:String}
structure P1(X:Cx)(id:String)(F:W->List W->List am->R W):Prop where
 h:EA X id (fun x vs H Q=>∃μ st wx ws,jk X.K X.mg μ st H/\bH X.K μ H wx x/\RelWs X.K μ H ws vs/\Fv X μ H Q (F wx ws st))
 n:∀x ws st,uD (F x ws st)
def k8(st:List am):W->Bool
 |.loc n=>(match st[n]? with|some (.lst _)=>true|_=>false)
 |_=>false
def xO:W->Bool
 |.str _=>true
 |_=>false
theorem AG{w:W}{v:V}(S:jk X.K X.mg μ st H)(r:bH X.K μ H w v)(h:k8 st w=true):∃l ys,v=.ref l/\H l=some (.lst ys):=by
 cases w with
 |loc n=>
  obtain⟨a,ha,rfl⟩:=r.locE
  simp only[k8]at h
  cases e1:st[n]? with
  |none=>rw[e1]at h;cases h
  |some cc=>
   rw[e1]at h
   cases cc with
   |lst ws=>obtain⟨a1,g1,vs,k1,_⟩:=S.get e1;rw[ha]at g1;cases g1;exact⟨_,vs,rfl,k1⟩
   |_=>cases h
 |_=>cases h
def k9(F:W->List W->List am->R W)(fo:FE)(fs:FA):FE:=fun ρ st=>(fo ρ st).bind fun x st=>if k8 st x then(fs ρ st).bind fun ws st=>F x ws st else .bad
def Jw(F:W->List W->List am->R W)(fo:FE)(fs:FA):FE:=fun ρ st=>(fo ρ st).bind fun x st=>if xO x then(fs ρ st).bind fun ws st=>F x ws st else .bad
theorem lN{F:W->List W->List am->R W}(slot:Slot "list" name id)(Dc:typeOf (.builtin id)=pure (.type "method_descriptor"))(hm:P1 X id F)(ho:SE X o fo)(ha:SA X (e::es) fs)
  (j9:attributeBase o name X.env (eval o X.env)=eval o X.env:=by rfl)
  (qV:((backTo dH (starEach (e::es) X.env)).all (fun x=>!x.1)&&(backToKw dH (keywordEach [] X.env)).all (fun x=>x.1.isSome)
   && decide #[19])=true:=by rfl)
  (j_:(fH.endLine==dH.line)=true:=by rfl) (hs:starEach (e::es) X.env=(false,eval e X.env)::starEach es X.env:=by rfl) (nr:(backTo dH (starEach es X.env)).any (·.1)=false:=by rfl) :
  SE X (.Call (.Attribute o name fH) (e::es) [] dH) (k9 F fo fs):=⟨(QR slot Dc hm.h ho.h ha.h j9 qV j_ hs nr).imp fun σ H Q h=>by
 walk_at "2"
 walk_at "1"
 by_cases c:k8 st1 x=true
 ·rw[aF c]at h1
  refine⟨AG l1.sto q1 c,μ1,ρ,st1,l1,RK.bind h1 l1 fun μ2 cZ ws vs H2 p2 x2 l2 q2 h2=>?_⟩
  exact⟨μ2,cZ,x,ws,l2.sto,q1.mono p2 x2,q2,sT h2 (hm.n _ _ _)⟩
 ·rw[aO c]at h1;exact h1.elim⟩
theorem qm{F:W->List W->List am->R W}(slot:Slot "list" name id)(Dc:typeOf (.builtin id)=pure (.type "method_descriptor"))(hm:P1 X id F)(ho:SE X o fo)
  (j9:attributeBase o name X.env (eval o X.env)=eval o X.env:=by rfl) (j_:(fH.endLine==dH.line)=true:=by rfl):SE X (.Call (.Attribute o name fH) [] [] dH) (k9 F fo aE):=⟨(NA slot Dc hm.h ho.h j9 j_).imp fun σ H Q h=>by
 walk_at "2"
 walk_at "1"
 by_cases c:k8 st1 x=true
 ·rw[aF c]at h1
  exact⟨AG l1.sto q1 c,μ1,st1,x,[],l1.sto,q1,.nilI,sT h1 (hm.n _ _ _)⟩
 ·rw[aO c]at h1;exact h1.elim⟩
theorem Kq{F:W->List W->List am->R W}(slot:Slot "str" name id)(Dc:typeOf (.builtin id)=pure (.type "method_descriptor"))(hm:P1 X id F)(ho:SE X o fo)(ha:SA X (e::es) fs)
  (j9:attributeBase o name X.env (eval o X.env)=eval o X.env:=by rfl)
  (qV:((backTo dH (starEach (e::es) X.env)).all (fun x=>!x.1)&&(backToKw dH (keywordEach [] X.env)).all (fun x=>x.1.isSome)
   && decide #[19])=true:=by rfl)
  (j_:(fH.endLine==dH.line)=true:=by rfl) (hs:starEach (e::es) X.env=(false,eval e X.env)::starEach es X.env:=by rfl) (nr:(backTo dH (starEach es X.env)).any (·.1)=false:=by rfl) :
  SE X (.Call (.Attribute o name fH) (e::es) [] dH) (Jw F fo fs):=⟨(QT slot Dc hm.h ho.h ha.h j9 qV j_ hs nr).imp fun σ H Q h=>by
 walk_at "2"
 walk_at "1"
 cases x with
 |str z=>
  rw[aF (show xO (W.str z)=true from rfl)]at h1
  refine⟨⟨z,q1.strE⟩,μ1,ρ,st1,l1,RK.bind h1 l1 fun μ2 cZ ws vs H2 p2 x2 l2 q2 h2=>?_⟩
  exact⟨μ2,cZ,_,ws,l2.sto,q1.mono p2 x2,q2,sT h2 (hm.n _ _ _)⟩
 |_=>exact h1.elim⟩
def bW(x:W)(ws:List W)(st:List am):R W:=match x,ws with
 |.loc n,[y]=>(match st[n]? with
  |some (.lst zs)=>if zs.length<mB then .ok .non (st.set n (.lst (zs++[y])))else .bad
  |_=>.bad)
 |_,_=>.bad
theorem cY:P1 X "list.append" bW:=⟨fun ak s σ H x vs v us Q I rv rus zq=>by
 obtain⟨μ,st,wx,ws,S,rx,rs,q⟩:=zq
 unfold bW at q
 split at q
 ·rename_i n y
  obtain⟨y1,rfl,ry⟩:=rs.one
  split at q
  ·rename_i zs e1
   split at q
   ·rename_i c
    obtain⟨a1,g1,vs,k1,r⟩:=S.get e1
    obtain⟨b1,f1,rfl⟩:=rx.locE
    rw[g1]at f1;cases f1
    refine Ch ak s σ H _ _ v us Q I rv rus ⟨a1,vs,y1,rfl,rfl,k1,by rw[<- r.len];exact NG (fZ c),fun H2 e=>?_⟩
    subst e
    exact q μ _ _ (ao _) (gc.but jn k1) (S.set e1 g1 k1 (r.app (.consI ry .nilI))) .non
   ·exact q.elim
  ·exact q.elim
 ·exact q.elim,fun x ws st=>by
 unfold bW
 repeat' split
 all_goals trivial⟩
def mE(x:W)(ws:List W)(st:List am):R W:=match x,ws with
 |.loc n,[]=>(match st[n]? with
  |some (.lst zs)=>sZ zs.getLast? fun w=>.ok w (st.set n (.lst zs.dropLast))
  |_=>.bad)
 |_,_=>.bad
theorem me:P1 X "list.pop" mE:=⟨fun ak s σ H x vs v us Q I rv rus zq=>by
 obtain⟨μ,st,wx,ws,S,rx,rs,q⟩:=zq
 unfold mE at q
 split at q
 ·rename_i n
  have e0:=rs.nilE
  subst e0
  split at q
  ·rename_i zs e1
   obtain⟨a1,g1,vs,k1,r⟩:=S.get e1
   obtain⟨b1,f1,rfl⟩:=rx.locE
   rw[g1]at f1;cases f1
   cases hl:zs.getLast? with
   |none=>rw[hl]at q;exact q.elim
   |some w=>
    rw[hl]at q
    have hz:zs=zs.dropLast++[w]:=by
     obtain⟨ys,rfl⟩:=List.getLast?_eq_some_iff.mp hl
     simp
    rw[hz]at r
    obtain⟨xs',P6,hx,r1,r3⟩:=r.split
    obtain⟨y',rfl,r2⟩:=r3.one
    refine Ka ak s σ H _ _ v us Q I rv rus ⟨a1,xs',y',rfl,rfl,by rw[<- hx];exact k1,fun H2 e=>?_⟩
    subst e
    have xx:fw X.K H (f_ H a1 (.lst xs')):=gc.but jn k1
    exact q μ _ _ (ao _) xx (S.set e1 g1 k1 r1) (r2.mono (ao _) xx)
  ·exact q.elim
 ·exact q.elim,fun x ws st=>by
 unfold mE sZ
 repeat' split
 all_goals trivial⟩
def nH:List W->Option (List (List Nat))
 |[]=>some []
 |.str l::ws=>(nH ws).map (l :: ·)
 |_=>none
theorem vC:∀{ws:List W} {ls:List (List Nat)} {vs:List V},nH ws=some ls->RelWs K μ H ws vs->vs=ls.map fun l=>V.str (tx l)
 |[],ls,vs,h,r=>by simp only[nH]at h;cases h;exact r.nilE
 |w::ws,ls,vs,h,r=>by
  obtain⟨x,xs,rfl,rx,rs⟩:=r.consE
  cases w with
  |str l=>
   simp only[nH]at h
   cases e:nH ws with
   |none=>rw[e]at h;cases h
   |some ls'=>rw[e]at h;cases h;rw[rx.strE,vC e rs];rfl
  |_=>simp only[nH]at h;cases h
theorem xP(ls:List (List Nat)):nH (ls.map W.str)=some ls:=by
 induction ls with
 |nil=>rfl
 |cons a r ih=>show(nH (r.map W.str)).map (a :: ·)=_;rw[ih];rfl
def nI(x:W)(ws:List W)(st:List am):R W:=match x,ws with
 |.str sep,[.loc n]=>sZ (lstOf st n) fun zs=>sZ (nH zs) fun ls=>if (ls.map List.length).sum+ls.length*sep.length<=mB then .ok (.str (kZ sep ls)) st else .bad
 |_,_=>.bad
theorem uY:P1 X "str.join" nI:=⟨fun ak s σ H x vs v us Q I rv rus zq=>by
 obtain⟨μ,st,wx,ws,S,rx,rs,q⟩:=zq
 unfold nI at q
 split at q
 ·rename_i sep n
  obtain⟨y1,rfl,ry⟩:=rs.one
  cases e1:lstOf st n with
  |none=>rw[e1]at q;exact q.elim
  |some zs=>
   rw[e1,eV]at q
   cases e2:nH zs with
   |none=>rw[e2]at q;exact q.elim
   |some ls=>
    rw[e2,eV]at q
    split at q
    ·rename_i c
     obtain⟨a,vs,g,hS,r⟩:=S.lstOf e1
     obtain⟨b1,f1,rfl⟩:=ry.locE
     rw[g]at f1;cases f1
     have:=vC e2 r
     subst this
     exact J9 ak s σ H _ _ v us Q I rv rus ⟨sep,_,ls,rx.strE,rfl,hS,aN c #[13],rh S q⟩
    ·exact q.elim
 ·exact q.elim,fun x ws st=>by
 unfold nI
 split
 ·exact ue fun _=>ue fun _=>by split<;>trivial
 ·trivial⟩
end
def s_(cap:List (Option Nat))(ρ:cM):cM:=cap.map fun o=>o.bind fun j=>(ρ[j]?).join
theorem Ro(r:Paired (fun(o:Option W) (s:Option V)=>∀w,o=some w->∃v,s=some v/\bH X.K μ H w v) ρ σ):∀cap:List (Option Nat),
  Paired (fun(o:Option W) (s:Option V)=>∀w,o=some w->∃v,s=some v/\bH X.K μ H w v) (s_ cap ρ) (qg cap σ)
 |[]=>.nil
 |o::cap=>by
  refine .cons (fun w e=>?_) (Ro r cap)
  cases o with
  |none=>cases e
  |some j=>
   have e':(ρ[j]?).join=some w:=e
   have e2:ρ[j]?=some (some w):=by
    cases h:ρ[j]? with
    |none=>rw[h]at e';cases e'
    |some ow=>rw[h]at e';simp at e';rw[e']
   obtain⟨v,g1,g2⟩:=vq r e2
   exact⟨v,by show(σ[j]?).join=some v;rw[g1];rfl,g2⟩
open Classical in
def rj(f:FG)(t:FT)(el:FE)(ck:Option (Nat×List W))(ρ0:cM):List W->List W->List am->R (List W)
 |[],iT,st=>if jq st ck then .ok iT st else .bad
 |w::ws,iT,st=>if jq st ck then(match f w ρ0 with
  |none=>.bad
  |some ρ'=>(match t ρ' st with
   |.ok true st1=>(match el ρ' st1 with
    |.ok y cZ=>rj f t el ck ρ0 ws (iT++[y]) cZ
    |_=>.bad)
   |.ok false st1=>rj f t el ck ρ0 ws iT st1
   |_=>.bad))else .bad
def j6(cap:List (Option Nat))(fi:FI)(f:FG)(t:FT)(el:FE):FE:=fun ρ st=>(fi ρ st).bind fun k st=>if k.1.length<=mB then(rj f t el k.2 (s_ cap ρ) k.1 [] st).bind fun ys st=>qk ys st else .bad
def Td(X:Cx)(rel:List Addr->Hp->α->β->Prop)(f:cM->List am->R α)(σ:St)(H:Hp)(Q:β->Hp->Prop):Prop:=
 ∃μ ρ st a bp,Rl X μ ρ st σ H/\f ρ st=.ok a bp/\∀μ' b H',μ <+: μ'->fw X.K H H'->jk X.K X.mg μ' bp H'->rel μ' H' a b->Q b H'
def wZ:FT:=fun _ st=>.ok true st
structure Rp(X:Cx)(es:List Expr)(f:FT):Prop where
 h:F' X es (tT X f)
theorem F'.imp{e:List Expr}{t t':TT}(h:F' X e t)(i:∀σ H Q,t' σ H Q->t σ H Q):F' X e t':=fun ak s σ H Q I q=>h ak s σ H Q I (i _ _ _ q)
theorem uZ:Rp X [] wZ:=⟨J5.imp fun σ H Q h=>by
 walk_at "2"
 exact h μ true H (ao _) fw.refl l.sto rfl⟩
theorem DO(hc:ST X c t):Rp X [c] t:=⟨J6 hc.h⟩
theorem GN{f:FG}{Q:VK}(h:tE X (j6 cap fi f t el) σ H Q) :
  ve cap (fun σ H R=>tG X (Rn X) fi σ H R) (Rk X f) (Td X NH t) (Td X (sR X) el) σ H Q:=by
 walk_at "2"
 refine⟨μ,ρ,st,l,RK.bind h l fun μ1 st1 k J H1 p1 x1 l1 wk h1=>?_⟩
 by_cases hz:k.1.length<=mB
 ·rw[aF hz]at h1
  refine⟨fun i m ys H'=>i<=k.1.length/\m=k.1.length-i/\ys.length<=i/\∃μ' iT bp,μ1 <+: μ'/\fw X.K H1 H'/\Rl X μ' ρ bp σ H'/\RelWs X.K μ' H' iT ys/\RK X (sR X) μ' σ H' Q ((rj f t el k.2 (s_ cap ρ) (k.1.drop i) iT bp).bind fun ys st=>qk ys st),
   ⟨_,cx _,rfl,az _,μ1,[],st1,ao _,fw.refl,l1,.nilI,h1⟩,?_⟩
  rintro i m ys H' ⟨hi,rfl,hy,μ',iT,bp,pm,xm,lm,ra,hm⟩
  by_cases hlt:i<k.1.length
  ·rw[fQ hlt]at hm
   unfold rj at hm
   by_cases ck:jq bp k.2
   ·rw[aF ck]at hm
    obtain⟨go,yld⟩:=(wk i μ' bp H' pm xm lm.sto ck).1 _ (aj hlt)
    refine .inr ⟨go,fun x H2 hy2=>?_⟩
    obtain⟨y1,y2,y3⟩:=yld x H2 hy2
    cases hf:f k.1[i] (s_ cap ρ)with
    |none=>rw[hf]at hm;exact hm.elim
    |some ρ2=>
     rw[hf]at hm
     simp only at hm
     have lb:Rl X μ' (s_ cap ρ) bp (qg cap σ) H2:=⟨Ro (lm.to (ao _) y1 y2).env cap,y2⟩
     refine⟨μ',s_ cap ρ,bp,k.1[i],ρ2,lb,y3,hf,fun σ2 l2=>?_⟩
     cases ht:t ρ2 bp with
     |bad=>rw[ht]at hm;exact hm.elim
     |ex c s=>rw[ht]at hm;exact hm.elim
     |ok kk cZ=>
      rw[ht]at hm
      refine⟨μ',ρ2,bp,kk,cZ,l2,ht,fun μ3 b3 H3 p3 x3 S3 q3=>?_⟩
      cases q3
      cases kk with
      |false=>
       exact⟨_,by omega,hlt,rfl,by omega,μ3,iT,cZ,pm.trans p3,xm.trans (y1.trans x3),lm.to p3 (y1.trans x3) S3,ra.mono p3 (y1.trans x3),RK.mono hm p3 (y1.trans x3)⟩
      |true=>
       rw[aF rfl]
       simp only at hm
       cases he:el ρ2 cZ with
       |bad=>rw[he]at hm;exact hm.elim
       |ex c s=>rw[he]at hm;exact hm.elim
       |ok w lZ=>
        rw[he]at hm
        refine⟨μ3,ρ2,cZ,w,lZ,l2.to p3 x3 S3,he,fun μ4 b4 H4 p4 x4 S4 q4=>?_⟩
        have pp:=p3.trans p4
        have xx:=y1.trans (x3.trans x4)
        exact⟨gJ hy (aP hlt (oE hz)),_,by omega,hlt,rfl,by simp;omega,μ4,iT++[w],lZ,pm.trans pp,xm.trans xx,lm.to pp xx S4,(ra.mono pp xx).app (.consI q4 .nilI),RK.mono hm pp xx⟩
   ·rw[aO ck]at hm;exact hm.elim
  ·have hi':i=k.1.length:=by omega
   subst hi'
   rw[nE (az _)]at hm
   unfold rj at hm
   by_cases ck:jq bp k.2
   ·rw[aF ck]at hm
    obtain⟨z1,z2⟩:=vw lm.sto ra hm
    exact .inl ⟨(wk _ μ' bp H' pm xm lm.sto ck).2 (az _),z1,fun p hp=>z2 p _ hp rfl⟩
   ·rw[aO ck]at hm;exact hm.elim
 ·rw[aO hz]at h1;exact h1.elim
section
variable{f:FG}{m:Nat}
theorem U5{X X':Cx}{f:FE}(hK:X'.K=X.K)(hm:X'.mg=X.mg)(h:SE X' e f):QE X' e (Td X (sR X) f):=⟨h.h.imp fun σ H Q ⟨μ,ρ,st,a,bp,l,e,q⟩=>⟨μ,ρ,st,⟨by rw[hK];exact l.env,by rw[hK,hm];exact l.sto⟩,by rw[e];exact fun μ' b H' p x S r=>q μ' b H' p (by rw[<- hK];exact x) (by rw[<- hK,<- hm];exact S) (by show bH X.K μ' H' a b;rw[<- hK];exact r)⟩⟩
theorem U6{X X':Cx}{e:List Expr}{f:FT}(hK:X'.K=X.K)(hm:X'.mg=X.mg)(h:Rp X' e f):Ue X' e (Td X NH f):=⟨h.h.imp fun σ H Q ⟨μ,ρ,st,a,bp,l,e,q⟩=>⟨μ,ρ,st,⟨by rw[hK];exact l.env,by rw[hK,hm];exact l.sto⟩,by rw[e];exact fun μ' b H' p x S r=>q μ' b H' p (by rw[<- hK];exact x) (by rw[<- hK,<- hm];exact S) r⟩⟩
theorem U7{X X':Cx}(hK:X'.K=X.K)(hm:X'.mg=X.mg)(h:SG X' e f):QG X' e (Rk X f):=⟨h.h.imp fun v σ H Q ⟨μ,ρ,st,w,ρ',l,r,e,q⟩=>⟨μ,ρ,st,w,ρ',⟨by rw[hK];exact l.env,by rw[hK,hm];exact l.sto⟩,by rw[hK];exact r,e,fun σ' l'=>q σ' ⟨by rw[<- hK];exact l'.env,by rw[<- hK,<- hm];exact l'.sto⟩⟩⟩
theorem Cw(hB:EI X.env.scope.names scope.names nm cap X.N=true)(qT:X.env.cells=cellsFrom m X.env.scope.names [])(hi:SI X tg ef fi)(hg:∀cl C s0 H0 fp,SG #[9] tg f)(ht:∀cl C s0 H0 fp,Rp #[9] mU t)
  (he:∀cl C s0 H0 fp,SE #[9] qX el) (jI:X.calm=true:=by rfl) (jH:scope.kind=.function:=by rfl) (hs:∀x,foldedSetIterable ef X.env x=pure x:=by intro _;rfl) :
  SE X #[10] (j6 cap fi f t el):=
 ⟨(NC jI qT jH hB ⟨hi.h⟩ (fun cl C s0 H0 fp=>U7 (X:=X) rfl rfl (hg cl C s0 H0 fp)) (fun cl C s0 H0 fp=>U6 (X:=X) rfl rfl (ht cl C s0 H0 fp)) (fun cl C s0 H0 fp=>U5 (X:=X) rfl rfl (he cl C s0 H0 fp)) hs).h.imp fun _ _ _ h=>GN h⟩
theorem qE{x0:Str}{p0 p1:Pos}(IT:SG X (.Name x0 p0) (jD i))(hB:EI X.env.scope.names scope.names nm cap X.N=true)(qT:X.env.cells=cellsFrom m X.env.scope.names [])(hi:SI X tg ef fi)(hg:∀cl C s0 H0 fp,SG #[9] tg f)(ht:∀cl C s0 H0 fp,Rp #[9] mU t)
  (he:∀cl C s0 H0 fp,SE #[9] qX el) (jI:X.calm=true:=by rfl) (jH:scope.kind=.function:=by rfl) (hs:∀x,foldedSetIterable ef X.env x=pure x:=by intro _;rfl)
  (SM:swapsWith #[10] (some (.Name x0 p0)) p1.line X.env=pure true:=by first|rfl|kernel_rfl) :
  SS X (.Assign [.Name x0 p0] #[10] p1) (uE (j6 cap fi f t el) (jD i)):=
 ⟨(Cn ⟨IT.h⟩ jI qT jH hB ⟨hi.h⟩ (fun cl C s0 H0 fp=>U7 (X:=X) rfl rfl (hg cl C s0 H0 fp)) (fun cl C s0 H0 fp=>U6 (X:=X) rfl rfl (ht cl C s0 H0 fp)) (fun cl C s0 H0 fp=>U5 (X:=X) rfl rfl (he cl C s0 H0 fp)) hs SM).h.imp fun D σ H h=>by
  walk_at "2"
  have h':tE X (j6 cap fi f t el) σ H fun x H1=>Rk X (jD i) x σ H1 D.nx:=⟨μ,ρ,st,l,RK.stmt h l fun μ1 st1 x v H1 p1 x1 l1 q1 h1=>⟨μ1,ρ,st1,x,ρ.set i (some x),l1,q1,rfl,fun σ' l'=>h1 μ1 σ' H1 (ao _) fw.refl l'⟩⟩
  exact GN h'⟩
end
section
variable{a b:Expr}{x:Str}{fb fc:FE}{fs:FA}
theorem EX{uQ:List V}(hr:∀μ H,RelWs X.K μ H ws uQ):Cu X (T' uQ) (ws,none) μ H:=fun i μ' bp H' pp xx S _=>by
 have hl:ws.length=uQ.length:=(hr μ H).len
 refine⟨fun w hw=>?_,fun h=>by show uQ.length<=i;rw[<- hl];exact h⟩
 obtain⟨v,g1,g2⟩:=(hr μ' H').get hw
 refine⟨(au.mp g1).1,fun y H'' hy=>?_⟩
 obtain⟨rfl,hy⟩:=hy
 rw[g1]at hy;cases hy
 exact⟨fw.refl,S,g2⟩
def iG(l:List Nat):List W:=l.map fun c=>.str [c]
theorem xQ(l:List Nat)(μ:List Addr)(H:Hp):RelWs X.K μ H (iG l) (jm l):=by
 induction l with
 |nil=>exact .nilI
 |cons a r ih=>exact .consI .str ih
def Lx(fe:FE):FI:=fun ρ st=>(fe ρ st).bind fun x st=>match x with
 |.str l=>.ok (iG l,none) st
 |_=>.bad
theorem NT(he:SE X e fe):SI X tg e (Lx fe):=⟨(Nw he.h).imp fun σ H R h=>by
 walk_at "2"
 walk_at "1"
 cases x with
 |str z=>exact⟨z,q1.strE,h1 μ1 _ H1 (ao _) fw.refl l1.sto (EX (xQ z))⟩
 |_=>exact h1.elim⟩
def gB(fe:FE):FI:=fun ρ st=>(fe ρ st).bind fun x st=>match x with
 |.tup ws=>.ok (ws,none) st
 |.loc n=>(match lstOf st n with
  |some ws=>.ok (ws,some (n,ws)) st
  |none=>.bad)
 |.str l=>.ok (iG l,none) st
 |_=>.bad
theorem k_(he:SE X e fe):SI X tg e (gB fe):=⟨fun ak s σ H Rr I h=>by
 walk_at "2"
 cases e1:fe ρ st with
 |bad=>simp only[gB,e1,R.bind_bad]at h;exact h.elim
 |ex c st1=>
  refine(GL (tg:=tg) he).h ak s σ H Rr I ⟨μ,ρ,st,l,?_⟩
  simp only[gB,GK,e1,R.bind_ex]at h ⊢;exact h
 |ok w st1=>
  cases w with
  |tup ws=>
   refine(GL (tg:=tg) he).h ak s σ H Rr I ⟨μ,ρ,st,l,?_⟩
   simp only[gB,GK,e1,R.bind_ok]at h ⊢;exact h
  |loc n=>
   refine(NS (tg:=tg) he).h ak s σ H Rr I ⟨μ,ρ,st,l,?_⟩
   simp only[gB,Lu,e1,R.bind_ok]at h ⊢;exact h
  |str z=>
   refine(NT (tg:=tg) he).h ak s σ H Rr I ⟨μ,ρ,st,l,?_⟩
   simp only[gB,Lx,e1,R.bind_ok]at h ⊢;exact h
  |_=>simp only[gB,e1,R.bind_ok]at h;exact h.elim⟩
def lX(ws:List W):List W:=(List.range ws.length).map fun(i:Nat)=>W.tup [.int i,ws.getD i .non]
theorem tf{w:W}(h:(lX ws)[i]?=some w):∃y,ws[i]?=some y/\w=.tup [.int i,y]:=by
 unfold lX at h
 rw[aI]at h
 by_cases hi:i<ws.length
 ·rw[iK hi]at h
  refine⟨ws[i],aj hi,?_⟩
  have:=(bu h).symm
  rw[this]
  show W.tup [W.int i,ws.getD i W.non]=_
  rw[aH,aj hi];rfl
 ·rw[cn (by simpa using hi)]at h;cases h
theorem xR(ws:List W):(lX ws).length=ws.length:=by simp[lX]
def qF(fs:FA):FI:=fun ρ st=>(fs ρ st).bind fun ws st=>match ws with
 |[.tup zs]=>.ok (lX zs,none) st
 |_=>.bad
theorem DP{wF:List Expr}{kk:Nat}{tp:Pos}(hm:X.mg "enumerate"=none)(ha:SA X [a] fs)(hg:Gl X "enumerate":=by rfl)(hs:starEach [a] X.env=[(false,eval a X.env)]:=by rfl) :
  SI X (.Tuple wF kk tp) (.Call (.Name "enumerate" p) [a] [] pos) (qF fs):=⟨(Gk hm ⟨ha.h⟩ hg hs).h.imp fun σ H R h=>by
 walk_at "2"
 walk_at "1"
 split at h1
 ·rename_i zs
  obtain⟨y,rfl,ry⟩:=q1.one
  obtain⟨p,vs,rfl,hS,r⟩:=ry.tupE
  refine⟨p,rfl,⟨vs,hS⟩,h1 μ1 _ H1 (ao _) fw.refl l1.sto fun i μ' bp H' pp xx S _=>⟨fun w hw=>?_,fun hl=>⟨vs,xx _ _ hS,by rw[xR]at hl;rw[<- r.len];exact hl⟩⟩⟩
  obtain⟨y,hy,rfl⟩:=tf hw
  have r':=r.mono pp xx
  obtain⟨v,g1,g2⟩:=r'.get hy
  refine⟨⟨vs,v,xx _ _ hS,g1⟩,fun z H'' hz=>?_⟩
  obtain⟨q,hq,rfl,hH⟩:=hz
  have e:=hH vs v (xx _ _ hS) g1
  subst e
  have ex:=gc.same (K:=X.K) (dg hq (.tup [.int i,v]))
  exact⟨ex,S.same (dg hq _),.tupI gc.new (.consI .int (.consI (g2.mono (ao _) ex) .nilI))⟩
 ·exact h1.elim⟩
def oK(fa:FE):FE:=fun ρ st=>(fa ρ st).bind fun x st=>match x with
 |.int i=>.ok (.int (-i)) st
 |_=>.bad
theorem uf(ha:SE X a fa):SE X (.UnaryOp .USub a pos) (oK fa):=⟨(Qq Nf ha.h).imp fun σ H Q h=>by
 walk_at "2"
 walk_at "1"
 cases x with
 |int k=>exact⟨k,q1.intE,h1 μ1 _ H1 (ao _) fw.refl l1.sto .int⟩
 |_=>exact h1.elim⟩
def Ur(x y:W)(st:List am):R W:=match x,y with
 |.int i,.int j=>.ok (.bl (decide (i<=j))) st
 |.str [c],.str [d]=>.ok (.bl (decide (c<=d))) st
 |_,_=>.bad
end
def yV(c:Nat):List Nat->List Nat
 |[]=>[c]
 |d::r=>if c<d then c::d::r else if c=d then d::r else d::yV c r
def gn(l:List Nat):List Nat:=l.foldr yV []
theorem vD{c x:Nat}:∀{l:List Nat},x∈yV c l↔x=c\/x∈l
 |[]=>by simp[yV]
 |d::r=>by
  unfold yV
  split
  ·simp
  ·split
   ·rename_i h;subst h;simp
   ·simp only[aT,vD]
    constructor
    ·rintro(h|h|h)<;>simp[h]
    ·rintro(h|h|h)<;>simp[h]
theorem DQ{c:Nat}:∀{l:List Nat},l.Pairwise (· < ·)->(yV c l).Pairwise (· < ·)
 |[],_=>by simp[yV]
 |d::r,h=>by
  obtain⟨h1,h2⟩:=bZ.mp h
  unfold yV
  split
  ·rename_i hc
   refine bZ.mpr ⟨fun x hx=>?_,h⟩
   rcases aT.mp hx with rfl|hx
   ·exact hc
   ·exact sE hc (h1 x hx)
  ·split
   ·exact h
   ·rename_i hc hd
    refine bZ.mpr ⟨fun x hx=>?_,DQ h2⟩
    rcases vD.mp hx with rfl|hx
    ·omega
    ·exact h1 x hx
theorem jb{x:Nat}:x∈gn l↔x∈l:=by
 induction l with
 |nil=>simp[gn]
 |cons a r ih=>show x∈yV a (gn r)↔_;rw[vD,ih];simp
theorem jr(l:List Nat):(gn l).Pairwise (· < ·):=by
 induction l with
 |nil=>exact List.Pairwise.nil
 |cons a r ih=>exact DQ ih
theorem yW:∀{l m:List Nat},l.Pairwise (· < ·)->m.Pairwise (· < ·)->(∀x,x∈l↔x∈m)->l=m
 |[],[],_,_,_=>rfl
 |[],b::m,_,_,h=>by have:=(h b).mpr (by simp);simp at this
 |a::l,[],_,_,h=>by have:=(h a).mp (by simp);simp at this
 |a::l,b::m,h1,h2,h=>by
  obtain⟨p1,p2⟩:=bZ.mp h1
  obtain⟨q1,q2⟩:=bZ.mp h2
  have e:a=b:=by
   rcases aT.mp ((h a).mp #[15])with z|z
   ·exact z
   ·rcases aT.mp ((h b).mpr #[15])with y|y
    ·exact y.symm
    ·have:=p1 b y;have:=q1 a z;omega
  subst e
  rw[yW p2 q2 fun x=>?_]
  constructor
  ·intro hx
   rcases aT.mp ((h x).mp (aS _ hx))with z|z
   ·subst z;exact absurd (p1 x hx) (dL _)
   ·exact z
  ·intro hx
   rcases aT.mp ((h x).mpr (aS _ hx))with z|z
   ·subst z;exact absurd (q1 x hx) (dL _)
   ·exact z
def Cy(c:List Nat):List (List Nat)->List (List Nat)
 |[]=>[c]
 |d::r=>if c<d then c::d::r else d::Cy c r
def jc(l:List (List Nat)):List (List Nat):=l.foldr Cy []
theorem tj(c:List Nat):∀l:List (List Nat),(Cy c l).Perm (c::l)
 |[]=>ig _
 |d::r=>by
  unfold Cy
  split
  ·exact ig _
  ·exact((tj c r).cons d).trans (List.Perm.swap c d r)
theorem gG(l:List (List Nat)):(jc l).Perm l:=by
 induction l with
 |nil=>exact ig _
 |cons a r ih=>exact(tj a _).trans (ih.cons a)
def Kr:List (List Nat)->Prop:=List.Pairwise fun a b=>¬ b<a
theorem DR(c:List Nat):∀{l:List (List Nat)},Kr l->Kr (Cy c l)
 |[],_=>by simp[Cy,Kr]
 |d::r,h=>by
  obtain⟨h1,h2⟩:=bZ.mp h
  unfold Cy
  split
  ·rename_i hc
   refine bZ.mpr ⟨fun x hx=>?_,h⟩
   rcases aT.mp hx with rfl|hx
   ·exact fun z=>List.lt_irrefl _ (List.lt_trans z hc)
   ·exact fun z=>h1 x hx (List.lt_trans z hc)
  ·rename_i hc
   refine bZ.mpr ⟨fun x hx=>?_,DR c h2⟩
   rcases aT.mp ((tj c r).mem_iff.mp hx)with rfl|hx
   ·exact hc
   ·exact h1 x hx
theorem vE(l:List (List Nat)):Kr (jc l):=by
 induction l with
 |nil=>exact List.Pairwise.nil
 |cons a r ih=>exact DR a ih
theorem u0:∀{l m:List (List Nat)},Kr l->Kr m->l.Perm m->l=m
 |[],m,_,_,h=>(List.Perm.nil_eq h)
 |a::l,[],_,_,h=>(by have:=h.length_eq;simp at this)
 |a::l,b::m,h1,h2,h=>by
  obtain⟨p1,p2⟩:=bZ.mp h1
  obtain⟨q1,q2⟩:=bZ.mp h2
  have e:a=b:=by
   rcases aT.mp (h.mem_iff.mp (by simp:a∈a::l))with z|z
   ·exact z
   ·rcases aT.mp (h.mem_iff.mpr (by simp:b∈b::m))with y|y
    ·exact y.symm
    ·exact List.le_antisymm (show a<=b from p1 b y) (show b<=a from q1 a z)
  subst e
  rw[u0 p2 q2 (List.perm_cons a |>.mp h)]
theorem vF:∀{zs:List (List Nat)},sortedS (zs.map tx)=true->Kr zs:=by
 have key:∀(zs:List (List Nat)) (p:List Nat),risingS (tx p) (zs.map tx)=true->Kr (p::zs):=by
  intro zs
  induction zs with
  |nil=>intro p _;simp[Kr]
  |cons a r ih=>
   intro p h
   have h':(!ltCps a p&&risingS (tx a) (r.map tx))=true:=h
   rw[dA,hX,ltCps_eq,decide_eq_false_iff_not]at h'
   have u:=ih a h'.2
   refine bZ.mpr ⟨fun x hx=>?_,u⟩
   rcases aT.mp hx with rfl|hx
   ·exact h'.1
   ·have:=(bZ.mp u).1 x hx
    exact List.not_lt.mpr (List.le_trans (List.not_lt.mp h'.1) (List.not_lt.mp this))
 intro zs h
 cases zs with
 |nil=>exact List.Pairwise.nil
 |cons a r=>exact key r a h
section
variable{a b:Expr}{x:Str}{fb fc:FE}{fs:FA}
def pU(ws:List W)(st:List am):R W:=match ws with
 |[.loc n]=>sZ (lstOf st n) fun zs=>sZ (nH zs) fun ls=>if ls.length<64 then .ok (.loc st.length) (st++[.lst ((jc ls).map W.str)])else .bad
 |_=>.bad
theorem AH(ls:List (List Nat)):RelWs K μ H (ls.map W.str) (ls.map fun l=>V.str (tx l)):=by
 induction ls with
 |nil=>exact .nilI
 |cons a r ih=>exact .consI .str ih
theorem AI:oG X (.builtin "sorted") pU:=⟨fun ak s σ H vs us Q I rv zq=>by
 obtain⟨μ,st,ws,S,r,q⟩:=zq
 unfold pU at q
 split at q
 ·rename_i n
  obtain⟨y,rfl,ry⟩:=r.one
  cases e1:lstOf st n with
  |none=>rw[e1]at q;exact q.elim
  |some zs=>
   rw[e1,eV]at q
   cases e2:nH zs with
   |none=>rw[e2]at q;exact q.elim
   |some ls=>
    rw[e2,eV]at q
    split at q
    ·rename_i c
     obtain⟨a,vs,g,hS,rz⟩:=S.lstOf e1
     obtain⟨b1,f1,rfl⟩:=ry.locE
     rw[g]at f1;cases f1
     have:=vC e2 rz
     subst this
     refine wS.h ak s σ H _ us Q I rv ⟨_,ls,rfl,hS,c,fun zs hp hs l H2 hl eH=>?_⟩
     subst eH
     have ez:zs=jc ls:=u0 (vF hs) (vE ls) (hp.trans (gG ls).symm)
     subst ez
     exact q (μ++[l]) _ _ (be _ _) (gc.same (dg hl _)) (S.newLst hl (AH _)) (oF S)
    ·exact q.elim
 ·exact q.elim,fun ws st=>by
 unfold pU
 split
 ·exact ue fun _=>ue fun _=>by split<;>trivial
 ·trivial⟩
def kX:List W->Option (List Nat)
 |[]=>some []
 |.str [c]::ws=>(kX ws).map (c :: ·)
 |_=>none
theorem rk:∀{ws:List W} {l:List Nat} {vs:List V},kX ws=some l->RelWs K μ H ws vs->vs=jm l
 |[],l,vs,h,r=>by simp only[kX]at h;cases h;exact r.nilE
 |w::ws,l,vs,h,r=>by
  obtain⟨x,xs,rfl,rx,rs⟩:=r.consE
  unfold kX at h
  split at h
  ·rename_i e;cases e
  ·rename_i c SU e
   cases e
   cases e2:kX ws with
   |none=>rw[e2]at h;cases h
   |some l'=>rw[e2]at h;cases h;rw[rx.strE,rk e2 rs];rfl
  ·cases h
def vG:W->Option (List Nat)
 |.str l=>some l
 |.tup ws=>kX ws
 |_=>none
def rq(fe:FE):FE:=fun ρ st=>(fe ρ st).bind fun x st=>sZ (vG x) fun l=>if l.length<4000/\(gn l).length<64 then .ok #[5] (st++[.lst (iG (gn l))])else .bad
theorem mf(hm:m.Nodup)(h:∀c∈m,c∈l):m.length<=l.length:=by
 induction m generalizing l with
 |nil=>exact cx _
 |cons a r ih=>
  obtain⟨h1,h2⟩:=iV.mp hm
  have ha:a∈l:=h a #[15]
  have:=ih h2 (l:=l.erase a) fun c hc=>by
   have:c≠a:=fun z=>h1 (z▸hc)
   exact(List.mem_erase_of_ne this).mpr (h c (aS _ hc))
  rw[List.length_erase_of_mem ha]at this
  have:0<l.length:=List.length_pos_of_mem ha
  simp;omega
theorem EY{p1 p2 PZ Le:Pos}(h1:X.mg "sorted"=none)(h3:X.mg "set"=none)(he:SE X e fe)(hc:X.calm=true:=by rfl)
  (UK:Gl X "sorted":=by rfl) (UT:Gl X "set":=by rfl) (Tv:starEach [e] X.env=(false,eval e X.env)::starEach [] X.env:=by rfl):SE X (.Call (.Name "sorted" p1) [.Call (.Name "set" p2) [e] [] Le] [] PZ) (rq fe):=⟨(EQ h1 h3 ⟨he.h⟩ hc UK UT Tv).h.imp fun σ H Q h=>by
 walk_at "2"
 walk_at "1"
 cases e1:vG x with
 |none=>rw[e1]at h1;exact h1.elim
 |some ll=>
  rw[e1,eV]at h1
  split at h1
  ·rename_i c
   refine⟨ll,?_,c.1,fun m hm hsub=>?_,fun m UQ hup hmem a H2 ha eH=>?_⟩
   ·cases x with
    |str z=>cases e1;exact .inl q1.strE
    |tup ws=>obtain⟨p,vs,rfl,hS,r⟩:=q1.tupE;have:=rk e1 r;subst this;exact .inr ⟨p,rfl,hS⟩
    |_=>cases e1
   ·exact gJ (mf hm fun c hc=>jb.mpr (hsub c hc)) c.2
   ·subst eH
    have em:m=gn ll:=by
     refine yW ((List.Pairwise.and hup UQ).imp fun z=>Nat.lt_of_le_of_ne z.1 z.2) (jr ll) fun x=>?_
     rw[hmem,jb]
    subst em
    exact h1 (μ1++[a]) _ _ (be _ _) (gc.same (dg ha _)) (l1.sto.newLst ha (xQ (X:=X) _ _ _)) (oF l1.sto)
  ·exact h1.elim⟩
end
def W.ty:W->Option String
 |.non=>some "NoneType" | .bl _=>some "bool" | .int _=>some "int" | .str _=>some "str" | .tup _=>some "tuple" | .loc _=>none
def Ks(t T:String):Bool:=(t==T)||(t == "bool" && T == "int")
theorem Rq{K:Frag}(h:Gh T){w:W}{t:String}(hw:w.ty=some t):PySem.W.kitOne K (.type t) (.type T)=some (Ks t T):=by
 cases w<;>simp only[W.ty]at hw<;>cases hw<;>(rcases h with rfl|rfl|rfl|rfl<;>rfl)
def vH(T:String)(fa:FE):FE:=fun ρ st=>(fa ρ st).bind fun x st=>match x.ty with
 |some t=>.ok (.bl (Ks t T)) st
 |none=>.bad
section
variable{a b:Expr}{x:Str}{fb fc:FE}{fs:FA}
theorem ug{xT:Str}(hm:X.mg "isinstance"=none)(hT:X.mg xT=none)(hv:bootBuiltins xT=some (.type T))(ha:SE X a fa)(hk:Gh T:=by first|exact .inl rfl|exact .inr (.inl rfl)|exact .inr (.inr (.inl rfl))|exact .inr (.inr (.inr rfl)))
  (hg:Gl X "isinstance":=by rfl) (Vy:Gl X xT:=by rfl) (hn:xT ≠ "__name__":=by decide) (hd:(xT==("__debug__":Str))=false:=by decide)
  (he:starEach [a,.Name xT p2] X.env=(false,eval a X.env)::starEach [.Name xT p2] X.env:=by rfl) (UL:starEach [.Name xT p2] X.env=(false,eval (.Name xT p2) X.env)::starEach [] X.env:=by rfl) (qe:(backTo pos (starEach [.Name xT p2] X.env)).any (·.1)=false:=by rfl) :
  SE X (.Call (.Name "isinstance" p) [a,.Name xT p2] [] pos) (vH T fa):=by
 have C:i' X (.builtin "isinstance") (fun xs H Q=>∃x μ st w t,xs=[x,.ty T]/\jk X.K X.mg μ st H/\bH X.K μ H w x/\w.ty=some t/\Q (.bl (Ks t T)) H):=by
  intro ak s σ H xs us Q I r h
  obtain⟨x,μ,st,w,t,rfl,S,rx,ht,q⟩:=h
  obtain⟨u,u2,rfl,r1,r2⟩:=cL.two r
  obtain rfl:u2=.type T:=r2
  have e:=Rq (K:=X.K) hk ht
  cases w with
  |tup ws=>
   cases ht
   obtain⟨p,vs,rfl,hS,_⟩:=rx.tupE
   cases(show u=Value.ref p from r1)
   obtain⟨bJ,_,hp,_⟩:=I.tuple hS
   obtain⟨o,h1,h2,_⟩:=hp
   exact up (kia_one PySem.W.kitx_tuple I.kIn ⟨o,h1,h2⟩ e (fun z=>nomatch z) fun tk hk=>⟨.bl _,H,I.tok tk,rfl,q⟩)
  |non=>cases ht;cases rx.nonE;exact up (pR I r1 .non e fun tk hk=>⟨.bl _,H,I.tok tk,rfl,q⟩)
  |bl b=>cases ht;cases rx.blE;exact up (pR I r1 (.bl _) e fun tk hk=>⟨.bl _,H,I.tok tk,rfl,q⟩)
  |int b=>cases ht;cases rx.intE;exact up (pR I r1 (.int _) e fun tk hk=>⟨.bl _,H,I.tok tk,rfl,q⟩)
  |str b=>cases ht;cases rx.strE;exact up (pR I r1 (.str _) e fun tk hk=>⟨.bl _,H,I.tok tk,rfl,q⟩)
  |loc b=>cases ht
 refine⟨(Ah C hg hm boot_isinstance (yC ha.h (yC (JH Vy hT hv (v:=.ty T) rfl hn hd) FZ UL) he) #[13] #[13] he qe).imp fun σ H Q h=>?_⟩
 walk_at "2"
 walk_at "1"
 cases ht:x.ty with
 |none=>rw[ht]at h1;exact h1.elim
 |some t=>
  rw[ht]at h1
  exact⟨v,μ1,st1,x,t,rfl,l1.sto,q1,ht,h1 μ1 _ H1 (ao _) fw.refl l1.sto .bl⟩
theorem GO{w:World}{k:Nat}{st:Stmt}{f:Addr}{ps:List Str}
  (F:iA K x x st f fd) (hm:mg x=some (.ref f)) (hn:ps.length=n)
  (hb:∀(kV sI pm:Value) (an:Option Addr) (fq ct:Value) (us:List Value),us.length=ps.length->bindArgs (fnOf x x (ii st) (gE st) (aQ st) .none kV sI pm an fq ct) ⟨us,[]⟩=pure (ps.zip us)) :
  bY P w K mg base k x n (fun _ _=>.bad):=yU F hm hn hb ⟨fun vs H Q E h=>by rw[hn];exact h.1,fun _ _ _ _ _ _ _ _ _ _ _ _ _ _ h=>by obtain⟨_,_,_,_,_,_,z⟩:=h;exact z.elim⟩
end
def Ly(F:List W->List am->R W):Prop:=∀ns:List Int,ns.length<=63->∃bp,F [.loc 0] [.ro (ns.map W.int)]=.ok (.bl true) bp
theorem walkW{l:PySem.W.OpenLaw}{k:Nat}{q:Program}{yr:List Str}{d:DefRec}{K:Params->Frag}{x:Str}(hn:l.most=some 63)(SN:d.params.defaults=[])(hr:iL k callerA)
  (hY:∀(w:World) (h:Heap),YP w h->(K w.params).In h)
  (F:∀(w:World) (mg:Str->Option Value) (fa:Addr) (h:Heap),(K w.params).In h->h.Ns mainGlobals mg->mg d.name=some (.ref fa) ->
   ∃fd:FuncData,fd.scope.names.lookup x=some .local/\(∀(s:Shared) (u:Value),BindsTo s fd ⟨[u],[]⟩ [(x,u)])/\∀base:Heap,(K w.params).In base->base.Ns mainGlobals mg->c7 l.prog w (K w.params) mg base (hZ l.prog w) k fa fd [x] (iD (K w.params) mg 1 G))
  (ok:Ly G):PySem.W.WalkO q yr XP YP l.row.toRowW d [] (fun f vs=>PySem.call f vs):=by
 refine L2.walk_of (n:=63) (k:=k) (x:=x) (CX:=fun w=>hZ l.prog w)
  (sp:=fun w=>fun vs H Q E=>∃(a:Addr) (ns:List Int),vs=[.ref a]/\sK (K w.params) H a (ns.map V.int)/\J3 H/\ns.length<=63/\∀H',Q (.bl true) H') hn #[13] SN hr hY (fun w mg fa h h1 h2 h3=>?_)
  (fun w H a ns hl hO hS=>⟨a,ns,rfl,hS,hO,hl,fun _=>rfl⟩) fun w H s e s' z=>?_
 ·obtain⟨fd,hlo,hb,ho⟩:=F w mg fa h h1 h2 h3
  refine⟨fd,hlo,hb,fun base kb nb=>(ho base kb nb).imp fun vs H Q E hh=>?_⟩
  obtain⟨a,ns,rfl,hS,hO,hl,q⟩:=hh
  obtain⟨bp,e⟩:=ok ns hl
  have BI:Ta (K w.params) H a (ns.map V.int):=by
   rcases hS with(z|⟨o,z⟩)|z
   ·rcases hO a with y|⟨o,xs,y⟩
    ·rw[z]at y;cases y
    ·rw[z]at y;cases y
   ·exact .inl ⟨o,z⟩
   ·exact .inr z
  have hr:RelWs (K w.params) [a] H (ns.map W.int) (ns.map V.int):=by
   clear hS BI e hl
   induction ns with
   |nil=>exact .nilI
   |cons n r ih=>exact .consI .int ih
  refine⟨rfl,[a],[.loc 0],[.ro (ns.map W.int)],⟨fun i j b ci cj c1 c2 r1 r2 m1 m2=>?_,rfl,fun i c b c1 c2=>?_⟩,.consI (.locI rfl) .nilI,?_⟩
  ·cases i with
   |zero=>cases c1;cases r1
   |succ i=>simp at c1
  ·cases i with
   |zero=>cases c1;cases c2;exact⟨_,BI,hr⟩
   |succ i=>simp at c1
  ·rw[e]
   intro μ' v H' _ _ _ rv
   rw[rv.blE];exact q H'
 ·obtain⟨_,_,_,_,_,_,z,_⟩:=z
  exact z
abbrev Kt:List Value:=[.type "ValueError",.type "Exception",.type "BaseException",.type "object"]
abbrev DS:String:="ValueError.__new__"
def NU(K:Frag)(C:Addr):List Value:=match K.lookup C with
 |some ⟨_,_,.cls cd,_⟩=>cd.mro
 |_=>[]
theorem Ku{Vg:List Value}{Jp:String}(X:K.In h)(q:excIn K C Vg Jp=true) :
  ∃bm N nm qn bs hdct sn sub ab col dd k0 k1 k2 k3 k5 mN,h.get? C=some (excClassObj nm qn C N bs bm hdct sn sub ab col dd k0 k1 k2 k3 k5 Jp)/\h.Ns N mN/\mN "__init__"=none/\OwnTail h Vg bm/\NU K C=.ref C::bm:=by
 have q0:=q
 unfold excIn at q
 split at q
 ·rename_i dd cd sl ho
  split at q
  ·rename_i C' bm k0 k1 k2 k3 n k5 hm hs
   simp only[dA,c_,hX]at q
   obtain⟨⟨⟨⟨⟨rfl,rfl⟩,hdel⟩,ht⟩,hok⟩,hni⟩:=q
   have hmro:NU K C'=cd.mro:=by unfold NU;rw[ho]
   obtain⟨nm,bs,mro,ns,qn,hd,sn,sub,ab,col,del⟩:=cd
   dsimp only at hm hdel hok hni hmro
   subst hm hdel
   have hsl:sl=#[k0,k1,k2,k3,some (.builtin n),k5]:=by
    obtain⟨l⟩:=sl
    simp only at hs
    rw[hs]
   subst hsl
   exact⟨bm,ns,nm,qn,bs,hd,sn,sub,ab,col,dd,k0,k1,k2,k3,k5,_,X _ _ ho,.of_isNs (PySem.W.isNs_of_in X hok),PySem.W.nsMap_none_of_in X hok hni,PySem.W.tail_of_in X ht,hmro⟩
  ·cases q
 ·cases q
structure Kv(K:Frag)(mg:Str->Option Value)(x:Str):Prop where
 ex:∃C,mg x=some (.ref C)/\excIn K C Kt DS=true
def tm(c:Str):FS:=fun ρ st=>.ex c ρ st
theorem rC{x:Str}{np dH pos p':Pos}{z:Str}{j:Nat}(hC:Kv X.K X.mg x)(jI:X.calm=true:=by rfl)(hg:Gl X x:=by rfl)(hd:(x==("__debug__":Str))=false:=by decide)
  (he:starEach [.Constant (.str z) j p'] X.env=(false,eval (.Constant (.str z) j p') X.env)::starEach [] X.env:=by rfl):SS X (.Raise (some (.Call (.Name x np) [.Constant (.str z) j p'] [] dH)) none pos) (tm x):=⟨by
 intro ak s σ H D I h
 walk_at "2"
 obtain⟨C,hm,q⟩:=hC.ex
 have hh:X.A.handled=none:=I.ok.hd jI
 obtain⟨bm,N,nm,qn,bs,hdct,sn,sub,ab,col,dd,k0,k1,k2,k3,k5,mN,g1,g2,g3,g4,g5⟩:=Ku I.kIn q
 refine wpAny_Raise_call_subT (C:=C) (nm:=nm) (q:=qn) (N:=N) (bs:=bs) (bm:=bm) (hdct:=hdct) (sn:=sn) (sub:=sub) (ab:=ab) (col:=col) (dd:=dd) (k0:=k0) (k1:=k1) (k2:=k2) (k3:=k3) (k5:=k5)
  F.excBase_ValueError (mN:=mN) (g4.hasType F.excBase_ValueError.hasBase) hh (by rw[he];rfl) g3 (uW I hg hm ⟨rfl,?_⟩ hd)
 rw[he]
 refine ie ?_
 show wpAny _ _ (spliced ((false,eval (.Constant (.str z) j p') X.env)::[])) _ _ s
 refine eR (wpAny_Constant_str (f6 ?_))
 refine⟨rfl,(by show 1<=sizeLine;decide),g1,g2,g4,fun h' e hx=>?_⟩
 have I2:bQ X ak σ H { s with heap:=h',toks:=s.toks+1 }:=I.kept hx.keeps
 have en:H e=none:=by
  cases hu:H e with
  |none=>rfl
  |some u=>
   obtain⟨ob,hob⟩:=(I.hok e u hu).ex
   have:=hx.new
   rw[show({ s with toks:=s.toks+1 }:Shared).heap=s.heap from rfl]at this
   rw[hob]at this;cases this
 obtain⟨t,P4,ht2,ht3⟩:=hx.there
 have hin:∀env∈X.stack,∀b,env.frame=some b->b∈uV X.stack:=fun env he b hb=>lD.mpr ⟨env,he,hb⟩
 refine h ak μ σ H (.ref e) _ (ao _) fw.refl l ⟨I2,e,.ref C,t,hideAll s.heap (uV X.stack),rfl,hm,en,fun b o hb=>hx.keeps b o (PySem.W.of_hideAll _ hb),?_,?_,.inr (.inl ⟨_,_,P4,rfl,rfl,rfl,rfl,rfl⟩),fun b o hb hr=>?_⟩
 ·cases hq:(hideAll s.heap (uV X.stack)).get? e with
  |none=>rfl
  |some o=>have z:=PySem.W.of_hideAll _ hq;have y:=hx.new;rw[show({ s with toks:=s.toks+1 }:Shared).heap=s.heap from rfl,z]at y;cases y
 ·exact(PySem.W.funFrames_hide I.stack hin).of_keeps fun b o hb _=>⟨o,hx.keeps b o hb,rfl⟩
 ·have old:∀o0,s.heap.get? b=some o0->s.heap.get? b=some o:=fun o0 h0=>by
   have h1:h'.get? b=some o0:=hx.keeps b o0 h0
   have h2:h'.get? b=some o:=hb
   rw[h1]at h2;rw[<- h2];exact h0
  have kL:∀o0,s.heap.get? b=some o0->b∉uV X.stack->(hideAll s.heap (uV X.stack)).get? b=some o:=fun o0 h0 hn=>PySem.W.hideAll_get _ (old o0 h0) hn
  rcases hr with hr|⟨⟨o0,h0⟩,hf,hbx⟩|⟨⟨y,hy⟩,hf⟩|⟨pp,hp,rfl⟩
  ·cases hu:H b with
   |none=>exact absurd hu hr
   |some u=>
    obtain⟨ob,hob⟩:=(I.hok b u hu).ex
    exact kL ob hob fun z=>by have:=I.stkFree b z;rw[hu]at this;cases this
  ·obtain⟨o1,h1⟩:=I.base.there b o0 h0 hbx
   refine kL o1 h1 fun z=>?_
   rcases aT.mp (I.stkSub b z)with z|z
   ·rw[z]at h0;exact absurd (aP (aJ h0) I.ok.above) (dL _)
   ·exact hf z
  ·obtain⟨v,ov,hov,_⟩:=I.cell y b hy
   exact kL ov hov hf
  ·obtain⟨p1,p2,p3,p4,_⟩:=I.pin pp hp
   refine kL _ p1 fun z=>?_
   rcases aT.mp (I.stkSub _ z)with z|z
   ·exact p3 z
   ·exact p4 z⟩
abbrev Cx.within(X:Cx)(v:Value):Cx:={ X with A:=X.A.mark (some v),calm:=false,xe:=fun _ _=>False }
theorem Cx.Ok.within(k:X.Ok)(v:Value):(X.within v).Ok:=⟨k.mod,k.kind,k.glob,k.blt,k.above,k.inj,k.has,k.cab,(fun z=>by cases z),k.frames,k.stk,k.exf,k.bs,k.bsz,k.noex,k.exfs,k.funs,k.frf⟩
section
theorem bQ.within(I:bQ X ak σ H s)(v:Value):bQ (X.within v) ak σ H s:=⟨I.ok.within v,I.os,I.bare,I.base,I.loc,I.cell,I.free,I.freeC,I.pin,I.hok,I.len,I.pos,I.tk⟩
theorem bQ.out(ok:X.Ok)(I:bQ (X.within v) ak σ H s):bQ X ak σ H s:=⟨ok,I.os,I.bare,I.base,I.loc,I.cell,I.free,I.freeC,I.pin,I.hok,I.len,I.pos,I.tk⟩
end
open AutoSeq1 (wpAny_loadPart')
section
end
section
variable{a b:Expr}{fb:FE}{fs:FA}
end
def Us(i:Nat):RS->RS
 |.nx ρ st=>.nx (ρ.set i none) st
 |.bk ρ st=>.bk (ρ.set i none) st
 |.ct ρ st=>.ct (ρ.set i none) st
 |.rt w st=>.rt w st
 |_=>.bad
section
variable{w:World}{g:Array GenState}{d:Drawn}{t:Nat}{os:OsState}{a:Addr}{o:Obj}
 {nm q:Str} {C N:Addr} {bs bm:List Value} {hdct:Bool} {sn:List Str} {sub:List Value} {ab:Bool} {col:Option Bool} {dd:Option Addr} {k0 k1 k2 k3 k5:Option Value} {Jp:String} {K:Frag}
end
end L2
namespace L2
open PySem PySem.Spec PyProof.Rows
section
variable{a:Expr}
end
end L2
namespace L2
open PySem PySem.Spec PyProof.Rows
section
variable{a:Expr}{k:Nat}
end
end L2
namespace L2
open PySem PySem.Spec PyProof.Rows
section
end
section
theorem vI(l:List α):∀(k:Nat) (iT:List α),List.foldl (fun x1 x2=>x1++x2) iT.toArray (List.replicate k l.toArray)=(iT++(List.replicate k l).flatten).toArray
 |0,iT=>by simp
 |k+1,iT=>by
  have e:iT.toArray++l.toArray=(iT++l).toArray:=by simp
  rw[List.replicate_succ,List.foldl_cons,e,vI l k (iT++l),List.replicate_succ,l9,al]
theorem NV(l:List Nat)(n:Int):Txt.mul (tx l) n=tx (List.replicate n.toNat l).flatten:=by
 unfold Txt.mul
 by_cases h:n<1
 ·rw[aF h,show n.toNat=0 by omega];rfl
 ·rw[aO h]
  split
  ·rename_i hc
   rw[Bool.or_eq_true,c_,c_,i6]at hc
   rcases hc with rfl|hc
   ·simp
   ·have:l=[]:=List.length_eq_zero_iff.mp hc
    subst this
    simp
  ·have:=vI l n.toNat []
   rw[eJ]at this
   show Str.mk _=Str.mk _
   congr 1
theorem Kw:oy X (binaryOp .Mult) (fun x y H Q=>∃(l:List Nat) (k:Int),x=.str (tx l)/\y=.int k/\-(2^62)<=k/\k<2^62/\l.length*k.toNat<=1000000/\l.length*k.toNat≠1/\Q (.str (tx (List.replicate k.toNat l).flatten)) H):=by
 intro ak s σ H x y v u Q I rx ry h
 obtain⟨l,k,rfl,rfl,h1,h2,h3,h31,q⟩:=h
 obtain⟨t,rfl⟩:=rx
 obtain⟨t',rfl⟩:=ry
 refine up (SB.mul ⟨?_,?_,?_⟩ fun t2 tk hk=>⟨.str _,H,I.tok _,⟨⟨t2,fun e=>absurd e ?_⟩,?_⟩,q⟩)
 ·simp;omega
 ·intro hk hx
  rw[i6]
  intro hg
  have hk1:1<=k:=by omega
  have:k*((2^63-1)/k)<=2^63-1:=Int.mul_ediv_self_le #[0]
  have h4:(2^63-1)<k*(l.length:Int):=by
   have:=Int.lt_mul_of_ediv_lt (a:=2^63-1) (b:=(l.length:Int)) (c:=k) #[0] hg
   rw[nF];exact this
  have h5:k*(l.length:Int)=((l.length*k.toNat:Nat):Int):=by
   rw[iX,Int.toNat_of_nonneg #[0],nF]
  rw[h5]at h4
  omega
 ·intro hk hx
  rw[i6]
  unfold Builtin.Str.tooLong
  rw[aV]
  have:(1000000:Nat)<=sizeLine:=by decide
  omega
 ·rw[i6];simpa[Nat.mul_comm]using h31
 ·rw[NV]
def iE:W->W->List am->R W
 |.int i,.int j,st=>if NK i j then .ok (.int (i*j)) st else .bad
 |.str l,.int k,st=>if -(2^62)<=k/\k<2^62/\l.length*k.toNat<=mB/\l.length*k.toNat≠1 then .ok (.str (List.replicate k.toNat l).flatten) st else .bad
 |_,_,_=>.bad
theorem js:wW X (binaryOp .Mult) iE:=⟨fun ak s σ H x y v u Q I rv ru zq=>by
 obtain⟨μ,st,wx,wy,S,rx,ry,q⟩:=zq
 cases wx with
 |int i=>
  cases wy with
  |int j=>
   have q':Fv X μ H Q (Ra (.int i) (.int j) st):=q
   exact Rc.h ak s σ H x y v u Q I rv ru ⟨μ,st,.int i,.int j,S,rx,ry,q'⟩
  |_=>exact q.elim
 |str l=>
  cases wy with
  |int k=>
   simp only[iE]at q
   split at q
   ·rename_i cc
    exact Kw ak s σ H x y v u Q I rv ru ⟨l,k,rx.strE,ry.intE,cc.1,cc.2.1,cc.2.2.1,cc.2.2.2,rh S q⟩
   ·exact q.elim
  |_=>exact q.elim
 |_=>cases wy<;>exact q.elim,fun x y st=>by
 unfold iE
 repeat' split
 all_goals trivial⟩
end
section
variable{x:Str}{fs:FA}
end
section
variable{w:World}
theorem vJ:∀(l:List Nat) (vs:List Value),vs.length=l.length->(∀(j:Nat) (v:Value),vs[j]?=some v->∃c u,l[j]?=some c/\v=.str (tx [c]) u)->StrsAre vs (l.map fun c=>tx [c])
 |[],[],_,_=>.nil
 |c::l,v::vs,hl,h=>by
  obtain⟨d,u,e,rfl⟩:=h 0 v rfl
  cases e
  exact .cons _ _ (vJ l vs (Nat.succ.inj hl) fun j v hj=>h (j+1) v hj)
 |[],_::_,hl,_=>nomatch hl
 |_::_,[],hl,_=>nomatch hl
abbrev NW(iT:Array Value)(c:Nat):Obj:={ cls:=.type "list",data:=.seq iT c }
theorem GP{R:Result->Shared->Prop}{I:Addr}{wr:List Addr}{n0:Nat}{P:Nat->Value->Prop}{St:Nat->Heap->Prop}(W:Walks prog w A.in1 I fp wr n P St)(few:n<=sizeLine)(D:Addr)(hD:D∉fp)(res:Value)
  (BN:∀i (s:Shared) (Q:Option Value->Shared->Prop) (E:Value->Shared->Prop),n0<=s.toks->i<n->St i s.heap ->
   (∀v h' tk,s.toks<=tk->iM tk [v]->P i v->St (i+1) h'->(∀b o,b∉wr->s.heap.get? b=some o->h'.get? b=some o)->Q (some v) { s with heap:=h',toks:=tk })->wpAny #[8] A.in1 (pyNext (.ref I)) Q E s) :
  ∀(m i:Nat) (z:Shared) (Ee:Array Value) (c:Nat),i+m=n->n0<=z.toks->St i z.heap->z.heap.get? D=some (NW Ee c)->ItemsOf P Ee i->iM z.toks Ee.toList ->
   (∀g tk got' c',z.toks<=tk->(∀b o,b≠D->b∉wr->z.heap.get? b=some o->g.get? b=some o)->g.get? D=some (NW got' c')->ItemsOf P got' n->iM tk got'.toList->R (.ok (.ret res)) { z with heap:=g,toks:=tk }) ->
   codeAny #[8] A (.builtin "list.extend.loop" ⟨[.ref D,.ref I,res],[]⟩) R z:=by
 have nw:D∉wr:=fun h=>hD (W.sub _ h)
 intro m
 induction m with
 |zero=>
  intro i z Ee c e hn0 st hd ac ta q
  obtain rfl:i=n:=e
  refine dN PySem.F.entry_extend_loop ?_
  rw[cX PySem.F.plain_extend_loop _]
  show wpAny _ A.in1 (pyNext (.ref I) >>= _) _ _ z
  exact af (up (W.done z _ _ st fun g tk kp kY=>ay (q g tk Ee c kY (fun b o _ hb h=>kp b o hb h) (kp D _ nw hd) ac (ta.up kY))))
 |succ m ih=>
  intro i z Ee c e hn0 st hd ac ta q
  refine dN PySem.F.entry_extend_loop ?_
  rw[cX PySem.F.plain_extend_loop _]
  show wpAny _ A.in1 (pyNext (.ref I) >>= _) _ _ z
  refine af (BN i z _ _ hn0 #[0] st fun v g tk kY tv hP bp kp=>?_)
  have hd':=kp D _ nw hd
  show wpAny _ A.in1 (updateSeq D (·.push v) >>= _) _ _ _
  refine af (nZ hd' rfl (ay ⟨fv PySem.F.plain_extend_loop _,ih (i+1) _ (Ee.push v) _ #[0] (aN hn0 kY) (W.frame _ _ _ bp fun b hb o h=>?_) (dI _ hd' rfl) (ac.push hP) (fun x t hx=>?_) fun g2 tk2 got2 c2 hle2 kp2 hd2 ac2 ta2=>?_⟩)
   (by rw[ac.1];omega) (by show(Ee.push v).size<=sizeLine+1;rw[Array.size_push,ac.1];omega))
  ·exact(cK _ _ (fun h:D=b=>hD (by rw[h];exact hb))).trans h
  ·rw[l7,aW]at hx
   rcases hx with hx|hx
   ·exact ta.up kY x t hx
   ·exact tv x t hx
  ·exact q g2 tk2 got2 c2 (aN kY hle2) (fun b o hb hw h=>kp2 b o hb hw ((cK _ _ (Ne.symm hb)).trans (kp b o hw h))) hd2 ac2 ta2
theorem yX{t:Tok}{Q:List Value->Shared->Prop}(Fu:0<s.toks)(hh:A.handled=none)(few:l.length<=sizeLine)
  (q:∀g tk (Ee:Array Value),s.toks<=tk->(∀b o,s.heap.get? b=some o->g.get? b=some o)->ItemsOf (SignAt (tx l)) Ee (tx l).cps.size->iM tk Ee.toList->Q Ee.toList { s with heap:=g,toks:=tk }):wpAny #[8] A (collect (.str (tx l) t)) Q E s:=by
 have hn:(tx l).cps.size=l.length:=by simp[tx]
 unfold collect
 refine af (pI (dN entry_proto_collect' ?_))
 rw[cX PySem.F.plain_proto_collect _]
 show wpAny _ A.in1 (newList [] >>= fun d=>again (.builtin "list.__iadd__" ⟨[d,.str (tx l) t],[]⟩)) _ _ s
 refine af (cC (ay ⟨fv PySem.F.plain_list_iadd _,dN entry_list_iadd' ?_⟩))
 rw[cX PySem.F.plain_list_iadd _]
 show wpAny _ A.in1 (Builtin.List.listExtendWith (.ref s.heap.objs.size) (.str (tx l) t) (.ref s.heap.objs.size)) _ _ _
 unfold Builtin.List.listExtendWith
 refine af (iy (T:="str") (v:=.str (tx l) t) rfl ?_)
 have e1:Builtin.List.listSameRef (.ref s.heap.objs.size) (.str (tx l) t)=false:=rfl
 have e2:(Value.type "str" == Value.type "list")=false:=by decide
 have e3:(Value.type "str" == Value.type "tuple")=false:=by decide
 simp only[e1,e2,e3,mv,fJ,ke]
 generalize hL:s.heap.objs.size=L
 have gL:(s.heap.push { cls:=.type "list",data:=.seq ([]:List Value).toArray }).get? L=some (NW #[] 0):=by rw[<- hL];exact aC _ rfl
 have z1:(s.heap.push { cls:=.type "list",data:=.seq ([]:List Value).toArray }).objs.size=L+1:=by rw[bx,hL]
 have kp1:∀b o,s.heap.get? b=some o->(s.heap.push { cls:=.type "list",data:=.seq ([]:List Value).toArray }).get? b=some o:=fun b o e=>aw _ e
 generalize s.heap.push { cls:=.type "list",data:=.seq ([]:List Value).toArray }=g1 at gL z1 kp1 ⊢
 have kL:∀(ob:Obj) (ty:String),(∀A:Around,A.handled=none->Walks prog w A (L+1) [L+1] [L+1] (tx l).cps.size (SignAt (tx l)) (fun i h=>h.IsStrIter (L+1) ty (tx l) t i))->(g1.push ob).IsStrIter (L+1) ty (tx l) t 0 ->
   (∀{A:Around} {s:Shared} {i c:Nat} {Q:Option Value->Shared->Prop} {E:Value->Shared->Prop},s.heap.IsStrIter (L+1) ty (tx l) t i->(tx l).cps[i]?=some c ->
    (∀h',h'.IsStrIter (L+1) ty (tx l) t (i+1)->Heap.SameBut (L+1) s.heap h'->Q (some (.str ⟨#[c]⟩ s.toks)) { s with heap:=h',toks:=s.toks+1 })->wpAny #[8] A (pyNext (.ref (L+1))) Q E s) ->
   codeAny #[8] A (.builtin "list.extend.loop" ⟨[.ref L,.ref (L+1),.ref L],[]⟩) (wants (fun r s'=>wpAny #[8] A (match r with|.ref a=>(do match (<- load a).data with|.seq xs _=>pure xs.toList|_=>unsupported "internal:collect")|_=>unsupported "internal:collect") Q E s') E) { s with heap:=g1.push ob }:=fun ob ty W h0 next=>by
  refine GP (n0:=s.toks) (W A.in1 (by simpa using hh)) (by rw[hn];exact few) L #[15] (.ref L) (fun i s' Q E hn0 hi st q=>?_) (tx l).cps.size 0 _ #[] 0 #[0] (az _) h0 (aw _ gL) (ItemsOf.nil _) (fun x u hx=>by simp at hx) fun g tk Ee c kY kp hd ac ta=>?_
  ·obtain⟨c,hx⟩:∃c,(tx l).cps[i]?=some c:=⟨_,eN hi⟩
   refine next st hx fun h' bp hs=>q _ h' (s'.toks+1) (bt _) (fun x u hx' _=>?_) ⟨c,_,hx,rfl⟩ bp fun b o hb e=>hs.extBut b o (fun z=>hb (by simp[z])) e
   rw[a8]at hx'
   cases hx'
   exact⟨aP Fu hn0,b9 _⟩
  ·refine af (wpAny_load hd (ay (q g tk Ee kY (fun b o e=>kp b o ?_ ?_ (aw _ (kp1 b o e))) ac ta)))
   ·rw[<- hL];exact bf (aJ e)
   ·intro hm
    rw[a8]at hm
    have:=aJ e
    rw[hL,hm]at this
    have this:L+1<L:=this
    omega
 have hint:∀(s':Shared) (Q':Bool->Shared->Prop) (E':Value->Shared->Prop),Q' false s'->wpAny #[8] A.in1 (Builtin.List.listLengthHint (.str (tx l) t)) Q' E' s':=fun s' Q' E' y=>by
  unfold Builtin.List.listLengthHint
  refine af (wpAny_specialOf (T:="str") (v:=.str (tx l) t) rfl PySem.F.str_len ?_)
  wp_delta
  refine af (gs (T:="str") (v:=.str (tx l) t) (b:=true) rfl (by rw[eD];kernel_rfl) ?_)
  show wpAny _ A.in1 (typeOf (Value.str (tx l) t) >>= _) _ _ _
  exact af (iy (T:="str") (v:=.str (tx l) t) rfl (ay y))
 have key:∀(ob:Obj),codeAny #[8] A (.builtin "list.extend.loop" ⟨[.ref L,.ref (L+1),.ref L],[]⟩) (wants (fun r s'=>wpAny #[8] A (match r with|.ref a=>(do match (<- load a).data with|.seq xs _=>pure xs.toList|_=>unsupported "internal:collect")|_=>unsupported "internal:collect") Q E s') E) { s with heap:=g1.push ob }->_:=fun ob h=>h
 cases ha:(tx l).cps.all (· < 128)
 ·refine af (l6 ha (af (dm (hint _ _ _ ?_))))
  show wpAny _ _ _ _ _ _
  rw[show Shared.heap { s with heap:=g1 }=g1 from rfl,z1]
  rw[aO #[13]]
  exact ay ⟨fv PySem.F.plain_extend_loop _,kL _ "str_iterator" (fun A hA=>Walks.strWide hA _ (tx l) t) ⟨_,by rw[<- z1];exact aC _ rfl,rfl,rfl⟩ fun a b c=>jy a b c⟩
 ·refine af (lG ha (af (dm (hint _ _ _ ?_))))
  rw[show Shared.heap { s with heap:=g1 }=g1 from rfl,z1]
  rw[aO #[13]]
  exact ay ⟨fv PySem.F.plain_extend_loop _,kL _ "str_ascii_iterator" (fun A hA=>Walks.strAscii hA _ (tx l) t) ⟨_,by rw[<- z1];exact aC _ rfl,rfl,rfl⟩ fun a b c=>jg a b c⟩
theorem AJ{t:Tok}(Fu:0<s.toks)(few:l.length<64)(hh:A.handled=none)
  (q:∀(s1:Shared) (g1:Heap) (out:Array Value) (ss:List Str) (e:Nat),(∀b o,s.heap.get? b=some o->s1.heap.get? b=some o)->s1.gens=s.gens->s1.drawn=s.drawn->s1.os=s.os->(∀b o,s1.heap.get? b=some o->g1.get? b=some o)->g1.get? s1.heap.objs.size=some (seqObj "list" out e) ->
   s.toks<=s1.toks->iM s1.toks out.toList->StrsAre out.toList ss->ss.Perm (l.map fun c=>tx [c])->sortedS ss=true->Q (.ref s1.heap.objs.size) { s1 with heap:=g1 }):wpAny #[8] A (call (.builtin "sorted") [.str (tx l) t]) Q E s:=by
 have hn:(tx l).cps.size=l.length:=by simp[tx]
 apply lS kind_sorted plain_sorted entry_sorted (args_sorted1 _)
 show wpAny _ _ (checkCount "sorted" 1 1 _ >>= _) _ _ _
 refine af (ay (af (yX Fu (by simpa using hh) (by rw[j'];omega) (fun g tk iT kY kp ha ta=>?_))))
 generalize hs1:({ s with heap:=g,toks:=tk }:Shared)=s1
 have eg:s1.gens=s.gens:=by rw[<- hs1]
 have ed:s1.drawn=s.drawn:=by rw[<- hs1]
 have eo:s1.os=s.os:=by rw[<- hs1]
 have kp:∀b o,s.heap.get? b=some o->s1.heap.get? b=some o:=by rw[<- hs1];exact kp
 have kY:s.toks<=s1.toks:=by rw[<- hs1];exact kY
 have ta:iM s1.toks iT.toList:=by rw[<- hs1];exact ta
 have su:StrsAre iT.toList (l.map fun c=>tx [c]):=by
  refine vJ l _ (by rw[eF,ha.1,hn]) fun j v hj=>?_
  obtain⟨c,u,hc,e⟩:=ha.2 j v (by simpa using hj)
  exact⟨c,u,by simpa[tx]using hc,e⟩
 have hvl:iT.toList.length<64:=by rw[eF,ha.1,hn];exact few
 refine af (wpAny_newList ?_ (by rw[j'];omega))
 have oL:(s1.heap.push (seqObj "list" iT.toList.toArray 0)).get? s1.heap.objs.size=some (seqObj "list" iT.toList.toArray 0):=aC _ rfl
 refine af (dm (b_ slot_list_sort ⟨_,oL,rfl⟩ entry_list_sort (list_sort_treeK qw oL su.keysOf (fun a b r e=>sD (by rw[<- e];exact su)) hvl fun st a1 a2=>⟨_,rfl,?_⟩) (args_list_sort _)))
 obtain⟨ss,h1,h2,h3⟩:=pH su a1 a2
 obtain⟨e,he⟩:=sortedHeap_at (out:=(arrOf st).map (·.2)) oL
 refine ay ⟨_,rfl,q s1 _ _ ss e kp eg ed eo (fun b o hb=>?_) he kY (ta.sub (vn a1)) h1 h2 h3⟩
 rw[sortedHeap_old (bf (aJ hb)) (by rw[bx];exact cU (aJ hb))]
 exact aw _ hb
end
section
def kj(ws:List W)(st:List am):R W:=match ws with
 |[.str l]=>if l.length<64 then .ok (.loc st.length) (st++[.lst ((jc (l.map fun c=>[c])).map W.str)])else .bad
 |[.loc n]=>pU [.loc n] st
 |_=>.bad
theorem yY(hc:X.calm=true:=by rfl):oG X (.builtin "sorted") kj:=⟨fun ak s σ H vs us Q I rv zq=>by
 obtain⟨μ,st,ws,S,r,q⟩:=zq
 unfold kj at q
 split at q
 ·rename_i l
  split at q
  ·rename_i c
   obtain⟨y,rfl,ry⟩:=r.one
   have:=ry.strE;subst this
   obtain⟨u,rfl,ru⟩:=oz rv
   obtain⟨t,rfl⟩:=ru
   refine AJ I.pos c (I.ok.hd hc) fun s1 g1 out ss e kp eg ed eo k1 gL kY ta su hp hsr=>?_
   have es:s1={ s with heap:=s1.heap,toks:=s1.toks }:=by cases s1;cases s;cases eg;cases ed;cases eo;rfl
   generalize s1.heap=g0,s1.toks=tk at es kp k1 gL kY ta ⊢
   subst es
   have I2:bQ X ak σ H { s with heap:=g0,toks:=tk }:=I.kept2 (d':=s.drawn) fun b o e=>kp b o e
   have Dg:H g0.objs.size=none:=I2.hok.fresh (az _)
   have hmap:(ss.map fun z=>z.cps.toList).map tx=ss:=by
    rw[cf]
    have:(tx∘fun z:Str=>z.cps.toList)=id:=funext fun z=>DC z
    rw[this,jh]
   have hperm:(ss.map fun z=>z.cps.toList).Perm (l.map fun c=>[c]):=by
    have e:=hp.map fun z:Str=>z.cps.toList
    rw[cf]at e
    exact e
   have ez:(ss.map fun z=>z.cps.toList)=jc (l.map fun c=>[c]):=u0 (vF (by rw[hmap];exact hsr)) (vE _) (hperm.trans (gG _).symm)
   have hvals:cL tk ((jc (l.map fun c=>[c])).map fun l=>V.str (tx l)) out.toList:=by
    have e:=mV su ta
    rw[<- hmap,ez,cf]at e
    exact e
   refine⟨.ref g0.objs.size,_,I2.laid (o:=.lst ((jc (l.map fun c=>[c])).map fun l=>V.str (tx l))) (t':=tk) k1 (az _) ⟨?_,out.toList,e,hvals,gL⟩,rfl,?_⟩
   ·rw[aD,(gG _).length_eq,aD]
    exact aN (fZ c) #[13]
   ·exact q (μ++[g0.objs.size]) _ _ (be _ _) (gc.same (dg Dg _)) (S.newLst Dg (AH _)) (oF S)
  ·exact q.elim
 ·exact AI.h ak s σ H _ us Q I rv ⟨μ,st,_,S,r,q⟩
 ·exact q.elim,fun ws st=>by
 unfold kj
 split
 ·split<;>trivial
 ·exact(AI (X:=X)).n _ _
 ·trivial⟩
end
section
variable{a b:Expr}{fs:FA}
end
section
variable{f:FG}
end
theorem bQ.turnedL{s:Shared}{t':Nat}{ch:List Addr}(I:bQ X ak σ H s)(k:∀b o,b∉ch->s.heap.get? b=some o->h'.get? b=some o)
  (f:∀b∈ch,sL X ak H b) (TF:s.toks<=t':=by first|exact az _|exact bt _|assumption|omega):bQ X ak σ H { s with heap:=h',toks:=t' }:=by
 have nit:∀b u,H b=some u->b∉ch:=fun b u q z=>by rw[(f b z).1]at q;cases q
 refine I.step (g':=s.gens) (d':=s.drawn) (ch:=ch) (fun b hb=>?_) (fun b o _ _ hc q _=>k b o hc q) (fun b o _ _ hc q _=>⟨o.slots,k b o hc q⟩) (fun _ _ _ _ n=>n)
  (fun b o hc q=>⟨o,k b o hc q⟩) (fun _ _ q=>q) (fun _ _ _ q=>q) (fun b ps q=>⟨#[],by rw[q];simp⟩) (fun m hm=>?_) (fun b u q=>?_) I.bare TF
 ·exact⟨(f b hb).2.2.2.1,(f b hb).2.1,(f b hb).2.2.2.2.1,(f b hb).2.2.2.2.2⟩
 ·obtain⟨o,es,ep,ho,r⟩:=hm
  exact⟨o,es,ep,k _ o (fun z=>(f _ z).2.1 rfl) ho,r⟩
 ·refine((I.hok b u q).up TF).stay (fun c v hc z=>?_) (fun _ z=>z) fun _ _ z=>z
  rcases hc with y|y
  ·rw[y]at z ⊢;exact k b v (nit b u q) z
  ·exact k c v (nit c _ y) z
section
variable{w:World}
variable{z P O i j a b:Addr}{m:Nat}{xs ys:Array Value}{x y:Value}
theorem Kx(D:ZipApart z P O i j a b)(qz:IsZip s.heap z P O .none)(qP:IsPair s.heap P (.ref i) (.ref j))(qO:IsPair s.heap O u v)
  (q1:s.heap.IsTupleIter i a n) (q2:s.heap.IsTupleIter j b m) (ta:s.heap.IsTuple a xs) (tb:s.heap.IsTuple b ys) (hx:xs[n]?=some x) (hy:ys[m]?=some y)
  (hQ:∀g,IsZip g z P O (rawInt s.heap.objs.size)->IsPair g O x y->g.IsTupleIter i a (n+1)->g.IsTupleIter j b (m+1)->IsPair g s.heap.objs.size x y ->
   (∀c o,c≠z->c≠O->c≠i->c≠j->s.heap.get? c=some o->g.get? c=some o)->Q (.ref s.heap.objs.size) { s with heap:=g }) :
  wpAny #[8] A (Builtin.«zip.__next__» ⟨[.ref z],[]⟩) (fun kL s'=>∃v,kL=.done (.ret v)/\Q v s') E s:=by
 show wpAny _ _ (field (.ref z) 2 >>= _) _ _ _
 refine af (dh qz rfl (x:=.bool false) rfl ?_)
 show wpAny _ _ (field (.ref z) 3 >>= _) _ _ _
 refine af (dh qz rfl (x:=.ref P) rfl (af (eu qP rfl ?_)))
 show wpAny _ _ (Builtin.SmallTypes.ownedTupleIsFree (.ref z) >>= _) _ _ _
 refine af ?_;unfold Builtin.SmallTypes.ownedTupleIsFree
 refine af (dh qz rfl (x:=.none) rfl (ay ?_));simp only[f7]
 refine af (jU (af (dh qz rfl (x:=.ref O) rfl ?_)))
 refine af (cE qz #[15] fun g1 z1 s1=>?_)
 replace z1:IsZip g1 z P O .ellipsis:=z1
 refine af ?_
 simp only[List.zipIdx_cons,List.zipIdx_nil,kE,pG]
 refine af (af (mw ?_))
 show wpAny _ _ (Builtin.SmallTypes.nextOf (.ref i) >>= _) _ _ _
 refine af (jW (q1.extBut s1.extBut D.i1z) (ta.extBut s1.extBut D.l1z) hx fun g2 k2 s2=>ay ?_)
 have O2:IsPair g2 O u v:=s2.extBut _ _ D.TOi1 (s1.extBut _ _ D.TOz qO)
 refine af (eu O2 rfl (af (kg O2 fun g3 O3 s3=>?_)))
 replace O3:IsPair g3 O x v:=O3
 refine af (wpAny_letGo (ay (af (af (mw ?_)))))
 show wpAny _ _ (Builtin.SmallTypes.nextOf (.ref j) >>= _) _ _ _
 refine af (jW (((q2.extBut s1.extBut D.i2z).extBut s2.extBut D.i12.symm).extBut s3.extBut D.TOi2.symm)
  (((tb.extBut s1.extBut D.l2z).extBut s2.extBut D.l2i1).extBut s3.extBut D.l2TO) hy fun g4 k4 s4=>ay ?_)
 have O4:IsPair g4 O x v:=s4.extBut _ _ D.TOi2 O3
 refine af (eu O4 rfl (af (kg O4 fun g5 O5 s5=>?_)))
 replace O5:IsPair g5 O x y:=O5
 refine af (wpAny_letGo (ay (ay (af (eu O5 rfl (af (wpAny_newTuple ?_)))))))
 have sz:g5.objs.size=s.heap.objs.size:=by rw[s5.1,s4.1,s3.1,s2.1,s1.1]
 have z5:IsZip g5 z P O .ellipsis:=s5.extBut _ _ D.TOz.symm (s4.extBut _ _ D.i2z.symm (s3.extBut _ _ D.TOz.symm (s2.extBut _ _ D.i1z.symm z1)))
 have kp:∀c o,c≠z->c≠O->c≠i->c≠j->s.heap.get? c=some o->g5.get? c=some o:=fun c o c1 c2 c3 c4 e=>
  s5.extBut _ _ c2 (s4.extBut _ _ c4 (s3.extBut _ _ c2 (s2.extBut _ _ c3 (s1.extBut _ _ c1 e))))
 have k5:g5.IsTupleIter i a (n+1):=((k2.extBut s3.extBut D.TOi1.symm).extBut s4.extBut D.i12).extBut s5.extBut D.TOi1.symm
 have l5:g5.IsTupleIter j b (m+1):=k4.extBut s5.extBut D.TOi2.symm
 have zlt:z<g5.objs.size:=aJ z5
 show wpAny _ _ (Builtin.SmallTypes.ownedTupleHandOut (.ref z) (.ref g5.objs.size) >>= _) _ _ _
 refine af ?_;unfold Builtin.SmallTypes.ownedTupleHandOut
 have z6:IsZip (g5.push { cls:=.type "tuple",data:=.seq #[x,y] }) z P O .ellipsis:=aw _ z5
 refine af (cE z6 #[15] fun g7 z7 s7=>?_)
 replace z7:IsZip g7 z P O (rawInt g5.objs.size):=z7
 refine cE z7 #[15] fun g8 z8 s8=>?_
 replace z8:IsZip g8 z P O (rawInt g5.objs.size):=z8
 have up:∀c o,c≠z->g5.get? c=some o->g8.get? c=some o:=fun c o c1 e=>s8.extBut _ _ c1 (s7.extBut _ _ c1 (aw _ e))
 have T8:IsPair g8 g5.objs.size x y:=s8.extBut _ _ (et zlt) (s7.extBut _ _ (et zlt) (aC _ rfl))
 rw[sz]at z8 T8
 refine ay ⟨_,rfl,?_⟩
 show Q (.ref g5.objs.size) _
 rw[sz]
 exact hQ g8 z8 (up _ _ D.TOz O5) (k5.at fun o e=>up _ o D.i1z e) (l5.at fun o e=>up _ o D.i2z e) T8 fun c o c1 c2 c3 c4 e=>up c o c1 (kp c o c1 c2 c3 c4 e)
theorem NX{Q:Fin->Shared->Prop}(hh:A.handled=none)(D:ZipApart z P O i j a b)(qz:IsZip s.heap z P O .none)(qP:IsPair s.heap P (.ref i) (.ref j))(qO:IsPair s.heap O u v)
  (q1:s.heap.IsTupleIter i a n) (q2:s.heap.IsTupleIter j b m) (ta:s.heap.IsTuple a xs) (tb:s.heap.IsTuple b ys) (he:xs[n]?=none\/ys[m]?=none)
  (hE:∀g e,(∀c o,c≠z->c≠O->c≠i->c≠j->s.heap.get? c=some o->g.get? c=some o)->(∃o,g.get? e=some o/\o.cls=.type "StopIteration")->E (.ref e) { s with heap:=g }) :
  wpAny #[8] A (Builtin.«zip.__next__» ⟨[.ref z],[]⟩) Q E s:=by
 show wpAny _ _ (field (.ref z) 2 >>= _) _ _ _
 refine af (dh qz rfl (x:=.bool false) rfl ?_)
 show wpAny _ _ (field (.ref z) 3 >>= _) _ _ _
 refine af (dh qz rfl (x:=.ref P) rfl (af (eu qP rfl ?_)))
 show wpAny _ _ (Builtin.SmallTypes.ownedTupleIsFree (.ref z) >>= _) _ _ _
 refine af ?_;unfold Builtin.SmallTypes.ownedTupleIsFree
 refine af (dh qz rfl (x:=.none) rfl (ay ?_));simp only[f7]
 refine af (jU (af (dh qz rfl (x:=.ref O) rfl ?_)))
 refine af (cE qz #[15] fun g1 z1 s1=>?_)
 replace z1:IsZip g1 z P O .ellipsis:=z1
 refine af ?_
 simp only[List.zipIdx_cons,List.zipIdx_nil,kE,pG]
 refine af (af (mw ?_))
 show wpAny _ _ (Builtin.SmallTypes.nextOf (.ref i) >>= _) _ _ _
 cases hx:xs[n]? with
 |none=>
  refine af (kO hh (q1.extBut s1.extBut D.i1z) (ta.extBut s1.extBut D.l1z) hx fun g2 e s2 ye=>?_)
  obtain⟨oe,h1,h2⟩:=ye
  have z2:IsZip g2 z P O .ellipsis:=s2 _ _ D.i1z.symm z1
  have nez:e≠z:=fun q=>by subst q;rw[z2]at h1;cases h1;simp at h2
  exact cE z2 #[15] fun g3 _ s3=>hE g3 e (fun c o c1 _ c3 _ q=>s3.extBut _ _ c1 (s2 _ _ c3 (s1.extBut _ _ c1 q))) ⟨oe,s3.extBut _ _ nez h1,h2⟩
 |some x=>
  have hy:ys[m]?=none:=by rcases he with h|h;rw[hx]at h;cases h;exact h
  refine af (jW (q1.extBut s1.extBut D.i1z) (ta.extBut s1.extBut D.l1z) hx fun g2 k2 s2=>ay ?_)
  have O2:IsPair g2 O u v:=s2.extBut _ _ D.TOi1 (s1.extBut _ _ D.TOz qO)
  refine af (eu O2 rfl (af (kg O2 fun g3 O3 s3=>?_)))
  refine af (wpAny_letGo (ay (af (af (mw ?_)))))
  show wpAny _ _ (Builtin.SmallTypes.nextOf (.ref j) >>= _) _ _ _
  refine af (kO hh (((q2.extBut s1.extBut D.i2z).extBut s2.extBut D.i12.symm).extBut s3.extBut D.TOi2.symm)
   (((tb.extBut s1.extBut D.l2z).extBut s2.extBut D.l2i1).extBut s3.extBut D.l2TO) hy fun g4 e s4 ye=>?_)
  obtain⟨oe,h1,h2⟩:=ye
  have z4:IsZip g4 z P O .ellipsis:=s4 _ _ D.i2z.symm (s3.extBut _ _ D.TOz.symm (s2.extBut _ _ D.i1z.symm z1))
  have nez:e≠z:=fun q=>by subst q;rw[z4]at h1;cases h1;simp at h2
  exact cE z4 #[15] fun g5 _ s5=>hE g5 e (fun c o c1 c2 c3 c4 q=>s5.extBut _ _ c1 (s4 _ _ c4 (s3.extBut _ _ c2 (s2.extBut _ _ c3 (s1.extBut _ _ c1 q))))) ⟨oe,s5.extBut _ _ nez h1,h2⟩
theorem Ky{Q:Option Value->Shared->Prop}(D:ZipApart z P O i j a b)(qz:IsZip s.heap z P O .none)(qP:IsPair s.heap P (.ref i) (.ref j))(qO:IsPair s.heap O u v)
  (q1:s.heap.IsTupleIter i a n) (q2:s.heap.IsTupleIter j b m) (ta:s.heap.IsTuple a xs) (tb:s.heap.IsTuple b ys) (hx:xs[n]?=some x) (hy:ys[m]?=some y)
  (hQ:∀g,IsZip g z P O (rawInt s.heap.objs.size)->IsPair g O x y->g.IsTupleIter i a (n+1)->g.IsTupleIter j b (m+1)->IsPair g s.heap.objs.size x y ->
   (∀c o,c≠z->c≠O->c≠i->c≠j->s.heap.get? c=some o->g.get? c=some o)->Q (some (.ref s.heap.objs.size)) { s with heap:=g }) :
  wpAny #[8] A (pyNext (.ref z)) Q E s:=by
 have T:s.TypeIs (.ref z) "zip":=⟨_,qz,rfl⟩
 unfold pyNext
 exact af (gX (bT (name:=Str.ofString "__next__") T kI (b_ kI T F.entry_zip_next
   (Kx D qz qP qO q1 q2 ta tb hx hy fun g a1 a2 a3 a4 a5 a6=>ay (hQ g a1 a2 a3 a4 a5 a6)) (F.args_zip_next_1 _))))
theorem Kz{Q:Option Value->Shared->Prop}(hh:A.handled=none)(D:ZipApart z P O i j a b)(qz:IsZip s.heap z P O .none)(qP:IsPair s.heap P (.ref i) (.ref j))(qO:IsPair s.heap O u v)
  (q1:s.heap.IsTupleIter i a n) (q2:s.heap.IsTupleIter j b m) (ta:s.heap.IsTuple a xs) (tb:s.heap.IsTuple b ys) (he:xs[n]?=none\/ys[m]?=none)
  (hQ:∀g,(∀c o,c≠z->c≠O->c≠i->c≠j->s.heap.get? c=some o->g.get? c=some o)->Q none { s with heap:=g }):wpAny #[8] A (pyNext (.ref z)) Q E s:=by
 have T:s.TypeIs (.ref z) "zip":=⟨_,qz,rfl⟩
 unfold pyNext
 refine af (gX (bT (name:=Str.ofString "__next__") T kI (b_ kI T F.entry_zip_next (NX hh D qz qP qO q1 q2 ta tb he fun g e hk ye=>?_) (F.args_zip_next_1 _))))
 obtain⟨o,ho,hc⟩:=ye
 exact af (gs (T:="StopIteration") (b:=true) ⟨o,ho,hc⟩ lH (ay (hQ _ hk)))
end
open AutoSeq1 (wpAny_loadPart')
abbrev Te(h:Heap)(a:Addr):Heap:=h.push (lT a)
abbrev Tf(h:Heap)(a b:Addr):Heap:=(Te h a).push (lT b)
abbrev Tg(h:Heap)(a b:Addr):Heap:=(Tf h a b).push { cls:=.type "tuple",data:=.seq #[.ref h.objs.size,.ref (Te h a).objs.size] }
abbrev Th(h:Heap)(a b:Addr):Heap:=(Tg h a b).push { cls:=.type "tuple",data:=.seq #[.none,.none] }
abbrev P2(h:Heap)(a b:Addr):Heap:=(Th h a b).push { cls:=.type "zip",data:=.fields #[.none,.bool false,.bool false,.ref (Tf h a b).objs.size,.ref (Tg h a b).objs.size] }
theorem NY     (a b : Addr) (xs ys : Array Value) : Meets (Builtin.«zip.__new__» ⟨[.type "zip", .ref a, .ref b], []⟩) (fun _ R s => s.heap.IsTuple a xs /\ s.heap.IsTuple b ys /\
      R (.ok (.ret (.ref (Th  s.heap a b).objs.size))) { s with heap := P2  s.heap a b }) :=
  .of_wp fun prog w A R s h => by
    obtain ⟨hp, g, d, tk, os⟩ := s
    obtain ⟨ha, hb, h⟩ := h
    have sb := sub_zip
    have hA : Heap.IsTuple (Shared.heap ⟨hp, g, d, tk, os⟩) a xs := ha
    have hB : Heap.IsTuple (Shared.heap ⟨hp.push (lT      a), g, d, tk, os⟩) b ys := hb.at fun o e => aw                     _ e
    wp_walk using fI                 hA, fI                 hB
    exact ⟨_, rfl, h⟩
section
variable{w:World}
theorem KA{a b:Addr}{xs ys:Array Value}(ha:s.heap.IsTuple a xs)(hb:s.heap.IsTuple b ys)
  (q:∀g,IsZip g (s.heap.objs.size+4) (s.heap.objs.size+2) (s.heap.objs.size+3) .none->IsPair g (s.heap.objs.size+2) (.ref s.heap.objs.size) (.ref #[7]) ->
   IsPair g (s.heap.objs.size+3) .none .none->g.IsTupleIter s.heap.objs.size a 0->g.IsTupleIter #[7] b 0->(∀c o,s.heap.get? c=some o->g.get? c=some o)->Q (.ref (s.heap.objs.size+4)) { s with heap:=g }) :
  wpAny #[8] A (call (.type "zip") [.ref a,.ref b]) Q E s:=by
 refine callType_new F.called_zip #[13] (F.typeCall_zip_2 _ _) (F.newCall_zip_2 _ _) (fun ob=>F.args_object_init_3 ob _ _) F.entry_zip_new (NY a b xs ys) ⟨ha,hb,?_⟩
 have n1:(Te s.heap a).objs.size=s.heap.objs.size+1:=bx ..
 have n2:(Tf s.heap a b).objs.size=s.heap.objs.size+2:=by rw[bx,n1]
 have n3:(Tg s.heap a b).objs.size=s.heap.objs.size+3:=by rw[bx,n2]
 have n4:(Th s.heap a b).objs.size=s.heap.objs.size+4:=by rw[bx,n3]
 have p:∀{h:Heap} {c:Addr} {o u:Obj},h.get? c=some o->(h.push u).get? c=some o:=fun e=>aw _ e
 have g5:(P2 s.heap a b).get? (Th s.heap a b).objs.size=some _:=aC _ rfl
 have g4:(P2 s.heap a b).get? (Tg s.heap a b).objs.size=some _:=p (aC _ rfl)
 have g3:(P2 s.heap a b).get? (Tf s.heap a b).objs.size=some _:=p (p (aC _ rfl))
 have g2:(P2 s.heap a b).get? (Te s.heap a).objs.size=some _:=p (p (p (aC _ rfl)))
 have g1:(P2 s.heap a b).get? s.heap.objs.size=some _:=p (p (p (p (aC _ rfl))))
 show _/\_
 rw[n2,n3,n4]at g5
 rw[n1,n2]at g3
 rw[n3]at g4
 rw[n1]at g2
 rw[n4]
 exact⟨⟨_,g5,rfl⟩,q _ g5 g3 g4 ⟨_,g1,rfl,rfl⟩ ⟨_,g2,rfl,rfl⟩ fun c o e=>p (p (p (p (p e))))⟩
end
def U8(K:Frag)(a b:Addr):It:=
  ⟨fun i H=>∃xs ys x y,gc K H a xs/\gc K H b ys/\xs[i]?=some x/\ys[i]?=some y,
   fun i H v H'=>∃p,H p=none/\v=.ref p/\∀xs ys x y,gc K H a xs->gc K H b ys->xs[i]?=some x->ys[i]?=some y->H'=f_ H p (.tup [x,y]),
   fun i H=>∃xs ys,gc K H a xs/\gc K H b ys/\(xs.length<=i\/ys.length<=i)⟩
theorem KB{w:World}{z T O i j a b:Addr}(D:ZipApart z T O i j a b) :
  BV P w K (.Tuple wF kk pos) (U8 K a b) [z,T,O,i,j] z (fun k h=>IsZip h z T O .none/\IsPair h T (.ref i) (.ref j)/\(∃u v,IsPair h O u v)/\h.IsTupleIter i a k/\h.IsTupleIter j b k) where
 mem:=by simp
 obj:=fun k h st c hc=>by
  obtain⟨h1,h2,⟨u,v,h3⟩,⟨o4,e4,_,d4⟩,⟨o5,e5,_,d5⟩⟩:=st
  have q:c=z\/c=T\/c=O\/c=i\/c=j:=by simpa using hc
  rcases q with rfl|rfl|rfl|rfl|rfl
  ·exact⟨_,h1,fun v q=>by cases q⟩
  ·exact⟨_,h2,fun v q=>by cases q⟩
  ·exact⟨_,h3,fun v q=>by cases q⟩
  ·exact⟨_,e4,fun v q=>by rw[d4]at q;cases q⟩
  ·exact⟨_,e5,fun v q=>by rw[d5]at q;cases q⟩
 keep:=fun k h h' st kp=>by
  obtain⟨h1,h2,⟨u,v,h3⟩,h4,h5⟩:=st
  exact⟨kp z #[15] _ h1,kp T #[15] _ h2,⟨u,v,kp O #[15] _ h3⟩,h4.at fun o e=>kp i #[15] o e,h5.at fun o e=>kp j #[15] o e⟩
 item:=by
  intro X hP hw hK hc k ak s σ H E I hf st hg
  subst hP hw hK
  obtain⟨xs,ys,x,y,hq,hr,hx,hy⟩:=hg
  obtain⟨bJ,rv,p1,_⟩:=I.tuple hq
  obtain⟨jts,oq,p2,_⟩:=I.tuple hr
  obtain⟨u,hu,ru⟩:=rv.get hx
  obtain⟨v,hv,rv'⟩:=oq.get hy
  obtain⟨h1,h2,⟨c1,c2,h3⟩,h4,h5⟩:=st
  refine Ky D h1 h2 h3 h4 h5 (show s.heap.IsTuple a bJ.toArray from p1) (show s.heap.IsTuple b jts.toArray from p2) (x:=u) (y:=v) (by simpa using hu) (by simpa using hv) fun g a1 a2 a3 a4 a5 kp=>⟨_,rfl,?_⟩
  refine wpAny_letOwnedTupleGo_zip a1 fun g2 b1 s2=>?_
  have Dg:H s.heap.objs.size=none:=I.hok.fresh (az _)
  have I1:bQ X ak σ (f_ H s.heap.objs.size (.tup [x,y])) { s with heap:=s.heap.push { cls:=.type "tuple",data:=.seq #[u,v] },toks:=s.toks }:=I.laid (fun c o q=>aw _ q) (az _)
   ⟨by show 2<=sizeLine;decide,[u,v],.cons ru (.cons rv' .nil),⟨_,aC _ rfl,rfl,_,rfl⟩⟩
  have lt:∀{c o},s.heap.get? c=some o->c≠s.heap.objs.size:=fun e=>bf (aJ e)
  have nf:∀c∈[z,T,O,i,j],c≠s.heap.objs.size:=fun c hb=>by
   have q:c=z\/c=T\/c=O\/c=i\/c=j:=by simpa using hb
   rcases q with rfl|rfl|rfl|rfl|rfl
   ·exact lt h1
   ·exact lt h2
   ·exact lt h3
   ·obtain⟨_,e,_⟩:=h4;exact lt e
   ·obtain⟨_,e,_⟩:=h5;exact lt e
  have fp:∀c∈[z,T,O,i,j],sL X ak (f_ H s.heap.objs.size (.tup [x,y])) c:=fun c hb=>by
   obtain⟨f0,f⟩:=hf c hb
   exact⟨by rw[df (nf c hb)];exact f0,f⟩
  have I2:bQ X ak σ (f_ H s.heap.objs.size (.tup [x,y])) { s with heap:=g2,toks:=s.toks }:=bQ.turnedL (s:={ s with heap:=s.heap.push { cls:=.type "tuple",data:=.seq #[u,v] },toks:=s.toks }) (ch:=[z,O,i,j]) (t':=s.toks) I1 (fun c o hb q=>?_) fun c hb=>fp c (by
   have q:c=z\/c=O\/c=i\/c=j:=by simpa using hb
   rcases q with rfl|rfl|rfl|rfl<;>simp)
  ·refine⟨.ref s.heap.objs.size,_,I2,rfl,⟨_,Dg,rfl,fun xs' P6 x' y' e1 e2 e3 e4=>?_⟩,⟨b1,s2.extBut _ _ D.TIz (kp _ _ D.TIz D.TITO D.TIi1 D.TIi2 h2),⟨_,_,s2.extBut _ _ D.TOz a2⟩,a3.extBut s2.extBut D.i1z,a4.extBut s2.extBut D.i2z⟩,fun c hb=>(fp c hb).1⟩
   have q1:=I.tuple_inj e1 hq
   have q2:=I.tuple_inj e2 hr
   subst q1 q2
   rw[hx]at e3;rw[hy]at e4;cases e3;cases e4;rfl
  ·have q':(s.heap.push { cls:=.type "tuple",data:=.seq #[u,v] }).get? c=some o:=q
   have hn:c≠z/\c≠O/\c≠i/\c≠j:=by simpa using hb
   refine s2.extBut c o hn.1 ?_
   by_cases hb':c=s.heap.objs.size
   ·subst hb'
    have e1:=aC s.heap (o:={ cls:=.type "tuple",data:=.seq #[u,v] }) rfl
    rw[e1]at q';cases q'
    exact a5
   ·rw[Heap.get?_push_ne _ _ _ hb']at q'
    exact kp c o hn.1 hn.2.1 hn.2.2.1 hn.2.2.2 q'
 done:=by
  intro X hP hw hK hc k ak s σ H E I hf st hg
  subst hP hw hK
  obtain⟨xs,ys,hq,hr,he⟩:=hg
  obtain⟨bJ,rv,p1,_⟩:=I.tuple hq
  obtain⟨jts,oq,p2,_⟩:=I.tuple hr
  obtain⟨h1,h2,⟨c1,c2,h3⟩,h4,h5⟩:=st
  have l1:=rv.length
  have l2:=oq.length
  refine Kz (I.ok.hd hc) D h1 h2 h3 h4 h5 (show s.heap.IsTuple a bJ.toArray from p1) (show s.heap.IsTuple b jts.toArray from p2) (by
   rcases he with q|q
   ·exact .inl (by simp;omega)
   ·exact .inr (by simp;omega)) fun g kp=>⟨rfl,?_⟩
  exact I.turnedL (ch:=[z,O,i,j]) (t':=s.toks) (fun c o hb q=>by
   have hn:c≠z/\c≠O/\c≠i/\c≠j:=by simpa using hb
   exact kp c o hn.1 hn.2.1 hn.2.2.1 hn.2.2.2 q) fun c hb=>hf c (by
   have q:c=z\/c=O\/c=i\/c=j:=by simpa using hb
   rcases q with rfl|rfl|rfl|rfl<;>simp)
 self:=fun A k s Q E st h=>wpAny_pyIter_zip st.1 h
def Ut(K:Frag)(ta:TA):TI:=fun σ H R=>ta σ H fun vs H1=>∃a b,vs=[.ref a,.ref b]/\(∃xs,gc K H1 a xs)/\(∃ys,gc K H1 b ys)/\R (U8 K a b) H1
theorem KC{a b:Expr}{ta:TA}{p pos tp:Pos}{wF:List Expr}{kk:Nat}(hm:X.mg "zip"=none)(ha:QA X [a,b] ta)(hg:Gl X "zip":=by rfl)(hs:starEach [a,b] X.env=(false,eval a X.env)::starEach [b] X.env:=by rfl)
  (tX:(backTo pos (starEach [b] X.env)).any (·.1)=false:=by rfl):QI X (.Tuple wF kk tp) (.Call (.Name "zip" p) [a,b] [] pos) (Ut X.K ta):=⟨by
 intro ak s σ H R I h
 refine Call_ (ou I hg hm boot_zip (dU (jC (ha.h pos ak s σ H _ I h) fun us s1 kt1 ⟨vs,H1,I1,r1,q1⟩=>?_) hs tX))
 obtain⟨t,t',e,⟨xs,hq⟩,⟨ys,hr⟩,q⟩:=q1
 subst e
 cases r1 with
 |cons x1 r1=>cases r1 with
  |cons x2 r1=>
   cases r1
   cases x1
   cases x2
   obtain⟨bJ,rv,p1,_⟩:=I1.tuple hq
   obtain⟨jts,oq,p2,_⟩:=I1.tuple hr
   have lt1:t<s1.heap.objs.size:=by obtain⟨_,e,_⟩:=(show s1.heap.IsTuple t bJ.toArray from p1);exact aJ e
   have lt2:t'<s1.heap.objs.size:=by obtain⟨_,e,_⟩:=(show s1.heap.IsTuple t' jts.toArray from p2);exact aJ e
   refine KA (show s1.heap.IsTuple t bJ.toArray from p1) (show s1.heap.IsTuple t' jts.toArray from p2) fun g e1 e2 e3 e4 e5 kp=>?_
   refine wpAny_pyIter_zip e1 ?_
   refine⟨s1.heap.objs.size+4,[s1.heap.objs.size+4,s1.heap.objs.size+2,s1.heap.objs.size+3,s1.heap.objs.size,s1.heap.objs.size+1],_,_,H1,rfl,I1.kept (t':=s1.toks) kp,KB (zipApart_new lt1 lt2),⟨e1,e2,⟨_,_,e3⟩,e4,e5⟩,fun c hb=>?_,q⟩
   have hc:s1.heap.objs.size<=c:=by
    have z:c=s1.heap.objs.size+4\/c=s1.heap.objs.size+2\/c=s1.heap.objs.size+3\/c=s1.heap.objs.size\/c=s1.heap.objs.size+1:=by simpa using hb
    rcases z with rfl|rfl|rfl|rfl|rfl<;>simp
   exact I1.fpOk hc (I1.hok.fresh hc)⟩
def qG:List W->List W->List W
 |x::xs,y::ys=>.tup [x,y]::qG xs ys
 |_,_=>[]
theorem vK:∀{xs ys:List W} {i:Nat} {w:W},(qG xs ys)[i]?=some w->∃x y,xs[i]?=some x/\ys[i]?=some y/\w=.tup [x,y]
 |x::xs,y::ys,0,w,h=>by simp[qG]at h;exact⟨x,y,rfl,rfl,h.symm⟩
 |x::xs,y::ys,i+1,w,h=>by simp[qG]at h;simpa using vK h
 |[],_,i,w,h=>by simp[qG]at h
 |_::_,[],i,w,h=>by simp[qG]at h
theorem vL:∀(xs ys:List W),(qG xs ys).length=min xs.length ys.length
 |x::xs,y::ys=>by simp[qG,vL xs ys]
 |[],_=>by simp[qG]
 |_::_,[]=>by simp[qG]
section
variable{a b:Expr}{fs:FA}
def yZ(fs:FA):FI:=fun ρ st=>(fs ρ st).bind fun ws st=>match ws with
 |[.tup xs,.tup ys]=>.ok (qG xs ys,none) st
 |_=>.bad
theorem KD{wF:List Expr}{kk:Nat}{tp:Pos}(hm:X.mg "zip"=none)(ha:SA X [a,b] fs)(hg:Gl X "zip":=by rfl)(hs:starEach [a,b] X.env=(false,eval a X.env)::starEach [b] X.env:=by rfl)(qe:(backTo pos (starEach [b] X.env)).any (·.1)=false:=by rfl) :
  SI X (.Tuple wF kk tp) (.Call (.Name "zip" p) [a,b] [] pos) (yZ fs):=⟨(KC hm ⟨ha.h⟩ hg hs qe).h.imp fun σ H R h=>by
 walk_at "2"
 walk_at "1"
 split at h1
 ·rename_i zs ws
  obtain⟨y,ys,rfl,ry,r1⟩:=q1.consE
  obtain⟨w,rfl,oq⟩:=r1.one
  obtain⟨t,vs,rfl,hS,r⟩:=ry.tupE
  obtain⟨t',Dh,rfl,hS',r'⟩:=oq.tupE
  refine⟨t,t',rfl,⟨vs,hS⟩,⟨Dh,hS'⟩,h1 μ1 _ H1 (ao _) fw.refl l1.sto fun i μ' bp H' pp xx S _=>⟨fun w hw=>?_,fun hl=>⟨vs,Dh,xx _ _ hS,xx _ _ hS',by rw[vL]at hl;rw[<- r.len,<- r'.len];omega⟩⟩⟩
  obtain⟨x,y,hx,hy,rfl⟩:=vK hw
  have m1:=r.mono pp xx
  have m2:=r'.mono pp xx
  obtain⟨v1,g1,g2⟩:=m1.get hx
  obtain⟨v2,g3,g4⟩:=m2.get hy
  refine⟨⟨vs,Dh,v1,v2,xx _ _ hS,xx _ _ hS',g1,g3⟩,fun z H'' hz=>?_⟩
  obtain⟨q,hq,rfl,hH⟩:=hz
  have e:=hH vs Dh v1 v2 (xx _ _ hS) (xx _ _ hS') g1 g3
  subst e
  have ex:=gc.same (K:=X.K) (dg hq (.tup [v1,v2]))
  exact⟨ex,S.same (dg hq _),.tupI gc.new (.consI (g2.mono (ao _) ex) (.consI (g4.mono (ao _) ex) .nilI))⟩
 ·exact h1.elim⟩
end
open Builtin.Str (tooLong)
section
variable{w:World}
end
section
end
section
end
end L2
namespace L2
open PySem PySem.Spec PyProof.Rows
section
end
end L2
namespace L2
open PySem PySem.Spec PyProof.Rows
end L2
namespace L2
open PySem PySem.Spec PyProof.Rows
abbrev Rs:=List W×List (Nat×List W)
abbrev Vu:=cM->List am->R Rs
section
variable{fi:Vu}{f:FG}{m:Nat}
end
section
variable{a b:Expr}{fs:FA}
end
end L2
namespace L2
open PySem PySem.Spec PyProof.Rows
section
def xS(ws:List W)(st:List am):R W:=match ws with
 |[.str [c]]=>if 48<=c/\c<=51 then .ok (.int (c-48:Nat)) st else .bad
 |_=>EW ws st
theorem Cz:oG X (.type "int") xS:=⟨fun ak s σ H vs us Q I rv zq=>by
 obtain⟨μ,st,ws,S,r,q⟩:=zq
 unfold xS at q
 split at q
 ·rename_i c
  split at q
  ·rename_i hc
   obtain⟨y,rfl,ry⟩:=r.one
   have:=ry.strE;subst this
   obtain⟨k,rfl⟩:∃k,c=48+k:=⟨c-48,by omega⟩
   refine NE.h ak s σ H _ us Q I rv ⟨k,rfl,by omega,?_⟩
   rw[show 48+k-48=k by omega]at q
   exact q μ _ H (ao _) fw.refl S .int
  ·exact q.elim
 ·exact Lr.h ak s σ H _ us Q I rv ⟨μ,st,_,S,r,q⟩,fun ws st=>by
 unfold xS
 split
 ·split<;>trivial
 ·exact(Lr (X:=X)).n _ _⟩
end
end L2
namespace L2
open PySem PySem.Spec PyProof.Rows
section
variable{wi:TI}{g:TG}{te:Cx->TE}
end
section
variable{f:FG}
end
end L2
namespace L2
open PySem PySem.Spec PyProof.Rows
theorem DK.key_inj{a b:DK}:a.key=b.key↔a=b:=by
 cases a<;>cases b<;>simp[DK.key,yK]
def DK.w:DK->W
 |.i z=>.int z
 |.s l=>.str l
def uh:W->Option DK
 |.int z=>some (.i z)
 |.str l=>some (.s l)
 |_=>none
theorem DT{w:W}{k:DK}{v:V}(h:uh w=some k)(r:bH K μ H w v):v=kV k.key:=by
 cases w with
 |int z=>cases h;exact r.intE
 |str l=>cases h;exact r.strE
 |_=>cases h
def j7(kvs:List (DK×W))(k:DK):Option W:=(kvs.find? fun p=>decide (p.1=k)).map fun p=>p.2
def uF(kvs:List (DK×W))(k:DK)(v:W):List (DK×W):=if (kvs.any fun p=>decide (p.1=k))=true then kvs.map fun p=>if p.1=k then(p.1,v)else p else kvs++[(k,v)]
abbrev dV(kvs:List (DK×W))(vs:List V):List (mz×V):=(kvs.map fun p=>p.1.key).zip vs
section
theorem GQ:∀{kvs:List (DK×W)} {vs:List V} (k:DK),RelWs K μ H (kvs.map fun p=>p.2) vs->(∃w v,j7 kvs k=some w/\sP (dV kvs vs) k.key=some v/\bH K μ H w v)\/(j7 kvs k=none/\sP (dV kvs vs) k.key=none)
 |[],vs,k,r=>.inr ⟨rfl,rfl⟩
 |p::kvs,vs,k,r=>by
  obtain⟨x,xs,rfl,a,b⟩:=RelWs.consE r
  have ih:=GQ (kvs:=kvs) k b
  by_cases h:p.1=k
  ·refine .inl ⟨p.2,x,?_,?_,a⟩
   ·unfold j7;rw[fU];simp[h]
   ·show sP ((p.1.key,x)::dV kvs xs) k.key=some x
    exact F5 (by rw[h])
  ·have e1:j7 (p::kvs) k=j7 kvs k:=by unfold j7;rw[fU];simp[h]
   have e2:sP (dV (p::kvs) (x::xs)) k.key=sP (dV kvs xs) k.key:=F6 (p:=(p.1.key,x)) fun z=>h (DK.key_inj.mp z)
   rw[e1,e2];exact ih
theorem GR:∀{kvs:List (DK×W)} {vs:List V} (k:DK),RelWs K μ H (kvs.map fun p=>p.2) vs->((dV kvs vs).any fun kv=>decide (kv.1=k.key))=(kvs.any fun p=>decide (p.1=k))
 |[],vs,k,r=>rfl
 |p::kvs,vs,k,r=>by
  obtain⟨x,xs,rfl,a,b⟩:=RelWs.consE r
  show(decide (p.1.key=k.key)||(dV kvs xs).any _)=(decide (p.1=k)||kvs.any _)
  rw[GR k b]
  congr 1
  rw[decide_eq_decide];exact DK.key_inj
theorem GS{k:DK}{w:W}{v:V}:∀{kvs:List (DK×W)} {vs:List V},RelWs K μ H (kvs.map fun p=>p.2) vs->bH K μ H w v->∃us,(dV kvs vs).map (fun kv=>if kv.1=k.key then(kv.1,v)else kv)=dV (kvs.map fun p=>if p.1=k then(p.1,w)else p) us/\RelWs K μ H ((kvs.map fun p=>if p.1=k then(p.1,w)else p).map fun p=>p.2) us
 |[],vs,r,oq=>⟨[],rfl,.nilI⟩
 |p::kvs,vs,r,oq=>by
  obtain⟨x,xs,rfl,a,b⟩:=RelWs.consE r
  obtain⟨us,e,q⟩:=GS (k:=k) b oq
  by_cases h:p.1=k
  ·refine⟨v::us,?_,?_⟩
   ·show(if p.1.key=k.key then(p.1.key,v)else(p.1.key,x))::(dV kvs xs).map _=_
    rw[aF (by rw[h]),e,a9,aF h];rfl
   ·rw[a9,aF h];exact .consI oq q
  ·refine⟨x::us,?_,?_⟩
   ·show(if p.1.key=k.key then(p.1.key,v)else(p.1.key,x))::(dV kvs xs).map _=_
    rw[aO (fun z=>h (DK.key_inj.mp z)),e,a9,aO h];rfl
   ·rw[a9,aO h];exact .consI a q
theorem NZ{k:DK}{w:W}{v:V}(r:RelWs K μ H (kvs.map fun p=>p.2) vs)(oq:bH K μ H w v):∃us,yI (dV kvs vs) k.key v=dV (uF kvs k w) us/\RelWs K μ H ((uF kvs k w).map fun p=>p.2) us:=by
 unfold yI uF
 rw[GR k r]
 by_cases h:(kvs.any fun p=>decide (p.1=k))=true
 ·rw[aF h,aF h]
  exact GS r oq
 ·rw[aO h,aO h]
  refine⟨vs++[v],?_,?_⟩
  ·unfold dV
   rw[bb,List.zip_append (by rw[aD,<- r.len,aD])];rfl
  ·rw[bb];exact r.app (.consI oq .nilI)
theorem N0(r:RelWs K μ H (kvs.map fun p=>p.2) vs):(dV kvs vs).length=kvs.length:=by
 unfold dV;rw[List.length_zip,aD,<- r.len,aD,Nat.min_self]
theorem gc.butD{l:Addr}{xs:List (mz×V)}(e:S_ l H H')(hl:H l=some (.dK xs)):fw K H H':=by
 have z9:∀{p:Addr} {o:HO},H p=some o->(∀zs,o≠.dK zs)->p≠l:=fun{p o} q hn z=>by subst z;rw[hl]at q;cases q;exact hn _ rfl
 refine⟨fun p ys h=>?_,fun b o u h=>e _ _ (z9 h (fun _ z=>by cases z)) h⟩
 rcases h with(h|⟨o,h⟩)|h
 ·exact .inl (.inl (e _ _ (z9 h (fun _ z=>by cases z)) h))
 ·exact .inl (.inr ⟨o,e _ _ (z9 h (fun _ z=>by cases z)) h⟩)
 ·exact .inr h
end
theorem jk.setD(S:jk K mg μ st H){a:Addr}{PN:List (DK×W)}{xs:List (mz×V)}{us:List V}(hn:st[n]?=some (.dct kvs))(hm:μ[n]?=some a)(ha:H a=some (.dK xs))(hr:RelWs K μ H (PN.map fun p=>p.2) us) :
  jk K mg μ (st.set n (.dct PN)) (f_ H a (.dK (dV PN us))):=
 S.setG hn rfl hm ha (fun _ _ z=>by cases z) (fun _ z=>by cases z) (gc.butD jn ha) rfl ⟨us,gN,hr.mono (ao _) (gc.butD jn ha)⟩
def ui(st:List am):W->Option (Nat×List (DK×W))
 |.loc n=>(match st[n]? with
  |some (.dct kvs)=>some (n,kvs)
  |some (.rod kvs)=>some (n,kvs)
  |_=>none)
 |_=>none
def EZ(st:List am):W->Option (Nat×List (DK×W))
 |.loc n=>(match st[n]? with
  |some (.dct kvs)=>some (n,kvs)
  |_=>none)
 |_=>none
theorem AK(S:jk K mg μ st H){x:W}{v:V}(h:ui st x=some (n,kvs))(r:bH K μ H x v) :
  ∃a vs,(st[n]?=some (.dct kvs)\/st[n]?=some (.rod kvs))/\μ[n]?=some a/\v=.ref a/\Rd H a (.dK (dV kvs vs))/\RelWs K μ H (kvs.map fun p=>p.2) vs:=by
 cases x with
 |loc m=>
  simp only[ui]at h
  cases e:st[m]? with
  |none=>rw[e]at h;cases h
  |some c=>
   rw[e]at h
   cases c with
   |dct z=>
    cases h
    obtain⟨a,g,vs,k,rr⟩:=S.get e
    obtain⟨b,f,rfl⟩:=r.locE
    rw[g]at f;cases f
    exact⟨a,vs,.inl e,g,rfl,.inl k,rr⟩
   |rod z=>
    cases h
    obtain⟨a,g,vs,o,k,rr⟩:=S.get e
    obtain⟨b,f,rfl⟩:=r.locE
    rw[g]at f;cases f
    exact⟨a,vs,.inr e,g,rfl,.inr ⟨o,k⟩,rr⟩
   |_=>cases h
 |_=>cases h
theorem KF(S:jk K mg μ st H){x:W}{v:V}(h:EZ st x=some (n,kvs))(r:bH K μ H x v) :
  ∃a vs,st[n]?=some (.dct kvs)/\μ[n]?=some a/\v=.ref a/\H a=some (.dK (dV kvs vs))/\RelWs K μ H (kvs.map fun p=>p.2) vs:=by
 cases x with
 |loc m=>
  simp only[EZ]at h
  cases e:st[m]? with
  |none=>rw[e]at h;cases h
  |some c=>
   rw[e]at h
   cases c with
   |dct z=>
    cases h
    obtain⟨a,g,vs,k,rr⟩:=S.get e
    obtain⟨b,f,rfl⟩:=r.locE
    rw[g]at f;cases f
    exact⟨a,vs,e,g,rfl,k,rr⟩
   |_=>cases h
 |_=>cases h
theorem EE.r{a:Addr}{kvs:List (mz×V)}{k:mz}(e:Rd H a (.dK kvs)):EE H a (kV k) (sP kvs k):=.inl ⟨kvs,k,e,rfl,rfl⟩
section
variable{a b d i:Expr}{x:Str}{fb fc fi:FE}{fs:FA}
def xU(x i v:W)(st:List am):Option (List am):=match EZ st x,uh i with
 |some (n,kvs),some k=>if kvs.length<mB then some (st.set n (.dct (uF kvs k v)))else none
 |_,_=>none
theorem N1(hr:iL kk X.A):En X (GI X xU):=fun ak s σ H o i v ov iv u Q I r1 r2 r3 zq=>by
 obtain⟨μ,st,wo,wi,wv,bp,S,ro,ri,rv,e,q⟩:=zq
 unfold xU at e
 cases e1:EZ st wo with
 |none=>rw[e1]at e;cases e
 |some nk=>
  obtain⟨n,kvs⟩:=nk
  cases e2:uh wi with
  |none=>rw[e1,e2]at e;cases e
  |some k=>
   rw[e1,e2]at e
   simp only at e
   split at e
   ·rename_i hl
    cases e
    obtain⟨a,vs,hn,hm,rfl,ha,r⟩:=KF S e1 ro
    have:=DT e2 ri
    subst this
    obtain rfl:ov=Value.ref a:=r1
    obtain⟨us,g1,g2⟩:=NZ (k:=k) r rv
    refine EF (Lj hr) I (J4.k ha (by rw[N0 r];exact aP hl #[13])) r2 r3 fun s' I'=>⟨_,I',?_⟩
    rw[g1]
    exact q _ (gc.butD jn ha) (S.setD hn hm ha g2)
   ·cases e
def Lz:FE:=fun _ st=>.ok #[5] (st++[.dct []])
theorem N2:SE X (.Dict [] [] pos) Lz:=⟨pe_dnewK.imp fun σ H Q h=>by
 walk_at "2"
 intro p hp
 have hs:uz H (f_ H p (.dK [])):=dg hp _
 exact h (μ++[p]) (.ref p) _ (be _ _) (gc.same hs) (l.sto.push (c:=.dct []) hp ⟨[],gN,.nilI⟩) (oF l.sto)⟩
def keysOf:List (W×W)->Option (List (DK×W))
 |[]=>some []
 |(k,v)::r=>match uh k,keysOf r with
  |some k,some r=>some ((k,v)::r)
  |_,_=>none
end
end L2
namespace L2
open PySem PySem.Spec PyProof.Rows
section
variable{x y:Str}{a b:Expr}{fs:FA}
end
inductive DefIn(K:Frag)(x:Str)(st:Stmt):Prop
 |mk {ad:Addr} {od an:Option Addr} {sl:Array (Option Value)} {oc kV dc pm cd ct:Value} (a:nsIn K mainGlobals x=some (some (.ref ad)))
   (l:K.lookup ad=some ⟨oc,od,.func (fnOf x x (ii st) (gE st) (aQ st) .none kV dc pm an cd ct),sl⟩) (c:codeIn K cd x=true) (k:keepIn K (.ref ad)=true):DefIn K x st
theorem DefIn.fn{x:Str}{st:Stmt}(d:DefIn K x st)(X:K.In h)(G:h.Ns mainGlobals mg):∃f fd,iA K x x st f fd/\mg x=some (.ref f):=by
 obtain⟨a,l,c,k⟩:=d
 exact⟨_,_,yH (st:=st) l c k,mg_of X G a⟩
theorem Rt{l:List Value}(h:l.length=n+1):∃a t,l=a::t/\t.length=n:=by
 cases l with
 |nil=>cases h
 |cons a t=>exact⟨a,t,rfl,Nat.succ.inj h⟩
theorem Ti{l:List Value}(h:l.length=1):∃a,l=[a]:=gI.mp h
theorem Tj{l:List Value}(h:l.length=2):∃a b,l=[a,b]:=by obtain⟨a,t,rfl,k⟩:=Rt h;obtain⟨b,rfl⟩:=Ti k;exact⟨a,b,rfl⟩
theorem Tl{l:List Value}(h:l.length=3):∃a b c,l=[a,b,c]:=by obtain⟨a,t,rfl,k⟩:=Rt h;obtain⟨b,c,rfl⟩:=Tj k;exact⟨a,b,c,rfl⟩
theorem Tn{l:List Value}(h:l.length=4):∃a b c d,l=[a,b,c,d]:=by obtain⟨a,t,rfl,k⟩:=Rt h;obtain⟨b,c,d,rfl⟩:=Tl k;exact⟨a,b,c,d,rfl⟩
theorem To{l:List Value}(h:l.length=5):∃a b c d e,l=[a,b,c,d,e]:=by obtain⟨a,t,rfl,k⟩:=Rt h;obtain⟨b,c,d,e,rfl⟩:=Tn k;exact⟨a,b,c,d,e,rfl⟩
theorem Uu{l:List Value}(h:l.length=6):∃a b c d e f,l=[a,b,c,d,e,f]:=by obtain⟨a,t,rfl,k⟩:=Rt h;obtain⟨b,c,d,e,f,rfl⟩:=To k;exact⟨a,b,c,d,e,f,rfl⟩
section
variable{w:World}{k:Nat}{x:Str}{st:Stmt}{f:Addr}
theorem cP(F:iA K x x st f fd)(hm:mg x=some (.ref f))(ok:c7 P w K mg base (hZ P w) k f fd ps (iD K mg n G))(hn:ps.length=n:=by rfl)
  (hb:∀(kV sI pm:Value) (an:Option Addr) (fq ct:Value) (us:List Value),us.length=ps.length->bindArgs (fnOf x x (ii st) (gE st) (aQ st) .none kV sI pm an fq ct) ⟨us,[]⟩=pure (ps.zip us):=by(intro _ _ _ _ _ _ _ q;first|(obtain⟨_,rfl⟩:=Ti q;rfl)|(obtain⟨_,_,rfl⟩:=Tj q;rfl)|(obtain⟨_,_,_,rfl⟩:=Tl q;rfl)|(obtain⟨_,_,_,_,rfl⟩:=Tn q;rfl)|(obtain⟨_,_,_,_,_,rfl⟩:=To q;rfl)|(obtain⟨_,_,_,_,_,_,rfl⟩:=Uu q;rfl))):bY P w K mg base k x n G:=yU F hm hn hb ok
end
section
variable{x:Str}{sp:Scope}
theorem jE{N:List Str}(a:sp.kind=.function:=by rfl)(b:sp.isCoroutine=false:=by rfl)(c:sp.isGenerator=false:=by rfl)(d:N.Nodup:=by decide +kernel)(f:N.take ps.length=ps:=by rfl)(g:∀x∈ps,sp.names.lookup x=some .local\/sp.names.lookup x=some .cell:=by decide +kernel)(h:∀y∈sp.names,y.2≠.free:=by decide +kernel):bg N ps sp:=⟨a,b,c,d,f,g,h⟩
theorem sS(i:Nat){iq:Pos}(sc:bg X.N ps sp)(he:SE X e fe)(hi:X.N[i]?=some x:=by rfl)(hx:JF X.env.scope x:=by first|exact .inl rfl|exact .inr rfl)(hs:swapsWith e (some (.Name x iq)) pos.line X.env=pure false:=by rfl)(hf:X.fn x=true\/X.env.scope.names.lookup x=some .local:=by first|exact .inl rfl|exact .inr rfl|assumption) :
  SS X (.Assign [.Name x iq] e pos) (ba i fe):=NR sc.nd hi hx he hs hf
theorem sG(i:Nat)(sc:bg X.N ps sp)(hi:X.N[i]?=some x:=by rfl)(hx:JF X.env.scope x:=by first|exact .inl rfl|exact .inr rfl)(hf:X.fn x=true\/X.env.scope.names.lookup x=some .local:=by first|exact .inl rfl|exact .inr rfl|assumption):SG X (.Name x pos) (jD i):=DN sc.nd hi hx hf
theorem sC{cl:List (Str×Addr)}{C s0 H0 fp}(i:Nat)(hN:nm.Nodup:=by decide +kernel)(hi:nm[i]?=some x:=by rfl)(hx:JF #[9].env.scope x:=by first|exact .inl rfl|exact .inr rfl)(hf:#[9].fn x=true\/#[9].env.scope.names.lookup x=some .local:=by first|exact .inl rfl|exact .inr rfl|assumption) :
  SG #[9] (.Name x pos) (jD i):=DN (X:=dZ X nm scope cl C s0 H0 fp) hN hi hx hf
end
section
variable{f:FG}{m:Nat}
end
section
end
section
end
section
variable{f:Expr}{fk fd:FE}
def qH(fo fk:FE):FE:=fun ρ st=>(fo ρ st).bind fun x st=>match ui st x with
 |some _=>(fk ρ st).bind fun y st=>(match ui st x,uh y with
  |some (_,kvs),some k=>.ok ((j7 kvs k).getD .non) st
  |_,_=>.bad)
 |none=>.bad
theorem DU(hr:iL kk X.A)(ho:SE X o fo)(he:SE X e fe)(m:M1 X o "get" fH e dH:=by exact⟨by rfl,by rfl,by rfl,by rfl⟩):SE X (.Call (.Attribute o "get" fH) [e] [] dH) (qH fo fe):=⟨(F_ (Lj hr) ho.h he.h m).imp fun σ H Q h=>by
 walk_at "2"
 walk_at "1"
 cases e0:ui st1 x with
 |none=>rw[e0]at h1;exact h1.elim
 |some nk0=>
  obtain⟨n0,kvs0⟩:=nk0
  rw[e0]at h1
  simp only at h1
  obtain⟨a0,vs0,_,hm0,rfl,ha0,_⟩:=AK l1.sto e0 q1
  refine⟨a0,rfl,.inl ⟨_,ha0⟩,μ1,ρ,st1,l1,RK.bind h1 l1 fun μ2 cZ y u H2 p2 x2 l2 q2 h2=>?_⟩
  cases e1:ui cZ x with
  |none=>rw[e1]at h2;exact h2.elim
  |some nk=>
   obtain⟨n,kvs⟩:=nk
   cases e2:uh y with
   |none=>rw[e1,e2]at h2;exact h2.elim
   |some k=>
    rw[e1,e2]at h2
    simp only at h2
    obtain⟨a,vs,_,hm,ea,ha,r⟩:=AK l2.sto e1 (q1.mono p2 x2)
    cases ea
    have:=DT e2 q2
    subst this
    rcases GQ k r with⟨w,z,g1,g2,g3⟩|⟨g1,g2⟩
    ·rw[g1]at h2
     exact⟨some z,by rw[<- g2];exact EE.r ha,h2 μ2 z H2 (ao _) fw.refl l2.sto g3⟩
    ·rw[g1]at h2
     exact⟨none,by rw[<- g2];exact EE.r ha,h2 μ2 .non H2 (ao _) fw.refl l2.sto .non⟩⟩
end
section
variable{a:Expr}
end
section
end
section
variable{w:World}
variable{K:Type}[DecidableEq K]{VL:KeyKind prog w K}
end
section
end
end L2
namespace L2
open PySem PySem.Spec PyProof.Rows
structure N3(K:Frag)(mg:Str->Option Value)(c:Str)(fs:List Str):Prop where
 ex:∃C,mg c=some (.ref C)/\Cls K C/\∀f∈fs,qA K C f
def nJ(st:List am):W->Option (Nat×Str×List (Str×W))
 |.loc n=>(match st[n]? with
  |some (.obj c fs)=>some (n,c,fs)
  |_=>none)
 |_=>none
def w4(f:Str)(v:W):List (Str×W)->List (Str×W)
 |[]=>[(f,v)]
 |(g,x)::r=>if g=f then(g,v)::r else(g,x)::w4 f v r
abbrev fV(fs:List (Str×W))(vs:List V):List (Str×V):=(fs.map fun p=>p.1).zip vs
section
theorem rD(S:jk K mg μ st H){x:W}{v:V}{c:Str}{fs:List (Str×W)}(h:nJ st x=some (n,c,fs))(r:bH K μ H x v) :
  x=.loc n/\st[n]?=some (.obj c fs)/\∃a C dx vs,μ[n]?=some a/\v=.ref a/\mg c=some (.ref C)/\H a=some (.ins C dx (fV fs vs))/\RelWs K μ H (fs.map fun p=>p.2) vs:=by
 cases x with
 |loc m=>
  simp only[nJ]at h
  cases e:st[m]? with
  |none=>rw[e]at h;cases h
  |some cc=>
   rw[e]at h
   cases cc with
   |obj c' z=>
    cases h
    obtain⟨a,g,C,dx,vs,m1,k,rr⟩:=S.get e
    obtain⟨b,f,rfl⟩:=r.locE
    rw[g]at f;cases f
    exact⟨rfl,e,a,C,dx,vs,g,rfl,m1,k,rr⟩
   |_=>cases h
 |_=>cases h
theorem y0(f:Str):∀{fs:List (Str×W)} {vs:List V},RelWs K μ H (fs.map fun p=>p.2) vs->(∀w,fs.lookup f=some w->∃v,(fV fs vs).lookup f=some v/\bH K μ H w v)/\(fs.lookup f=none->(fV fs vs).lookup f=none)
 |[],vs,r=>⟨fun w h=>(by cases h),fun _=>rfl⟩
 |(g,x)::fs,vs,r=>by
  obtain⟨y,ys,rfl,a,b⟩:=RelWs.consE r
  have ih:=y0 f (fs:=fs) b
  have e1:List.lookup f ((g,x)::fs)=(match f==g with|true=>some x|false=>fs.lookup f):=rfl
  have e2:List.lookup f (fV ((g,x)::fs) (y::ys))=(match f==g with|true=>some y|false=>(fV fs ys).lookup f):=rfl
  rw[e1,e2]
  cases f==g with
  |true=>exact⟨fun w h=>(by cases h;exact⟨y,rfl,a⟩),fun h=>(by cases h)⟩
  |false=>exact ih
theorem GT(f:Str){w:W}{v:V}(oq:bH K μ H w v):∀{fs:List (Str×W)} {vs:List V},RelWs K μ H (fs.map fun p=>p.2) vs->∃us,n5 f v (fV fs vs)=fV (w4 f w fs) us/\RelWs K μ H ((w4 f w fs).map fun p=>p.2) us
 |[],vs,r=>⟨[v],rfl,.consI oq .nilI⟩
 |(g,x)::fs,vs,r=>by
  obtain⟨y,ys,rfl,a,b⟩:=RelWs.consE r
  obtain⟨us,e,q⟩:=GT f oq (fs:=fs) b
  show ∃us,(if g=f then(g,v)::fV fs ys else(g,y)::n5 f v (fV fs ys))=_/\_
  by_cases h:g=f
  ·refine⟨v::ys,?_,?_⟩
   ·rw[aF h];show _=fV (if g=f then(g,w)::fs else(g,x)::w4 f w fs) _;rw[aF h];rfl
   ·show RelWs K μ H ((if g=f then(g,w)::fs else(g,x)::w4 f w fs).map fun p=>p.2) _
    rw[aF h];exact .consI oq b
  ·refine⟨y::us,?_,?_⟩
   ·rw[aO h];show _=fV (if g=f then(g,w)::fs else(g,x)::w4 f w fs) _;rw[aO h,e];rfl
   ·show RelWs K μ H ((if g=f then(g,w)::fs else(g,x)::w4 f w fs).map fun p=>p.2) _
    rw[aO h];exact .consI a q
theorem gc.butI{l dx:Addr}{xs:List (Str×V)}(e:S_ l H H')(hl:H l=some (.ins C dx xs)):fw K H H':=by
 have z9:∀{p:Addr} {o:HO},H p=some o->(∀c d zs,o≠.ins c d zs)->p≠l:=fun{p o} q hn z=>by subst z;rw[hl]at q;cases q;exact hn _ _ _ rfl
 refine⟨fun p ys h=>?_,fun b o u h=>e _ _ (z9 h (fun _ _ _ z=>by cases z)) h⟩
 rcases h with(h|⟨o,h⟩)|h
 ·exact .inl (.inl (e _ _ (z9 h (fun _ _ _ z=>by cases z)) h))
 ·exact .inl (.inr ⟨o,e _ _ (z9 h (fun _ _ _ z=>by cases z)) h⟩)
 ·exact .inr h
theorem jk.setI(S:jk K mg μ st H){a dx:Addr}{c:Str}{fs SL:List (Str×W)}{xs:List (Str×V)}{us:List V}(hn:st[n]?=some (.obj c fs))(hm:μ[n]?=some a)(hc:mg c=some (.ref C))(ha:H a=some (.ins C dx xs))(hr:RelWs K μ H (SL.map fun p=>p.2) us) :
  jk K mg μ (st.set n (.obj c SL)) (f_ H a (.ins C dx (fV SL us))):=
 S.setG hn rfl hm ha (fun _ _ z=>by cases z) (fun _ z=>by cases z) (gc.butI jn ha) rfl ⟨C,dx,us,hc,gN,hr.mono (ao _) (gc.butI jn ha)⟩
end
section
variable{a value:Expr}{c f m:Str}{fl:List Str}{fs:FA}
def ji(c f:Str)(fa:FE):FE:=fun ρ st=>(fa ρ st).bind fun x st=>match nJ st x with
 |some (_,c',fs)=>if c'=c then sZ (fs.lookup f) fun w=>.ok w st else .bad
 |none=>.bad
theorem g_(hC:N3 X.K X.mg c fl)(ha:SE X a fa)(hf:f∈fl:=by decide)(hb:attributeBase a f X.env (eval a X.env)=eval a X.env:=by rfl):SE X (.Attribute a f pos) (ji c f fa):=⟨(Nh ha.h hb).imp fun σ H Q h=>by
 walk_at "2"
 walk_at "1"
 cases e0:nJ st1 x with
 |none=>rw[e0]at h1;exact h1.elim
 |some nk=>
  obtain⟨n,c',fs⟩:=nk
  rw[e0]at h1
  simp only at h1
  obtain⟨rfl,hn,a,C,dx,vs,hm,rfl,hc,hI,rr⟩:=rD l1.sto e0 q1
  by_cases z:c'=c
  ·rw[aF z]at h1
   subst z
   obtain⟨C',hc',cl,na⟩:=hC.ex
   rw[hc]at hc';cases hc'
   unfold sZ at h1
   split at h1
   ·rename_i w ew
    obtain⟨v,ev,rv⟩:=(y0 f rr).1 w ew
    exact⟨a,C,dx,_,v,rfl,hI,cl,na f hf,ev,h1 μ1 v H1 (ao _) fw.refl l1.sto rv⟩
   ·exact h1.elim
  ·rw[aO z]at h1;exact h1.elim⟩
def oM(c f:Str)(fo fe:FE):FS:=fun ρ st=>(fe ρ st).stmt ρ fun y st=>(fo ρ st).stmt ρ fun x st=>match nJ st x with
 |some (n,c',fs)=>if c'=c/\fs.length<900 then .nx ρ (st.set n (.obj c (w4 f y fs)))else .bad
 |none=>.bad
theorem km(hC:N3 X.K X.mg c fl)(ho:SE X o fo)(he:SE X value fe)(hf:f∈fl:=by decide)(hs:swapsWith value (some (.Attribute o f iq)) pos.line X.env=pure false:=by rfl):SS X (.Assign [.Attribute o f iq] value pos) (oM c f fo fe):=⟨(Ni ho.h he.h hs).imp fun D σ H h=>by
 walk_at "2"
 refine⟨μ,ρ,st,l,RK.stmt h l fun μ1 st1 y yv H1 p1 x1 l1 q1 h1=>⟨μ1,ρ,st1,l1,RK.stmt h1 l1 fun μ2 cZ x xv H2 p2 x2 l2 q2 h2=>?_⟩⟩
 cases e0:nJ cZ x with
 |none=>rw[e0]at h2;exact h2.elim
 |some nk=>
  obtain⟨n,c',fs⟩:=nk
  rw[e0]at h2
  simp only at h2
  obtain⟨rfl,hn,a,C,dx,vs,hm,rfl,hc,hI,rr⟩:=rD l2.sto e0 q2
  by_cases z:c'=c/\fs.length<900
  ·rw[aF z]at h2
   obtain⟨z,hz⟩:=z
   subst z
   obtain⟨C',hc',cl,na⟩:=hC.ex
   rw[hc]at hc';cases hc'
   obtain⟨us,e1,r1⟩:=GT f (q1.mono p2 x2) rr
   have fY:(fV fs vs).length<1000:=by
    unfold fV
    rw[List.length_zip,aD]
    omega
   refine⟨a,C,dx,_,rfl,hI,cl,na f hf,fY,?_⟩
   rw[e1]
   exact h2 μ2 σ _ (ao _) (gc.butI jn hI) (l2.to (ao _) (gc.butI jn hI) (l2.sto.setI hn hm hc hI r1))
  ·rw[aO z]at h2;exact h2.elim⟩
structure iH(P:Program)(w:World)(K:Frag)(mg:Str->Option Value)(base:Heap)(k:Nat)(c m:Str)(n:Nat)(F:List W->List am->R W):Prop where
 ex:∃(C g:Addr) (fd:FuncData) (ps:List Str),mg c=some (.ref C)/\Cls K C/\Qw K C m g/\ps.length=n/\qf K fd ps []/\c7 P w K mg base (hZ P w) k g fd ps (iD K mg n F)
theorem iH.mono{w:World}{k:Nat}(h:iH P w K mg base j c m n F)(hj:j<=k):iH P w K mg base k c m n F:=by
 obtain⟨C,g,fd,ps,a,b,b2,c,d,e⟩:=h.ex
 exact⟨C,g,fd,ps,a,b,b2,c,d,e.mono hj⟩
def iP(c m:Str)(n:Nat)(F:List W->List am->R W)(fo:FE)(fs:FA):FE:=fun ρ st=>(fo ρ st).bind fun x st=>match nJ st x with
 |some (_,c',fl)=>if c'=c/\fl.lookup m=none then(fs ρ st).bind fun ws st=>if ws.length+1=n then F (x::ws) st else .bad else .bad
 |none=>.bad
theorem ko{k k':Nat}{pl:Sem Bool}(Fn:iH X.prog X.w X.K X.mg X.base k c m n F)(hr:iL k' X.A)(hk:k<=k')(ho:SE X o fo)(ha:SA X (e::es) fs)
  (su:starEach (e::es) X.env=(false,eval e X.env)::starEach es X.env:=by rfl) (qe:(backTo pos (starEach es X.env)).any (·.1)=false:=by rfl)
  (ht:eval (.Call (.Attribute o m fH) (e::es) [] pos) X.env=(do
   let ov <- eval o X.env
   standAt fH.atName
   let (f,fst') <- holding [ov] (getMethod ov m pl)
   callWith pos f fst' (backTo pos (starEach (e::es) X.env)) (backToKw pos (keywordEach [] X.env))):=by rfl):SE X (.Call (.Attribute o m fH) (e::es) [] pos) (iP c m n F fo fs):=⟨by
 intro ak s σ H Q I h
 obtain⟨C,g,fd,ps,hc,cl,hm,hn,hb,Fo⟩:=(Fn.mono hk).ex
 walk_at "2"
 have h':tE X fo σ H fun x H1=>∃(a dx:Addr) (xs:List (Str×V)),x=.ref a/\H1 a=some (.ins C dx xs)/\xs.lookup m=none/\Q5 X fs σ H1 fun vs H2=>∃μ2 cZ ws,Rl X μ2 ρ cZ σ H2/\RelWs X.K μ2 H2 ws (.ref a::vs)/\ws.length=n/\RK X (sR X) μ2 σ H2 Q (F ws cZ):=by
  walk_at "1"
  cases e0:nJ st1 x with
  |none=>rw[e0]at h1;exact h1.elim
  |some nk=>
   obtain⟨i,c',fl⟩:=nk
   rw[e0]at h1
   simp only at h1
   obtain⟨rfl,hi,a,C',dx,vs,hma,rfl,hc',hI,rr⟩:=rD l1.sto e0 q1
   by_cases z:c'=c/\fl.lookup m=none
   ·rw[aF z]at h1
    obtain⟨z,hz⟩:=z
    subst z
    rw[hc]at hc';cases hc'
    refine⟨a,dx,_,rfl,hI,(y0 m rr).2 hz,μ1,ρ,st1,l1,RK.bind h1 l1 fun μ2 cZ ws vs2 H2 p2 x2 l2 q2 h2=>?_⟩
    by_cases y:ws.length+1=n
    ·rw[aF y]at h2
     exact⟨μ2,cZ,.loc i::ws,l2,.consI (q1.mono p2 x2) q2,y,h2⟩
    ·rw[aO y]at h2;exact h2.elim
   ·rw[aO z]at h1;exact h1.elim
 refine PySem.W.methodCall_KW (pl:=pl) (jC (ho.h ak s σ H _ I h') fun u s1 kt1 ⟨x,H1,I1,rx,a,dx,xs,ex,ea,lk,q⟩=>?_) ht
 subst ex
 obtain rfl:u=Value.ref a:=rx
 refine vb I1 ea cl hm lk ?_
 refine PySem.W.callWith_K (first:=[.ref a]) (h₀:=X.base) I.ok.mod.kin hm.kp (jC (ha.h pos ak s1 σ H1 _ I1 q) fun us s2 kt2 ⟨vs,H2,I2,r,μ2,cZ,ws,l2,r2,y,q2⟩=>⟨I2.kIn,?_⟩) su qe
 exact GM (us:=.ref a::us) (vs:=.ref a::vs) Fo hn hr hb I2 l2.sto r2 (.cons rfl r) y q2⟩
theorem rE{k k':Nat}(Fn:iH X.prog X.w X.K X.mg X.base k c m 1 F)(hr:iL k' X.A)(hk:k<=k')(ho:SE X o fo)
  (ht:eval (.Call (.Attribute o m fH) [] [] pos) X.env=(do
   let ov <- eval o X.env
   standAt fH.atName
   let (f,fst') <- holding [ov] (getMethod ov m pl)
   callWith pos f fst' (backTo pos (starEach [] X.env)) (backToKw pos (keywordEach [] X.env))):=by rfl):SE X (.Call (.Attribute o m fH) [] [] pos) (iP c m 1 F fo aE):=⟨by
 intro ak s σ H Q I h
 obtain⟨C,g,fd,ps,hc,cl,hm,hn,hb,Fo⟩:=(Fn.mono hk).ex
 walk_at "2"
 have h':tE X fo σ H fun x H1=>∃(a dx:Addr) (xs:List (Str×V)),x=.ref a/\H1 a=some (.ins C dx xs)/\xs.lookup m=none/\∃μ2 cZ ws,Rl X μ2 ρ cZ σ H1/\RelWs X.K μ2 H1 ws [.ref a]/\ws.length=1/\RK X (sR X) μ2 σ H1 Q (F ws cZ):=by
  walk_at "1"
  cases e0:nJ st1 x with
  |none=>rw[e0]at h1;exact h1.elim
  |some nk=>
   obtain⟨i,c',fl⟩:=nk
   rw[e0]at h1
   simp only at h1
   obtain⟨rfl,hi,a,C',dx,vs,hma,rfl,hc',hI,rr⟩:=rD l1.sto e0 q1
   by_cases z:c'=c/\fl.lookup m=none
   ·rw[aF z]at h1
    obtain⟨z,hz⟩:=z
    subst z
    rw[hc]at hc';cases hc'
    exact⟨a,dx,_,rfl,hI,(y0 m rr).2 hz,μ1,st1,[.loc i],l1,.consI q1 .nilI,rfl,h1⟩
   ·rw[aO z]at h1;exact h1.elim
 refine PySem.W.methodCall_KW (pl:=pl) (jC (ho.h ak s σ H _ I h') fun u s1 kt1 ⟨x,H1,I1,rx,a,dx,xs,ex,ea,lk,μ2,cZ,ws,l2,r2,y,q2⟩=>?_) ht
 subst ex
 obtain rfl:u=Value.ref a:=rx
 refine vb I1 ea cl hm lk ?_
 exact PySem.W.callWith_K0 (first:=[.ref a]) I1.kIn hm.kp (GM (us:=[.ref a]) (vs:=[.ref a]) Fo hn hr hb I1 l2.sto r2 (.cons rfl .nil) y q2)⟩
structure KG(P:Program)(w:World)(K:Frag)(mg:Str->Option Value)(base:Heap)(k:Nat)(c:Str)(n:Nat)(F:List W->List am->R W):Prop where
 ex:∃(C g:Addr) (fd:FuncData) (ps:List Str),mg c=some (.ref C)/\Mk K C g/\ps.length=n/\qf K fd ps []/\c7 P w K mg base (hZ P w) k g fd ps (iD K mg n F)
def DV(c:Str)(n:Nat)(F:List W->List am->R W)(fs:FA):FE:=fun ρ st=>(fs ρ st).bind fun ws st=>if ws.length+1=n then(match F (.loc st.length::ws) (st++[.obj c []])with
  |.ok .non bp=>.ok (.loc st.length) bp
  |_=>.bad)else .bad
theorem N4{k k':Nat}(Fn:KG X.prog X.w X.K X.mg X.base k c n F)(hr:iL k' X.A)(hk:k+1<=k')(ha:SA X (e::es) fs)(hg:Gl X c:=by rfl)(IS:(c==("__debug__":Str))=false:=by decide)
  (he:starEach (e::es) X.env=(false,eval e X.env)::starEach es X.env:=by rfl) (qe:(backTo pos (starEach es X.env)).any (·.1)=false:=by rfl):SE X (.Call (.Name c p) (e::es) [] pos) (DV c n F fs):=⟨by
 intro ak s σ H Q I h
 obtain⟨C,g,fd,ps,hc,M,hn,hb,Fo⟩:=Fn.ex
 refine fK (uW I hg hc ?_ IS)
 walk_at "2"
 have h':Q5 X fs σ H fun vs H1=>∃μ1 st1 ws cZ,Rl X μ1 ρ st1 σ H1/\RelWs X.K μ1 H1 ws vs/\ws.length+1=n/\F (.loc st1.length::ws) (st1++[.obj c []])=.ok .non cZ/\RK X (sR X) μ1 σ H1 Q (.ok (.loc st1.length) cZ):=by
  walk_at "1"
  by_cases y:x.length+1=n
  ·rw[aF y]at h1
   split at h1
   ·rename_i cZ e2
    exact⟨μ1,st1,x,cZ,l1,q1,y,e2,h1⟩
   ·exact h1.elim
  ·rw[aO y]at h1;exact h1.elim
 refine PySem.W.callWith_K (h₀:=X.base) I.ok.mod.kin M.kp (jC (ha.h pos ak s σ H _ I h') fun us s1 kt1 ⟨vs,H1,I1,r,μ1,st1,ws,cZ,l1,r1,y,e2,q⟩=>⟨I1.kIn,?_⟩) he qe
 refine F0 (dvs:=[]) (ds:=[]) (E:=fun _ _ _=>False) M Fo (hr.mono hk) hb .nil (fun ak σ H s e s' I ht hq=>by obtain⟨_,_,_,_,_,_,z,_⟩:=hq;exact z.elim) I1 r fun x dx hx hdx z9=>?_
 have hs1:uz H1 (f_ H1 dx (.own x)):=dg hdx _
 have hx1:(f_ H1 dx (.own x)) x=none:=by rw[df (Ne.symm z9)];exact hx
 have tX:uz (f_ H1 dx (.own x)) (f_ (f_ H1 dx (.own x)) x (.ins C dx [])):=dg hx1 _
 have xt:fw X.K H1 (f_ (f_ H1 dx (.own x)) x (.ins C dx [])):=(gc.same hs1).trans (gc.same tX)
 have S2:jk X.K X.mg (μ1++[x]) (st1++[.obj c []]) (f_ (f_ H1 dx (.own x)) x (.ins C dx [])):=(l1.sto.same hs1).push (c:=.obj c []) hx1 ⟨C,dx,[],hc,gN,.nilI⟩
 have hmx:(μ1++[x])[st1.length]?=some x:=by rw[l1.sto.len];simp
 refine⟨by rw[bv,bh,<- r1.len];exact y,μ1++[x],.loc st1.length::ws,st1++[.obj c []],S2,.consI (.locI hmx) (by rw[bv];exact r1.mono (be _ _) xt),?_⟩
 rw[e2]
 intro μ' v H' pp xx S' rv
 exact⟨rv.nonE,q μ' (.ref x) H' ((be _ _).trans pp) (xt.trans xx) S' (.locI (L2.pre_get pp hmx))⟩⟩
end
def iQ:Stmt->List Stmt
 |.ClassDef _ _ _ b _ _ _ _ _ _ _=>b
 |_=>[]
inductive DefM(K:Frag)(C:Addr)(q m:Str)(st:Stmt):Prop
 |mk {ad:Addr} {od an:Option Addr} {sl:Array (Option Value)} {oc kV dc pm cd ct:Value} (a:findIn K (.ref C) m=some (some (.ref ad))) (i:isFn K (.ref ad)=true)
   (l:K.lookup ad=some ⟨oc,od,.func (fnOf m q (ii st) (gE st) (aQ st) .none kV dc pm an cd ct),sl⟩) (c:codeIn K cd q=true) (k:keepIn K (.ref ad)=true):DefM K C q m st
section
variable{w:World}{k:Nat}{c q m:Str}{st:Stmt}
theorem lc(d:DefM K C q m st)(hC:mg c=some (.ref C))(cl:Cls K C)(ok:∀{f:Addr} {fd:FuncData},iA K m q st f fd->c7 P w K mg base (hZ P w) k f fd ps (iD K mg n G))(hn:ps.length=n:=by rfl)
  (hb:∀(kV sI pm:Value) (an:Option Addr) (fq ct:Value) (us:List Value),us.length=ps.length->bindArgs (fnOf m q (ii st) (gE st) (aQ st) .none kV sI pm an fq ct) ⟨us,[]⟩=pure (ps.zip us):=by(intro _ _ _ _ _ _ _ q;first|(obtain⟨_,rfl⟩:=Ti q;rfl)|(obtain⟨_,_,rfl⟩:=Tj q;rfl)|(obtain⟨_,_,_,rfl⟩:=Tl q;rfl)|(obtain⟨_,_,_,_,rfl⟩:=Tn q;rfl)|(obtain⟨_,_,_,_,_,rfl⟩:=To q;rfl)|(obtain⟨_,_,_,_,_,_,rfl⟩:=Uu q;rfl))):iH P w K mg base k c m n G:=by
 obtain⟨a,i,l,cc,kk⟩:=d
 exact⟨C,_,_,ps,hC,cl,⟨a,i,kk⟩,hn,qf.all fun us hl=>hb _ _ _ _ _ _ us hl,ok (yH (st:=st) l cc kk)⟩
theorem N5(d:DefM K C q "__init__" st)(hC:mg c=some (.ref C))(mk:makesIn K C=true)(kc:keepIn K (.ref C)=true)(ok:∀{f:Addr} {fd:FuncData},iA K "__init__" q st f fd->c7 P w K mg base (hZ P w) k f fd ps (iD K mg n G))(hn:ps.length=n:=by rfl)
  (hb:∀(kV sI pm:Value) (an:Option Addr) (fq ct:Value) (us:List Value),us.length=ps.length->bindArgs (fnOf "__init__" q (ii st) (gE st) (aQ st) .none kV sI pm an fq ct) ⟨us,[]⟩=pure (ps.zip us):=by(intro _ _ _ _ _ _ _ q;first|(obtain⟨_,rfl⟩:=Ti q;rfl)|(obtain⟨_,_,rfl⟩:=Tj q;rfl)|(obtain⟨_,_,_,rfl⟩:=Tl q;rfl)|(obtain⟨_,_,_,_,rfl⟩:=Tn q;rfl)|(obtain⟨_,_,_,_,_,rfl⟩:=To q;rfl)|(obtain⟨_,_,_,_,_,_,rfl⟩:=Uu q;rfl))):KG P w K mg base k c n G:=by
 obtain⟨a,i,l,cc,kk⟩:=d
 exact⟨C,_,_,ps,hC,⟨mk,a,i,kc⟩,hn,qf.all fun us hl=>hb _ _ _ _ _ _ us hl,ok (yH (st:=st) l cc kk)⟩
end
end L2
namespace L2
open PySem PySem.Spec PyProof.Rows
theorem hG(st x:List am)(k:Nat):(st++x)[st.length+k]?=x[k]?:=by rw[aX #[0]];congr 1;omega
theorem dB(st x:List am):(st++x)[st.length]?=x[0]?:=hG st x 0
theorem mF(st x:List am)(k:Nat)(c:am):(st++x).set (st.length+k) c=st++x.set k c:=by rw[on _ _ #[0]];congr 2;omega
theorem fx(st x:List am)(c:am):(st++x).set st.length c=st++x.set 0 c:=mF st x 0 c
theorem cJ{x:List am}{c:am}(h:st[n]?=some c):(st++x)[n]?=some c:=by
 rw[aL (au.mp h).1];exact h
theorem CA(st:List am)(ws:List W):h_ st st ws=st:=by unfold h_;split<;>simp
theorem tq{st x:List am}{ws:List W}(h:undWs st.length ws=true):h_ st (st++x) ws=st:=by
 unfold h_
 rw[aF ⟨h,by simp,fun i hi=>.inl (aL hi)⟩]
 simp
theorem xV(h:undWs st.length ws=false):h_ st bp ws=bp:=by
 unfold h_
 rw[aO fun k=>by have:=k.1;rw[h]at this;cases this]
theorem jt{N:Nat}{body:FS}{ws:List W}{w:W}(h:body #[11] st=.rt w bp):c9 N body ws st=.ok w (h_ st bp [w]):=by
 unfold c9;rw[h]
theorem pV{w:W}(h:body #[11] st=.rt w st):c9 N body ws st=.ok w st:=by
 rw[jt h,CA]
theorem AL{x:List am}{w:W}(h:body #[11] st=.rt w (st++x))(hu:undWs st.length [w]=true):c9 N body ws st=.ok w st:=by
 rw[jt h,tq hu]
theorem GU{x:List am}{k:Nat}(h:body #[11] st=.rt (.loc (st.length+k)) (st++x)):c9 N body ws st=.ok (.loc (st.length+k)) (st++x):=by
 rw[jt h,xV (by simp[undWs,W.und])]
theorem GV{g g':FS}{ρ':cM}(h:g ρ st=.nx ρ' bp):aK g g' ρ st=g' ρ' bp:=by unfold aK;rw[h]
theorem y6{f:FG}{k:GJ}(h:fi ρ st=.ok k bp):k7 fi f body ρ st=n6 f body k.2 k.1 ρ bp:=by unfold k7;rw[h];rfl
theorem AM{f:FG}{body:FS}{ck:Option (Nat×List W)}(I:Nat->cM->List am->Prop):∀{ws:List W} {ρ:cM} {st:List am} (i0:Nat),I i0 ρ st->(∀i ρ st,I i ρ st->jq st ck) ->
  (∀i w ρ st,ws[i]?=some w->I (i0+i) ρ st->∃ρ' ρ2 cZ,f w ρ=some ρ'/\body ρ' st=.nx ρ2 cZ/\I (i0+i+1) ρ2 cZ) ->
  ∃ρ2 cZ,n6 f body ck ws ρ st=.nx ρ2 cZ/\I (i0+ws.length) ρ2 cZ
 |[],ρ,st,i0,h0,hc,hs=>⟨ρ,st,by unfold n6;rw[aF (hc _ _ _ h0)],h0⟩
 |w::ws,ρ,st,i0,h0,hc,hs=>by
  obtain⟨ρ',ρ2,cZ,e1,e2,h1⟩:=hs 0 w ρ st rfl h0
  obtain⟨ρ3,lZ,e3,h3⟩:=AM I (ws:=ws) (ρ:=ρ2) (st:=cZ) (i0+1) h1 hc fun i w ρ st hw hI=>by
   obtain⟨a,b,c,d,e,g⟩:=hs (i+1) w ρ st (by simpa using hw) (by rw[show i0+(i+1)=i0+1+i by omega];exact hI)
   exact⟨a,b,c,d,e,by rw[show i0+1+i+1=i0+(i+1)+1 by omega];exact g⟩
  refine⟨ρ3,lZ,?_,by rw[bh,show i0+(ws.length+1)=i0+1+ws.length by omega];exact h3⟩
  unfold n6
  rw[aF (hc _ _ _ h0),e1]
  simp only[e2]
  exact e3
theorem E0{t:FT}{g:FS}(I:Nat->cM->List am->Prop):∀(n:Nat) {ρ:cM} {st:List am},I n ρ st ->
  (∀n ρ st,I n ρ st->t ρ st=.ok false st\/(t ρ st=.ok true st/\∃ρ2 cZ m,g ρ st=.nx ρ2 cZ/\m<n/\I m ρ2 cZ)) ->
  ∃m ρ2 cZ,mW t g ρ st=.nx ρ2 cZ/\I m ρ2 cZ/\t ρ2 cZ=.ok false cZ:=by
 intro n ρ st h hs
 have key:∀(k n:Nat) (ρ:cM) (st:List am),n<k->I n ρ st->∃m ρ2 cZ,dD t g k ρ st=.nx ρ2 cZ/\I m ρ2 cZ/\t ρ2 cZ=.ok false cZ:=by
  intro k
  induction k with
  |zero=>intro n _ _ h;exact absurd h (iW _)
  |succ k ih=>
   intro n ρ st hk hI
   rcases hs n ρ st hI with e|⟨e,ρ2,cZ,m,e2,hm,h2⟩
   ·exact⟨n,ρ,st,by unfold dD;rw[e];rfl,hI,e⟩
   ·obtain⟨m',ρ3,lZ,e3,h3⟩:=ih m ρ2 cZ #[0] h2
    exact⟨m',ρ3,lZ,by unfold dD;rw[e];simp only[R.stmt_ok,f7,e2];exact e3,h3⟩
 obtain⟨m,ρ2,cZ,e,h2⟩:=key (n+1) n ρ st (b9 n) h
 exact⟨m,ρ2,cZ,pT e #[15],h2⟩
section
variable{ρ':cM}{cZ lZ Tu:List am}{fb fi:FE}{fs:FA}{u:FT}{x y z w v:W}{xs zs:List W}{m:Nat}{a b k:Bool}{g g':FS}
theorem ju(h:ρ[i]?=some (some w)):ag i ρ st=.ok w st:=by unfold ag;rw[h]
theorem bU:eC w ρ st=.ok w st:=rfl
theorem bw{f:W->W->List am->R W}(h1:fa ρ st=.ok x st1)(h2:fb ρ st1=.ok y cZ)(h3:f x y cZ=.ok z lZ):e2 f fa fb ρ st=.ok z lZ:=by unfold e2;rw[h1];simp only[R.bind_ok];rw[h2];exact h3
theorem aY:aE ρ st=.ok [] st:=rfl
theorem av(h1:fa ρ st=.ok x st1)(h2:fs ρ st1=.ok xs cZ):ah fa fs ρ st=.ok (x::xs) cZ:=by unfold ah;rw[h1];simp only[R.bind_ok];rw[h2];rfl
theorem N6:Q_ ls ρ st=.ok (ls.map W.str) st:=rfl
theorem eX(h1:fs ρ st=.ok ws st1)(h2:ws.length<=mB):gg fs ρ st=.ok (.tup ws) st1:=by unfold gg;rw[h1];simp only[R.bind_ok,qj];rw[aF h2]
theorem nK(h1:fs ρ st=.ok ws st1)(h2:ws.length<=mB):ki fs ρ st=.ok (.loc st1.length) (st1++[.lst ws]):=by unfold ki;rw[h1];simp only[R.bind_ok,qk];rw[aF h2]
theorem cu(h1:fs ρ st=.ok ws st1)(h2:F ws st1=.ok w cZ):bG F fs ρ st=.ok w cZ:=by unfold bG;rw[h1];exact h2
theorem cw(h1:fs ρ st=.ok ws st1)(h2:F ws st1=.ok w cZ)(hn:ws.length=n):cq n F fs ρ st=.ok w cZ:=by unfold cq;rw[h1];simp only[R.bind_ok];rw[aF hn];exact h2
theorem aZ(h:fa ρ st=.ok (.bl k) st1):eG fa ρ st=.ok k st1:=by unfold eG;rw[h];rfl
theorem DW(h1:t ρ st=.ok true st1)(h2:u ρ st1=.ok k cZ):Q7 t u ρ st=.ok k cZ:=by unfold Q7;rw[h1];exact h2
theorem DY(h1:t ρ st=.ok false st1):Q7 t u ρ st=.ok false st1:=by unfold Q7;rw[h1];rfl
theorem mX(h1:t ρ st=.ok false st1)(h2:u ρ st1=.ok k cZ):Ju t u ρ st=.ok k cZ:=by unfold Ju;rw[h1];exact h2
theorem y7(h1:t ρ st=.ok true st1):Ju t u ρ st=.ok true st1:=by unfold Ju;rw[h1];rfl
theorem xW(h1:t ρ st=.ok a st1)(h2:(!a)=k):Fw t ρ st=.ok k st1:=by unfold Fw;rw[h1,<- h2];rfl
theorem u3(h1:fa ρ st=.ok (.bl true) st1)(h2:fb ρ st1=.ok w cZ):Cp fa fb ρ st=.ok w cZ:=by unfold Cp;rw[h1];exact h2
theorem Ru(h1:fa ρ st=.ok (.bl a) st1)(h2:(!a)=k):Kj fa ρ st=.ok (.bl k) st1:=by unfold Kj;rw[h1,<- h2];rfl
theorem uj(h1:t ρ st=.ok true st1)(h2:fa ρ st1=.ok w cZ):Gz t fa fb ρ st=.ok w cZ:=by unfold Gz;rw[h1];exact h2
theorem uk(h1:t ρ st=.ok false st1)(h2:fb ρ st1=.ok w cZ):Gz t fa fb ρ st=.ok w cZ:=by unfold Gz;rw[h1];exact h2
theorem ik{F:W->List W->List am->R W}(h1:fo ρ st=.ok x st1)(hl:k8 st1 x=true)(h2:fs ρ st1=.ok ws cZ)(h3:F x ws cZ=.ok w lZ):k9 F fo fs ρ st=.ok w lZ:=by unfold k9;rw[h1];simp only[R.bind_ok];rw[aF hl,h2];exact h3
theorem KH{F:W->List W->List am->R W}(h1:fo ρ st=.ok x st1)(hl:xO x=true)(h2:fs ρ st1=.ok ws cZ)(h3:F x ws cZ=.ok w lZ):Jw F fo fs ρ st=.ok w lZ:=by unfold Jw;rw[h1];simp only[R.bind_ok];rw[aF hl,h2];exact h3
theorem du(h:st[n]?=some (.lst ws)):k8 st (.loc n)=true:=by simp only[k8,h]
theorem rF{q:Int}(h:fa ρ st=.ok (.int q) st1):oK fa ρ st=.ok (.int (-q)) st1:=by unfold oK;rw[h];rfl
theorem Rv{c:String}(h:fa ρ st=.ok x st1)(hx:x.ty=some c)(hk:Ks c T=k):vH T fa ρ st=.ok (.bl k) st1:=by unfold vH;rw[h];simp only[R.bind_ok,hx,hk]
theorem AN(h:fa ρ st=.ok x st1)(hk:x.isNon=k):yQ fa ρ st=.ok (.bl k) st1:=by unfold yQ;rw[h,<- hk];rfl
theorem dX(h:fa ρ st=.ok x st1)(hk:(!x.isNon)=k):gA fa ρ st=.ok (.bl k) st1:=by unfold gA;rw[h,<- hk];rfl
theorem tt:gO ρ st=.ok none st:=rfl
theorem mG{q:Int}(h:fa ρ st=.ok (.int q) st1):eW fa ρ st=.ok (some q) st1:=by unfold eW;rw[h];rfl
theorem mH{fl fh:FO}{l h:Option Int}(h1:fa ρ st=.ok x st1)(h2:fl ρ st1=.ok l cZ)(h3:fh ρ cZ=.ok h lZ)(h4:wP x l h lZ=.ok w Tu):qD fa fl fh ρ st=.ok w Tu:=by unfold qD;rw[h1];simp only[R.bind_ok];rw[h2];simp only[R.bind_ok];rw[h3];exact h4
theorem a_(h:fe ρ st=.ok w st1):ba i fe ρ st=.nx (ρ.set i (some w)) st1:=by unfold ba;rw[h];rfl
theorem d7(h:fe ρ st=.ok w st1):c6 fe ρ st=.nx ρ st1:=by unfold c6;rw[h];rfl
theorem oN(h:fe ρ st=.ok w st1):cS fe ρ st=.rt w st1:=by unfold cS;rw[h];rfl
theorem AO{f:W->W->W->List am->Option (List am)}(h1:fe ρ st=.ok v st1)(h2:fo ρ st1=.ok x cZ)(h3:fi ρ cZ=.ok y lZ)(h4:f x y v lZ=some Tu):wY fo fi fe f ρ st=.nx ρ Tu:=by
 unfold wY;rw[h1];simp only[R.stmt_ok];rw[h2];simp only[R.stmt_ok];rw[h3];simp only[R.stmt_ok];rw[h4]
theorem cN{r:RS}(h1:t ρ st=.ok true st1)(h2:g ρ st1=r):fO t g g' ρ st=r:=by unfold fO;rw[h1];exact h2
theorem cG{r:RS}(h1:t ρ st=.ok false st1)(h2:g' ρ st1=r):fO t g g' ρ st=r:=by unfold fO;rw[h1];exact h2
theorem d8:bM ρ st=.nx ρ st:=rfl
theorem bS{r:RS}(h:g ρ st=.nx ρ' st1)(h2:g' ρ' st1=r):aK g g' ρ st=r:=by rw[GV h];exact h2
theorem mh(h:g ρ st=.rt w st1):aK g g' ρ st=.rt w st1:=by unfold aK;rw[h]
theorem dY{p q:Int}:cQ (.int p) (.int q) st=.ok (.int (p+q)) st:=rfl
theorem CB{p q:List Nat}(h:p.length+q.length<=mB):cQ (.str p) (.str q) st=.ok (.str (p++q)) st:=by simp only[cQ];rw[aF h]
theorem jv{C:Int->Int->Prop}[∀i j,Decidable (C i j)]{f:Int->Int->Int}{p q:Int}(h:C p q):ES C f (.int p) (.int q) st=.ok (.int (f p q)) st:=by simp only[ES];rw[aF h]
theorem qI{p q:Int}(h:NK p q):iE (.int p) (.int q) st=.ok (.int (p*q)) st:=by simp only[iE];rw[aF h]
theorem nL{f:Int->Int->Bool}{p q:Int}(h:f p q=k):ET f (.int p) (.int q) st=.ok (.bl k) st:=by rw[<- h];rfl
theorem GW{p q:Int}(h:decide (p<=q)=k):Ur (.int p) (.int q) st=.ok (.bl k) st:=by rw[<- h];rfl
theorem fX{p q:Int}(h:(p==q)=k):iC (.int p) (.int q) st=.ok (.bl k) st:=by rw[<- h];rfl
theorem Rw{p q:Int}(h:(!(p==q))=k):Jv (.int p) (.int q) st=.ok (.bl k) st:=by rw[<- h];rfl
theorem dC{p q:List Nat}(h:(p==q)=k):iC (.str p) (.str q) st=.ok (.bl k) st:=by rw[<- h];rfl
theorem mI{q:Int}(h:sO ws q=some w):bj (.tup ws) (.int q) st=.ok w st:=by unfold bj;simp only[h,eV]
theorem kv(h:ρ[i]?=some (some w):=by rfl):ag i ρ st=.ok w st:=ju h
theorem ox{q:Int}(h:sO ws q=some w:=by rfl):bj (.tup ws) (.int q) st=.ok w st:=mI h
theorem kn(h:ρ[i]?=some (some w):=by rfl):ah (ag i) aE ρ st=.ok [w] st:=av (ju h) aY
theorem kx{q:Int}(h:ρ[i]?=some (some (.tup ws)):=by rfl)(h2:sO ws q=some w:=by rfl):e2 bj (ag i) (eC (.int q)) ρ st=.ok w st:=bw (ju h) bU (mI h2)
theorem GX{q:Int}{c:Nat}(hl:l.length<=mB)(h:sO l q=some c):bj (.str l) (.int q) st=.ok (.str [c]) st:=by unfold bj;simp only[h,eV];rw[aF hl]
theorem jG{q:Int}(hl:lstOf st n=some ws)(h:sO ws q=some w):bj (.loc n) (.int q) st=.ok w st:=by unfold bj;simp only[hl,h,eV]
theorem CC:dG [.tup ws] st=.ok (.int ws.length) st:=rfl
theorem y8(h:l.length<=mB):dG [.str l] st=.ok (.int l.length) st:=by unfold dG;simp only;rw[aF h]
theorem lg(hl:lstOf st n=some ws):dG [.loc n] st=.ok (.int ws.length) st:=by unfold dG;simp only[hl,eV]
theorem b8(h:st[n]?=some (.lst ws)):lstOf st n=some ws:=by unfold lstOf;rw[h]
theorem rG(h:st[n]?=some (.ro ws)):lstOf st n=some ws:=by unfold lstOf;rw[h]
theorem nM(h:st[n]?=some (.lst ws))(hl:ws.length<mB):bW (.loc n) [y] st=.ok .non (st.set n (.lst (ws++[y]))):=by unfold bW;simp only[h];rw[aF hl]
theorem vM(h:st[n]?=some (.lst (ws++[y]))):mE (.loc n) [] st=.ok y (st.set n (.lst ws)):=by unfold mE;simp only[h];simp
theorem N7{q:Int}(h:st[n]?=some (.lst ws))(hi:Dt ws.length q=some j):ql (.loc n) (.int q) v st=some (st.set n (.lst (ws.set j v))):=by unfold ql;simp only[h,hi];rfl
theorem CD{sep:List Nat}(h:lstOf st n=some (ls.map W.str))(hl:(ls.map List.length).sum+ls.length*sep.length<=mB):nI (.str sep) [.loc n] st=.ok (.str (kZ sep ls)) st:=by
 unfold nI;simp only[h,eV,xP];rw[aF hl]
theorem Rx{l h:Option Int}(hl:lstOf st n=some ws):wP (.loc n) l h st=.ok #[5] (st++[.lst (jp ws l h)]):=by unfold wP;simp only[hl,eV]
theorem GY{l h:Option Int}{z:List Nat}(hl:z.length<=mB):wP (.str z) l h st=.ok (.str (jp z l h)) st:=by unfold wP;simp only;rw[aF hl]
theorem AQ{l h:Option Int}:wP (.tup ws) l h st=.ok (.tup (jp ws l h)) st:=rfl
theorem u4(h:fe ρ st=.ok (.tup ws) st1):gB fe ρ st=.ok (ws,none) st1:=by unfold gB;rw[h];rfl
theorem y9(h:fe ρ st=.ok (.loc n) st1)(hl:lstOf st1 n=some ws):gB fe ρ st=.ok (ws,some (n,ws)) st1:=by unfold gB;rw[h];simp only[R.bind_ok,hl]
theorem jw{q:Int}(h:fs ρ st=.ok [.int q] st1)(hq:-(2^62)<=q/\q<2^62):dP fs ρ st=.ok (gF 0 q.toNat,none) st1:=by unfold dP;rw[h];simp only[R.bind_ok];rw[aF hq]
theorem y_{l:List W}{q:Nat}(h:l.reverse[q]?=some x):sO l (-((q:Int)+1))=some x:=by
 have hq:q<l.length:=by have:=(au.mp h).1;simpa using this
 unfold sO Dt
 rw[aO #[0],aF #[0]]
 rw[jJ hq]at h
 simp only[Option.bind_some]
 rw[show((-((q:Int)+1))+(l.length:Int)).toNat=l.length-1-q by omega]
 exact h
theorem ga{l:List α}{q:Nat}{x:α}(h:l[q]?=some x):sO l (q:Int)=some x:=by
 have hq:q<l.length:=(au.mp h).1
 unfold sO Dt
 rw[aF #[0],aF #[0]]
 simpa using h
def j8(P:RS->Prop)(r:RS):Prop:=P r
def KI(I:cM->List am->Prop):RS->Prop:=fun r=>∃ρ st,r=.nx ρ st/\I ρ st
def zZ(I:W->List am->Prop):RS->Prop:=fun r=>∃w st,r=.rt w st/\I w st
variable{P:RS->Prop}{iF:FS}
theorem dv{r r':RS}(h:r=r')(h2:P r'):j8 P r:=by rw[h];exact h2
theorem aA(h:g ρ st=.nx ρ' st1)(h2:j8 P (g' ρ' st1)):j8 P (aK g g' ρ st):=by rw[GV h];exact h2
theorem oO(h1:t ρ st=.ok true st1)(h2:j8 P (g ρ st1)):j8 P (fO t g g' ρ st):=by rw[cN h1 rfl];exact h2
theorem oP(h1:t ρ st=.ok false st1)(h2:j8 P (g' ρ st1)):j8 P (fO t g g' ρ st):=by rw[cG h1 rfl];exact h2
theorem eO(h1:t ρ st=.ok true st1)(h2:j8 P (aK g iF ρ st1)):j8 P (aK (fO t g g') iF ρ st):=by
 unfold aK at h2 ⊢;rw[cN h1 rfl];exact h2
theorem bD(h1:t ρ st=.ok false st1)(h2:j8 P (aK g' iF ρ st1)):j8 P (aK (fO t g g') iF ρ st):=by
 unfold aK at h2 ⊢;rw[cG h1 rfl];exact h2
theorem pW{h:FS}(h2:j8 P (aK g (aK g' h) ρ st)):j8 P (aK (aK g g') h ρ st):=by
 unfold aK at h2 ⊢
 cases e:g ρ st<;>simp only[e]at h2 ⊢ <;> exact h2
theorem b6(h2:j8 P (iF ρ st)):j8 P (aK bM iF ρ st):=h2
theorem bO(h:fe ρ st=.ok w st1)(h2:P (.rt w st1)):j8 P (cS fe ρ st):=by rw[oN h];exact h2
theorem dF(h:fe ρ st=.ok w st1)(h2:P (.rt w st1)):j8 P (aK (cS fe) iF ρ st):=by rw[mh (oN h)];exact h2
theorem gi{fi:FI}{f:FG}{k:GJ}(I:Nat->cM->List am->Prop)(h:fi ρ st=.ok k st1)(h0:I 0 ρ st1)(hc:∀i ρ st,I i ρ st->jq st k.2)
  (hs:∀i w ρ st,k.1[i]?=some w->I i ρ st->∃ρ',f w ρ=some ρ'/\j8 (KI (I (i+1))) (body ρ' st)) (he:∀ρ st,I k.1.length ρ st->j8 P (iF ρ st)):j8 P (aK (k7 fi f body) iF ρ st):=by
 obtain⟨ρ2,cZ,e,h2⟩:=AM (f:=f) (body:=body) (ck:=k.2) I (ws:=k.1) (ρ:=ρ) (st:=st1) 0 h0 hc fun i w ρ st hw hI=>by
  rw[iz]at hI ⊢
  obtain⟨ρ',e1,ρ2,cZ,e2,h2⟩:=hs i w ρ st hw hI
  exact⟨ρ',ρ2,cZ,e1,e2,h2⟩
 rw[iz]at h2
 exact aA (by rw[y6 h];exact e) (he _ _ h2)
theorem E1(I:Nat->cM->List am->Prop)(n:Nat)(h0:I n ρ st)
  (hs:∀n ρ st,I n ρ st->t ρ st=.ok false st\/(t ρ st=.ok true st/\j8 (KI fun ρ2 cZ=>∃m,m<n/\I m ρ2 cZ) (body ρ st))) (he:∀m ρ st,I m ρ st->t ρ st=.ok false st->j8 P (iF ρ st)):j8 P (aK (mW t body) iF ρ st):=by
 obtain⟨m,ρ2,cZ,e,h2,h3⟩:=E0 (t:=t) (g:=body) I n h0 fun n ρ st hI=>by
  rcases hs n ρ st hI with e|⟨e,ρ2,cZ,e2,m,hm,h2⟩
  ·exact .inl e
  ·exact .inr ⟨e,ρ2,cZ,m,e2,hm,h2⟩
 exact aA e (he _ _ _ h2 h3)
theorem rH{Q:W->Prop}(h:j8 (zZ fun w bp=>(∃x,bp=st++x)/\undWs st.length [w]=true/\Q w) (body #[11] st)):∃w,Q w/\c9 N body ws st=.ok w st:=by
 obtain⟨w,bp,e,⟨x,rfl⟩,hu,q⟩:=h
 exact⟨w,q,AL e hu⟩
theorem fE{N:Nat}{body:FS}(h:j8 (zZ fun w' bp=>w'=w/\∃x,bp=st++x) (body #[11] st))(hu:undWs st.length [w]=true):c9 N body ws st=.ok w st:=by
 obtain⟨w,bp,e,rfl,x,rfl⟩:=h
 exact AL e hu
theorem rJ{Q:Nat->List am->Prop}(h:j8 (zZ fun w bp=>∃j x,w=.loc (st.length+j)/\bp=st++x/\Q j x) (body #[11] st)):∃j x,Q j x/\c9 N body ws st=.ok (.loc (st.length+j)) (st++x):=by
 obtain⟨w,bp,e,j,x,rfl,rfl,q⟩:=h
 exact⟨j,x,q,GU e⟩
theorem jM{lo:Int}(h:(gF lo q)[i]?=some w):i<q/\w=.int (lo+i):=by
 unfold gF at h
 obtain⟨h1,h2⟩:=au.mp h
 simp only[aD,List.length_range]at h1
 exact⟨h1,by rw[<- h2];simp⟩
theorem mY{l:List α}{q:Nat}(h:q<=l.length):jp l none (some (q:Int))=l.take q:=by
 unfold jp;rw[HT.sIx_none,HT.sIx_nat,gR h];simp
theorem rK{l:List α}(h:q<=l.length):jp l (some (q:Int)) none=l.drop q:=by
 unfold jp;rw[HT.sIx_none,HT.sIx_nat,gR h];rw[bB #[15]]
theorem iR{q:Int}{n:Nat}(h:0<n):∃m:Nat,m<n/\q%(n:Int)=m:=by
 have h0:0<=q%(n:Int):=iY _ #[0]
 have h1:q%(n:Int)<n:=lJ _ #[0]
 exact⟨(q%(n:Int)).toNat,by omega,by omega⟩
end
section
variable{u:FT}{a b k:Bool}{P:RS->Prop}{g g' iF:FS}{w:W}
theorem N8(h1:t ρ st=.ok a st)(h2:u ρ st=.ok b st):Q7 t u ρ st=.ok (a&&b) st:=by cases a;exact DY h1;exact DW h1 h2
theorem GZ(h1:t ρ st=.ok a st)(h2:u ρ st=.ok b st):Ju t u ρ st=.ok (a||b) st:=by cases a;exact mX h1 h2;exact y7 h1
theorem N9(h1:t ρ st=.ok a st):Fw t ρ st=.ok (!a) st:=xW h1 rfl
theorem dQ(h:j8 (zZ fun w' bp=>w'=w/\bp=st) (body #[11] st)):c9 N body ws st=.ok w st:=by
 obtain⟨w,bp,e,rfl,rfl⟩:=h
 exact pV e
end
end L2
open L2
local macro_rules | `(tactic| walk_at "ev1") => `(tactic| first
 | (with_reducible apply ju) <;> rfl
 | (with_reducible apply mI) <;> rfl
 | with_reducible first
  | exact bU | exact aY | exact N6 | exact tt | exact dY | exact CC | exact d8 | exact AQ
  | apply bw | apply av | apply eX | apply nK | apply cu | apply cw | apply aZ | apply xW | apply Ru
  | apply ik | apply KH | apply rF | apply Rv | apply AN | apply dX | apply mG | apply mH | apply a_ | apply d7 | apply oN | apply AO
  | apply jv | apply qI | apply nL | apply GW | apply fX | apply Rw | apply dC | apply CB
 | decide
 | (show List.length _ <= mB; exact aq rfl)
 | (show @Eq Nat _ _; exact rfl)
 | (show @Eq Bool _ _; exact rfl)
 | (show @Eq (Option String) _ _; exact rfl)
 | (show @Eq _ _ _; with_reducible assumption))
local macro_rules | `(tactic| walk_at "evs") => `(tactic| repeat' walk_at "ev1")
local macro_rules | `(tactic| walk_at "tst") => `(tactic| first
 | (walk_at "evs"; done)
 | (apply DY; (focus walk_at "tst"); done)
 | (apply DW; (focus walk_at "tst"); (focus walk_at "tst"); done)
 | (apply y7; (focus walk_at "tst"); done)
 | (apply mX; (focus walk_at "tst"); (focus walk_at "tst"); done))
local macro_rules | `(tactic| walk_at "go1") => `(tactic| first
 | apply b6
 | (apply dF; (focus (walk_at "evs"; done)))
 | (apply bO; (focus (walk_at "evs"; done)))
 | (apply eO; (focus walk_at "tst"))
 | (apply bD; (focus walk_at "tst"))
 | (apply oO; (focus walk_at "tst"))
 | (apply oP; (focus walk_at "tst"))
 | (apply aA; (focus (walk_at "evs"; done))))
local macro_rules | `(tactic| walk_at "go") => `(tactic| repeat walk_at "go1")
local macro_rules | `(tactic| walk_at "tb") => `(tactic| repeat' (first | with_reducible apply N8 | with_reducible apply GZ | with_reducible apply N9 | walk_at "ev1"))
local macro_rules | `(tactic| walk_at "len") => `(tactic| (simp only [ai, bh, kG]; show _ <= 1000000; omega))
namespace L2
open PySem PySem.Spec PyProof.Rows
section
variable{ρ' ρ2:cM}{cZ:List am}{fs:FA}{g gh iF:FS}{w:W}{c:Str}{cs:List Str}{P:RS->Prop}{b:Bool}
def Vv(c:Str)(I:List am->Prop):RS->Prop:=fun r=>∃ρ st,r=.ex c ρ st/\I st
theorem pX{N:Nat}{body:FS}(h:j8 (Vv c fun bp=>∃x,bp=st++x) (body #[11] st)):c9 N body ws st=.ex c st:=by
 obtain⟨ρ,bp,e,x,rfl⟩:=h
 unfold c9
 rw[e]
 simp only[tq (st:=st) (x:=x) (ws:=[]) rfl]
theorem AR{N:Nat}{body:FS}(h:j8 (KI fun _ bp=>∃x,bp=st++x) (body #[11] st)):c9 N body ws st=.ok .non st:=by
 obtain⟨ρ,bp,e,x,rfl⟩:=h
 unfold c9
 rw[e]
 simp only[tq (st:=st) (x:=x) (ws:=[]) rfl]
theorem tu(h:P (.ex c ρ st)):j8 P (tm c ρ st):=h
theorem rL(h1:fs ρ st=.ok ws st1)(h2:F ws st1=.ex c cZ)(hn:ws.length=n):cq n F fs ρ st=.ex c cZ:=by unfold cq;rw[h1];simp only[R.bind_ok];rw[aF hn];exact h2
theorem AS(h:fe ρ st=.ex c st1):ba i fe ρ st=.ex c ρ st1:=by unfold ba;rw[h];rfl
theorem xX(h:fe ρ st=.ex c st1):c6 fe ρ st=.ex c ρ st1:=by unfold c6;rw[h];rfl
theorem mZ(h:g ρ st=.ex c ρ' st1)(h2:P (.ex c ρ' st1)):j8 P (aK g iF ρ st):=by unfold aK;rw[h];exact h2
theorem Ry{p q:Bool}(h:(p==q)=b):iC (.bl p) (.bl q) st=.ok (.bl b) st:=by rw[<- h];rfl
theorem u5(I:cM->List am->Prop)(h:j8 (KI I) (g ρ st))(h2:∀ρ st,I ρ st->j8 P (iF ρ st)):j8 P (aK g iF ρ st):=by
 obtain⟨ρ',bp,e,hi⟩:=h
 exact aA e (h2 _ _ hi)
end
section
variable{f:FG}
theorem AT{ρ0:cM}(hc:jq st ck)(T:W->Bool)(Y:W->W):∀(ws iT:List W),(∀w∈ws,∃ρ',f w ρ0=some ρ'/\t ρ' st=.ok (T w) st/\(T w=true->el ρ' st=.ok (Y w) st)) ->
  rj f t el ck ρ0 ws iT st=.ok (iT++(ws.filter T).map Y) st
 |[],iT,_=>by unfold rj;rw[aF hc];simp
 |w::ws,iT,h=>by
  obtain⟨ρ',e1,e2,e3⟩:=h w #[15]
  have ih:=fun iT=>AT hc T Y ws iT fun w' hw'=>h w' (by simp[hw'])
  unfold rj
  rw[aF hc,e1]
  simp only[e2]
  cases hT:T w with
  |true=>
   simp only[e3 hT]
   rw[ih]
   simp[List.filter_cons,hT]
  |false=>
   simp only
   rw[ih]
   simp[List.filter_cons,hT]
theorem CF(T:W->Bool)(Y:W->W)(h:fi ρ st=.ok (ws,ck) st1)(hl:ws.length<=mB)(hc:jq st1 ck)
  (hs:∀w∈ws,∃ρ',f w (s_ cap ρ)=some ρ'/\t ρ' st1=.ok (T w) st1/\(T w=true->el ρ' st1=.ok (Y w) st1)):j6 cap fi f t el ρ st=.ok (.loc st1.length) (st1++[.lst ((ws.filter T).map Y)]):=by
 unfold j6
 rw[h]
 simp only[R.bind_ok]
 rw[aF hl,AT hc T Y ws [] hs]
 simp only[R.bind_ok,eJ,qk]
 rw[aF]
 rw[aD]
 exact aN (jK _ _) hl
theorem DZ(Y:W->W)(h:fi ρ st=.ok (ws,ck) st1)(hl:ws.length<=mB)(hc:jq st1 ck)
  (hs:∀w∈ws,∃ρ',f w (s_ cap ρ)=some ρ'/\el ρ' st1=.ok (Y w) st1):j6 cap fi f wZ el ρ st=.ok (.loc st1.length) (st1++[.lst (ws.map Y)]):=by
 have:=CF (fi:=fi) (f:=f) (t:=wZ) (el:=el) (cap:=cap) (fun _=>true) Y h hl hc fun w hw=>by
  obtain⟨ρ',e1,e2⟩:=hs w hw
  exact⟨ρ',e1,rfl,fun _=>e2⟩
 rw[kN.mpr (fun _ _=>rfl)]at this
 exact this
theorem xY{lo:Int}{w:W}(h:w∈gF lo q):∃i:Nat,i<q/\w=.int (lo+i):=by
 unfold gF at h
 obtain⟨i,hi,rfl⟩:=c5.mp h
 exact⟨i,lr.mp hi,rfl⟩
theorem oQ(h:lstOf st n=some ws):i8 [.loc n] st=.ok (.tup ws) st:=by unfold i8;simp only[h,eV]
theorem G0{xs:List W}(h:(ws++xs).length<=mB):cQ (.tup ws) (.tup xs) st=.ok (.tup (ws++xs)) st:=by simp only[cQ,qj];rw[aF h]
theorem Rz{p q:Int}:Cr [.int p,.int q] st=.ok (.int (if q>p then q else p)) st:=rfl
theorem G1{l:List α}(hj:j<=l.length)(hi:i<=j):jp l (some (i:Int)) (some (j:Int))=(l.drop i).take (j-i):=by
 unfold jp;rw[HT.sIx_nat,HT.sIx_nat,gR hj,gR #[0]]
theorem G3{l:List α}:jp l none (some (-1))=l.dropLast:=by
 unfold jp
 rw[HT.sIx_none]
 have:HT.sIx l.length l.length (some (-1))=l.length-1:=by
  show(if (-1:Int)<0 then(-1+(l.length:Int)).toNat else min (-1:Int).toNat l.length)=_
  rw[aF #[0]]
  omega
 rw[this,oo];simp
end
open Builtin Builtin.Str
theorem xZ{c:Nat}:∀ws:List (List Nat),(∀w∈ws,c∉w)->(kZ [c] ws).filter (fun d=>d != c)=ws.flatten
 |[],_=>rfl
 |[x],h=>by
  have hx:c∉x:=h x #[15]
  show x.filter _=_
  rw[kN.mpr fun d hd=>by simp;rintro rfl;exact hx hd]
  simp
 |x::y::r,h=>by
  have hx:c∉x:=h x #[15]
  show(x++[c]++kZ [c] (y::r)).filter _=_
  rw[List.filter_append,List.filter_append,xZ (y::r) fun w hw=>h w (aS _ hw),kN.mpr fun d hd=>by simp;rintro rfl;exact hx hd]
  simp
theorem KJ(l:List Nat)(c:Nat):Txt.replace (tx l) (tx [c]) (tx [])=tx (l.filter fun d=>d != c):=by
 obtain⟨f,hg,hfree⟩:=StrLaws.occ_tight (tx l) (tx [c]) (by simp[tx,Str.length])
 obtain⟨f',hc⟩:=StrLaws.occ_chain (tx l) (tx [c]) ((tx l).length+1)
 have pf:=StrLaws.parts_free (tx l) c _ 0 f hg hfree
 have pj:=StrLaws.join_partsFrom (tx l) (tx [c]) _ 0 f' hc
 rw[StrLaws.sub_whole]at pj
 unfold Txt.replace
 rw[StrLaws.partsBetween_eq]
 have pe:(occurrences (tx l) (tx [c]) 0 (tx l).length ((tx l).length+1)).isEmpty=true->StrLaws.partsFrom (tx l) (tx [c]).length 0 (occurrences (tx l) (tx [c]) 0 (tx l).length ((tx l).length+1))=[tx l]:=fun h=>by
  rw[List.isEmpty_iff.mp h]
  show[strSub (tx l) 0 (tx l).length]=_
  rw[StrLaws.sub_whole]
 generalize occurrences (tx l) (tx [c]) 0 (tx l).length ((tx l).length+1)=os at pf pj pe ⊢
 have pf:∀p∈StrLaws.partsFrom (tx l) (tx [c]).length 0 os,c∉p.cps.toList:=pf
 generalize StrLaws.partsFrom (tx l) (tx [c]).length 0 os=ps at pf pj pe ⊢
 have em:ps=(ps.map fun z=>z.cps.toList).map tx:=by
  rw[cf]
  conv=>lhs;rw[<- jh ps]
  exact eY fun z _=>(QO z).symm
 have fr:∀w∈ps.map (fun z=>z.cps.toList),c∉w:=fun w hw=>by
  obtain⟨p,hp,rfl⟩:=c5.mp hw
  exact pf p hp
 generalize ps.map (fun z=>z.cps.toList)=ws at em fr
 subst em
 have ej:∀sep:List Nat,Str.join (tx sep) (ws.map tx)=tx (kZ sep ws):=fun sep=>by
  rw[<- DA sep ws]
  show _=glued _ _
  rw[g9]
 rw[ej]at pj
 have el:kZ [c] ws=l:=yK.mp pj
 have hfl:=xZ ws fr
 rw[el]at hfl
 split
 ·rename_i h
  rw[show((tx [c]).length==0&&(tx []).length==0)=false from rfl,mv]at h
  have e1:=pe h
  have:ws.flatten=l:=by
   have e2:ws=[l]:=by
    cases ws with
    |nil=>cases e1
    |cons a r=>
     cases r with
     |nil=>simp only[a9,sA,List.cons.injEq,and_true]at e1;rw[yK.mp e1]
     |cons _ _=>simp at e1
   rw[e2];simp
  rw[hfl,this]
 ·rw[g9,ej,mD,hfl]
section
variable{to:TE}
def RA(to te:TE):TE:=fun σ H Q=>to σ H fun x H1=>(∃l,x=.str (tx l))/\te σ H1 fun y H2=>∃l c,x=.str (tx l)/\y=.str (tx [c])/\l.length<=1000000/\Q (.str (tx (l.filter fun d=>d != c))) H2
theorem KL(ho:PE X o to)(he:PE X e te)
  (j9:attributeBase o "replace" X.env (eval o X.env)=eval o X.env)
  (qV:((backTo dH (starEach [e,.Constant (.str (tx [])) j p2] X.env)).all (fun x=>!x.1)&&(backToKw dH (keywordEach [] X.env)).all (fun x=>x.1.isSome)
   && decide ([e,.Constant (.str (tx [])) j p2].length+([]:List Keyword).length+(if ([]:List Keyword).isEmpty then 0 else 1)<30))=true)
  (j_:(fH.endLine==dH.line)=true) (hs:starEach [e,.Constant (.str (tx [])) j p2] X.env=(false,eval e X.env)::starEach [.Constant (.str (tx [])) j p2] X.env) :
  PE X (.Call (.Attribute o "replace" fH) [e,.Constant (.str (tx [])) j p2] [] dH) (RA to te):=by
 intro ak s σ H Q I h
 refine nD j9 qV j_ rfl (jC (ho ak s σ H _ I h) fun v s1 kt1 zq=>?_)
 obtain⟨x,H1,I1,r1,ty,q1⟩:=zq
 obtain⟨h1,h2⟩:=Ca I1 r1 (DB ty)
 refine⟨"str",_,F.plainAttrs_str,F.slot_str_replace,F.type_str_replace,h1,h2,?_⟩
 rw[hs]
 refine gK rfl (ie ?_)
 show wpAny _ _ (spliced ((false,eval e X.env)::backTo dH (starEach [.Constant (.str (tx [])) j p2] X.env))) _ _ s1
 refine eR (jC (he ak s1 σ H1 _ I1 q1) fun u s2 kt2 zq=>?_)
 obtain⟨y,H2,I2,r2,l,c,ex,ey,hl,q2⟩:=zq
 subst ex ey
 obtain⟨t,rfl⟩:=r1.up kt2
 obtain⟨t2,rfl⟩:=r2
 show wpAny _ _ (spliced ((false,eval (.Constant (.str (tx [])) j p2) X.env)::backTo dH (starEach [] X.env))) _ _ s2
 refine eR (Calls.Constant_str ?_)
 show wpAny _ _ (spliced []) _ _ _
 refine f6 ?_
 obtain⟨p1,p2⟩:=t2.2 rfl
 have n1:t2.1≠0:=et p1
 have n2:s2.toks≠0:=et I2.pos
 have n3:t2.1≠s2.toks:=bf p2
 have e0:(tx []).length=0:=rfl
 have e1:(1000000:Nat)<=sizeLine:=by decide
 refine call_gives F.slot_str_replace (lF _ _ _) F.entry_str_replace (F.args_str_replace_3 _ _ _)
  (gives_str_replace (tx l) (tx [c]) (tx []) t.1 t2.1 s2.toks fun _=>⟨by simp[n1,n2],by simp[n3],rfl,?_⟩) ?_
 ·rw[e0,Nat.mul_zero,sB,i6]
  unfold tooLong
  exact aV #[0]
 ·have hq:=KJ l c
  unfold Txt.replace at hq
  cases hc:((occurrences (tx l) (tx [c]) 0 (tx l).length ((tx l).length+1)).isEmpty||((tx [c]).length==0&&(tx []).length==0))
  ·rw[hc]at hq
   simp only[fJ,ke]at hq ⊢
   rw[hq]
   have I3:=I2.tok (s2.toks+1)
   refine⟨?_,⟨.str _,H2,I3.tok _,I3.tkS,q2⟩⟩
   rw[i6]
   exact aN (jK _ _) (aN hl e1)
  ·rw[hc]at hq
   simp only[f7]at hq ⊢
   rw[<- hq]at q2
   exact⟨.str (tx l),H2,I2.tok _,⟨t.up (bt _),rfl⟩,q2⟩
end
section
def G4:W->W->List am->R W
 |.str l,.str [c],st=>if l.length<=mB then .ok (.str (l.filter fun d=>d != c)) st else .bad
 |_,_,_=>.bad
def D0(fo fe:FE):FE:=fun ρ st=>(fo ρ st).bind fun x st=>if xO x then(fe ρ st).bind fun y st=>G4 x y st else .bad
theorem N_{z:Str}(ho:SE X o fo)(he:SE X e fe)(hz:z=tx []:=by first|rfl|decide +kernel)
  (j9:attributeBase o "replace" X.env (eval o X.env)=eval o X.env:=by rfl)
  (qV:((backTo dH (starEach [e,.Constant (.str z) j p2] X.env)).all (fun x=>!x.1)&&(backToKw dH (keywordEach [] X.env)).all (fun x=>x.1.isSome)
   && decide ([e,.Constant (.str z) j p2].length+([]:List Keyword).length+(if ([]:List Keyword).isEmpty then 0 else 1)<30))=true:=by rfl)
  (j_:(fH.endLine==dH.line)=true:=by rfl) (hs:starEach [e,.Constant (.str z) j p2] X.env=(false,eval e X.env)::starEach [.Constant (.str z) j p2] X.env:=by rfl) :
  SE X (.Call (.Attribute o "replace" fH) [e,.Constant (.str z) j p2] [] dH) (D0 fo fe):=⟨by
 subst hz
 refine(KL ho.h he.h j9 qV j_ hs).imp fun σ H Q h=>?_
 walk_at "2"
 walk_at "1"
 cases x with
 |str z=>
  rw[aF (show xO (W.str z)=true from rfl)]at h1
  refine⟨⟨z,q1.strE⟩,μ1,ρ,st1,l1,RK.bind h1 l1 fun μ2 cZ y u H2 p2 x2 l2 q2 h2=>?_⟩
  unfold G4 at h2
  split at h2
  ·rename_i l' c e1
   cases e1
   split at h2
   ·rename_i hl
    exact⟨_,c,q1.strE,q2.strE,hl,h2 μ2 _ H2 (ao _) fw.refl l2.sto .str⟩
   ·exact h2.elim
  ·exact h2.elim
 |_=>exact h1.elim⟩
theorem N'{cZ:List am}{c:Nat}(h1:fo ρ st=.ok (.str l) st1)(h2:fe ρ st1=.ok (.str [c]) cZ)(hl:l.length<=mB):D0 fo fe ρ st=.ok (.str (l.filter fun d=>d != c)) cZ:=by
 unfold D0
 rw[h1]
 simp only[R.bind_ok]
 rw[aF (show xO (W.str l)=true from rfl),h2]
 simp only[R.bind_ok]
 unfold G4
 simp only
 rw[aF hl]
end
end L2
namespace P
open PySem L2
open PyProof.Rows (boot_sorted boot_set boot_ord boot_all boot_enumerate boot_int boot_str boot_bool boot_list boot_tuple boot_isinstance boot_max boot_min boot_zip)
def top(i:Nat):Stmt:=PySem.Challenge.pw_trunksay_k67_reckoned.main.body.getD i (.Pass ⟨0,0,0,0⟩)
abbrev Oa:Stmt:=top 7
abbrev CG:List Str:=["letters"]
abbrev RB:List Str:=["letters"]
theorem RC:bg CG RB (aQ Oa):=jE
abbrev Ob:Stmt:=top 8
abbrev AU:List Str:=["names","marks","number","name"]
abbrev RD:List Str:=["names","marks"]
theorem AV:bg AU RD (aQ Ob):=jE
abbrev Oc:Stmt:=top 11
abbrev CH:List Str:=["place"]
abbrev RE:List Str:=["place"]
theorem RF:bg CH RE (aQ Oc):=jE
abbrev Oe:Stmt:=top 12
abbrev AW:List Str:=["place"]
abbrev RG:List Str:=["place"]
theorem RH:bg AW RG (aQ Oe):=jE
abbrev Of:Stmt:=top 13
abbrev CI:List Str:=["tree","links","tops","number","place","right","left"]
abbrev RI:List Str:=["tree"]
theorem vN:bg CI RI (aQ Of):=jE
abbrev Og:Stmt:=top 14
abbrev G5:List Str:=["tree","lefts","rights","number","pair"]
abbrev RJ:List Str:=["tree"]
theorem AX:bg G5 RJ (aQ Og):=jE
abbrev Oh:Stmt:=top 15
abbrev E2:List Str:=["ups","place"]
abbrev RL:List Str:=["ups","place"]
theorem RM:bg E2 RL (aQ Oh):=jE
abbrev Oi:Stmt:=top 16
abbrev CJ:List Str:=["tree","sizes","left","right","size"]
abbrev RN:List Str:=["tree"]
theorem vO:bg CJ RN (aQ Oi):=jE
abbrev Oj:Stmt:=top 17
abbrev w5:List Str:=["tree","place"]
abbrev RO:List Str:=["tree","place"]
theorem RP:bg w5 RO (aQ Oj):=jE
abbrev G6:Stmt:=top 18
abbrev za:List Str:=["size"]
abbrev LA:List Str:=["size"]
theorem Ol:bg za LA (aQ G6):=jE
abbrev G7:Stmt:=top 19
abbrev E3:List Str:=["tree","place"]
abbrev LB:List Str:=["tree","place"]
theorem Om:bg E3 LB (aQ G7):=jE
abbrev G8:Stmt:=top 20
abbrev w6:List Str:=["tree","place","below","right_size","middle"]
abbrev LC:List Str:=["tree","place"]
theorem vP:bg w6 LC (aQ G8):=jE
abbrev G9:Stmt:=top 21
abbrev CK:List Str:=["left","right","marks","branches"]
abbrev LD:List Str:=["left","right","marks"]
theorem zb:bg CK LD (aQ G9):=jE
abbrev G_:Stmt:=top 22
abbrev zc:List Str:=["tree","place","side","other","branches","left","right","start","changed"]
abbrev LF:List Str:=["tree","place","side","other"]
theorem tw:bg zc LF (aQ G_):=jE
abbrev G':Stmt:=top 24
abbrev zd:List Str:=["rooms","number"]
abbrev LG:List Str:=["rooms","number"]
theorem On:bg zd LG (aQ G'):=jE
abbrev Ha:Stmt:=top 25
abbrev E4:List Str:=["machine","marks","pair","rooms","leads"]
abbrev LH:List Str:=["machine","marks","pair","rooms"]
theorem Hb:bg E4 LH (aQ Ha):=jE
abbrev Hc:Stmt:=top 26
abbrev CL:List Str:=["machine","tree","rooms","place","pair"]
abbrev LI:List Str:=["machine","tree"]
theorem ze:bg CL LI (aQ Hc):=jE
abbrev Hd:Stmt:=top 28
abbrev He:List Str:=["deed"]
abbrev LJ:List Str:=["deed"]
theorem Oo:bg He LJ (aQ Hd):=jE
abbrev Hf:Stmt:=top 29
abbrev zf:List Str:=["tree","place","marks"]
abbrev LK:List Str:=["tree","place","marks"]
theorem Op:bg zf LK (aQ Hf):=jE
abbrev Hg:Stmt:=top 30
abbrev vQ:List Str:=["machine","rooms","deed","old","new","start","middle","fresh"]
abbrev LM:List Str:=["machine","rooms","deed"]
theorem qJ:bg vQ LM (aQ Hg):=jE
abbrev Hh:Stmt:=top 31
abbrev E5:List Str:=["machine","tree","rooms","place","links","ups","fresh","many","at","room"]
abbrev LN:List Str:=["machine","tree","rooms","place"]
theorem m5:bg E5 LN (aQ Hh):=jE
abbrev kr:Stmt:=(iQ (top 32)).getD 0 (.Pass ⟨0,0,0,0⟩)
abbrev uG:List Str:=["self","machine","tree"]
abbrev nN:List Str:=["self","machine","tree"]
theorem tz:bg uG nN (aQ kr):=jE
abbrev jN:Stmt:=(iQ (top 32)).getD 1 (.Pass ⟨0,0,0,0⟩)
abbrev tD:List Str:=["self","deed","moved","above"]
abbrev mJ:List Str:=["self","deed"]
theorem hJ:bg tD mJ (aQ jN):=jE
abbrev lh:Stmt:=(iQ (top 32)).getD 2 (.Pass ⟨0,0,0,0⟩)
abbrev vR:List Str:=["self","deed"]
abbrev oR:List Str:=["self","deed"]
theorem uH:bg vR oR (aQ lh):=jE
abbrev jO:Stmt:=(iQ (top 32)).getD 3 (.Pass ⟨0,0,0,0⟩)
abbrev tF:List Str:=["self","place","marks"]
abbrev mK:List Str:=["self","place","marks"]
theorem rM:bg tF mK (aQ jO):=jE
abbrev qK:Stmt:=(iQ (top 32)).getD 4 (.Pass ⟨0,0,0,0⟩)
abbrev CM:List Str:=["self","place","letter"]
abbrev vS:List Str:=["self","place","letter"]
theorem AY:bg CM vS (aQ qK):=jE
abbrev oS:Stmt:=(iQ (top 32)).getD 5 (.Pass ⟨0,0,0,0⟩)
abbrev AZ:List Str:=["self","place","letter"]
abbrev ul:List Str:=["self","place","letter"]
theorem zg:bg AZ ul (aQ oS):=jE
abbrev mi:Stmt:=(iQ (top 32)).getD 6 (.Pass ⟨0,0,0,0⟩)
abbrev w9:List Str:=["self","place","side","tree","changed"]
abbrev qo:List Str:=["self","place","side","tree"]
theorem oT:bg w9 qo (aQ mi):=jE
abbrev m6:Stmt:=(iQ (top 32)).getD 7 (.Pass ⟨0,0,0,0⟩)
abbrev zh:List Str:=["self","tree"]
abbrev rN:List Str:=["self","tree"]
theorem w_:bg zh rN (aQ m6):=jE
abbrev oU:Stmt:=(iQ (top 32)).getD 8 (.Pass ⟨0,0,0,0⟩)
abbrev A1:List Str:=["self","deed"]
abbrev um:List Str:=["self"]
theorem rO:bg A1 um (aQ oU):=jE
abbrev m7:Stmt:=(iQ (top 32)).getD 9 (.Pass ⟨0,0,0,0⟩)
abbrev zi:List Str:=["self","deed"]
abbrev rP:List Str:=["self"]
theorem qp:bg zi rP (aQ m7):=jE
abbrev ku:Stmt:=(iQ (top 32)).getD 10 (.Pass ⟨0,0,0,0⟩)
abbrev uI:List Str:=["self"]
abbrev nO:List Str:=["self"]
theorem tH:bg uI nO (aQ ku):=jE
abbrev ky:Stmt:=(iQ (top 32)).getD 13 (.Pass ⟨0,0,0,0⟩)
abbrev uJ:List Str:=["self"]
abbrev nR:List Str:=["self"]
theorem tI:bg uJ nR (aQ ky):=jE
abbrev Hi:Stmt:=top 34
abbrev A2:List Str:=["_law_script","_law_k"]
abbrev LO:List Str:=["_law_script","_law_k"]
theorem Oq:bg A2 LO (aQ Hi):=jE
abbrev Hj:Stmt:=top 35
abbrev zj:List Str:=["_law_cell_here","_law_k","_law_salt","_law_first"]
abbrev LP:List Str:=["_law_cell_here","_law_k","_law_salt"]
theorem Hk:bg zj LP (aQ Hj):=jE
abbrev Hl:Stmt:=top 36
abbrev zk:List Str:=["_law_cell_here","_law_many","_law_salt","_law_found","_law_rest","_law_k"]
abbrev LQ:List Str:=["_law_cell_here","_law_many","_law_salt"]
theorem tJ:bg zk LQ (aQ Hl):=jE
abbrev Hm:Stmt:=top 37
abbrev A3:List Str:=["_law_found","_law_due","_law_k"]
abbrev Ho:List Str:=["_law_found","_law_due"]
theorem Hq:bg A3 Ho (aQ Hm):=jE
abbrev Hr:Stmt:=top 38
abbrev A4:List Str:=["_law_cell_here","_law_many","_law_salt","_law_rest","_law_found","_law_d","_law_at"]
abbrev LR:List Str:=["_law_cell_here","_law_many","_law_salt"]
theorem qL:bg A4 LR (aQ Hr):=jE
abbrev Hs:Stmt:=top 39
abbrev zm:List Str:=["_law_pool_here","_law_number"]
abbrev LS:List Str:=["_law_pool_here","_law_number"]
theorem Os:bg zm LS (aQ Hs):=jE
abbrev Ht:Stmt:=top 40
abbrev A5:List Str:=["_law_draws_here","_law_pool_here","_law_found","_law_high","_law_d","_law_branches"]
abbrev LU:List Str:=["_law_draws_here","_law_pool_here"]
theorem oV:bg A5 LU (aQ Ht):=jE
abbrev Hu:Stmt:=top 41
abbrev zn:List Str:=["_law_tree_here","_law_heap","_law_found","_law_k","_law_left","_law_right"]
abbrev LV:List Str:=["_law_tree_here"]
theorem oX:bg zn LV (aQ Hu):=jE
abbrev Hv:Stmt:=top 42
abbrev vT:List Str:=["_law_names","_law_many","_law_top","_law_draws_here","_law_good","_law_table","_law_at","_law_letter_here","_law_rows","_law_l"]
abbrev LW:List Str:=["_law_names","_law_many","_law_top","_law_draws_here"]
theorem oY:bg vT LW (aQ Hv):=jE
abbrev Hw:Stmt:=top 43
abbrev xa:List Str:=["_law_names","_law_marks_here","_law_found","_law_name"]
abbrev LX:List Str:=["_law_names","_law_marks_here"]
theorem zo:bg xa LX (aQ Hw):=jE
abbrev Hy:Stmt:=top 44
abbrev CN:List Str:=["_law_machine_here","_law_tree_here","_law_heap","_law_found","_law_branches","_law_marks_here","_law_left","_law_right"]
abbrev LY:List Str:=["_law_machine_here","_law_tree_here"]
theorem m8:bg CN LY (aQ Hy):=jE
abbrev LZ:Stmt:=top 45
abbrev A6:List Str:=["_law_machine_here","_law_tree_here"]
abbrev L0:List Str:=["_law_machine_here","_law_tree_here"]
theorem Ot:bg A6 L0 (aQ LZ):=jE
abbrev Hz:Stmt:=top 46
abbrev zp:List Str:=["_law_links_here","_law_found","_law_left","_law_right","_law_many"]
abbrev L1:List Str:=["_law_links_here"]
theorem qM:bg zp L1 (aQ Hz):=jE
abbrev HA:Stmt:=top 47
abbrev xb:List Str:=["_law_tree_here","_law_place","_law_links_here","_law_sizes_here","_law_middle","_law_first"]
abbrev L3:List Str:=["_law_tree_here","_law_place"]
theorem qN:bg xb L3 (aQ HA):=jE
abbrev HB:Stmt:=top 48
abbrev uK:List Str:=["_law_tree_here","_law_place","_law_side","_law_other","_law_first","_law_middle","_law_left","_law_right","_law_top"]
abbrev L4:List Str:=["_law_tree_here","_law_place","_law_side","_law_other"]
theorem oZ:bg uK L4 (aQ HB):=jE
abbrev HC:Stmt:=top 49
abbrev zq:List Str:=["_law_script","_law_sizes_here","_law_pool_here","_law_many","_law_names","_law_entries","_law_machine_here","_law_high"]
abbrev L5:List Str:=["_law_script"]
theorem mj:bg zq L5 (aQ HC):=jE
abbrev HD:Stmt:=top 50
abbrev vU:List Str:=["_law_script","_law_k","_law_most","_law_tree_here","_law_pool_here","_law_draws_here","_law_other","_law_kind","_law_place"]
abbrev L6:List Str:=["_law_script","_law_k","_law_most","_law_tree_here","_law_pool_here"]
theorem vV:bg vU L6 (aQ HD):=jE
abbrev HE:Stmt:=top 51
abbrev vW:List Str:=["_law_tree_here","_law_deed","_law_branches","_law_marks_here"]
abbrev L7:List Str:=["_law_tree_here","_law_deed"]
theorem zt:bg vW L7 (aQ HE):=jE
abbrev HF:Stmt:=top 52
abbrev zu:List Str:=["_law_kept","_law_deed"]
abbrev L8:List Str:=["_law_kept","_law_deed"]
theorem Ou:bg zu L8 (aQ HF):=jE
abbrev HG:Stmt:=top 53
abbrev A7:List Str:=["_law_tree_here","_law_found","_law_links_here","_law_k","_law_side"]
abbrev L9:List Str:=["_law_tree_here"]
theorem vX:bg A7 L9 (aQ HG):=jE
abbrev HH:Stmt:=top 54
abbrev vY:List Str:=["_law_machine_here","_law_one","_law_at","_law_other","_law_to","_law_ahead","_law_behind","_law_above","_law_higher","_law_many"]
abbrev L_:List Str:=["_law_machine_here","_law_one","_law_at","_law_other","_law_to"]
theorem m9:bg vY L_ (aQ HH):=jE
abbrev HI:Stmt:=top 55
abbrev uL:List Str:=["_law_machine_here","_law_tree_here","_law_other","_law_deed","_law_place","_law_many","_law_first","_law_middle","_law_fewer","_law_more"]
abbrev L':List Str:=["_law_machine_here","_law_tree_here","_law_other","_law_deed"]
theorem m_:bg uL L' (aQ HI):=jE
abbrev HJ:Stmt:=top 56
abbrev vZ:List Str:=["_law_kept","_law_tree_here","_law_due"]
abbrev Ma:List Str:=["_law_kept","_law_tree_here","_law_due"]
theorem Ov:bg vZ Ma (aQ HJ):=jE
abbrev rQ:Stmt:=top 57
abbrev RQ:List Str:=["_law_script","_law_machine_here","_law_tree_here","_law_pool_here","_law_kept","_law_past","_law_later","_law_k","_law_deed","_law_due","_law_other"]
abbrev HK:List Str:=["_law_script"]
theorem ia:bg RQ HK (aQ rQ):=jE
structure Bl(mg:Str->Option Value):Prop where
 bool:mg "bool"=Option.none
 enumerate:mg "enumerate"=Option.none
 int:mg "int"=Option.none
 isinstance:mg "isinstance"=Option.none
 len:mg "len"=Option.none
 list:mg "list"=Option.none
 max:mg "max"=Option.none
 min:mg "min"=Option.none
 range:mg "range"=Option.none
 set:mg "set"=Option.none
 sorted:mg "sorted"=Option.none
 str:mg "str"=Option.none
 tuple:mg "tuple"=Option.none
 zip:mg "zip"=Option.none
def jY:W:=.int 100
structure Gc(K:Frag)(mg:Str->Option Value):Prop where
 MOST_PLACES:∃u v,mg "MOST_PLACES"=some u/\c8 0 v u/\∀μ H,bH K μ H jY v
structure Cls(K:Frag)(mg:Str->Option Value):Prop where
 NoPlace:Kv K mg "NoPlace"
 TooGreat:Kv K mg "TooGreat"
 NothingDone:Kv K mg "NothingDone"
structure Ow(K:Frag)(mg:Str->Option Value):Prop where
 Kept:N3 K mg "Kept" ["machine","many","rooms","standing","taken_back","tree"]
section
variable{w:World}{f:Addr}
def Uv:FS:=(cS (Jw nI (eC (.str [])) (ah (rq (ag 0)) aE)))
def HL:List W->List am->R W:=c9 1 Uv
theorem RR(F:iA K "in_order" "in_order" Oa f fd)(B:Bl mg) :c7 P w K mg base (hZ P w) 1 f fd RB (iD K mg 1 HL):=
 bP (k:=0) F RC rfl fun fq A outer s H E hr=>(aG (bq (Kq PySem.F.slot_str_join PySem.F.type_str_join uY fB (ae (EY B.sorted B.set (aa 0)) ax))))
def RT:FS:=(aK (ba 2 (eI 0)) (aK (k7 (gB (ag 0)) (jD 3) (aK (ba 2 (e2 iE (ag 2) (eI 2))) (fO (eG (e2 (Fy false) (ag 3) (ag 1))) (ba 2 (e2 cQ (ag 2) (eI 1))) bM))) (cS (ag 2))))
def HM:List W->List am->R W:=c9 4 RT
theorem RU(F:iA K "letter_of" "letter_of" Ob f fd)  :c7 P w K mg base (hZ P w) 1 f fd RD (iD K mg 2 HM):=
 bP (k:=0) F AV rfl fun fq A outer s H E hr=>(ar (sS 2 AV aB) (ar (gZ (k_ (aa 0)) (sG 3 AV) (ar (sS 2 AV (bF js (aa 2) aB)) (aG (cD (cr (Ko hr) (aa 3) (aa 1)) (aG (sS 2 AV (bF cH (aa 2) aB))) bN)))) (aG (bq (aa 2)))))
def Uw:FS:=(cS (e2 (Fy false) (e2 bj (ag 0) (eI 0)) (gg (ah (eI 1) (ah (eI 3) aE)))))
def zv:List W->List am->R W:=c9 1 Uw
theorem RV(F:iA K "has_left" "has_left" Oc f fd)  :c7 P w K mg base (hZ P w) 1 f fd RE (iD K mg 1 zv):=
 bP (k:=0) F RF rfl fun fq A outer s H E hr=>(aG (bq (rd (Ko hr) (bd (aa 0) aB) (eT (ae aB (ae aB ax))))))
def Ux:FS:=(cS (e2 (Fy false) (e2 bj (ag 0) (eI 0)) (gg (ah (eI 2) (ah (eI 3) aE)))))
def v0:List W->List am->R W:=c9 1 Ux
theorem RW(F:iA K "has_right" "has_right" Oe f fd)  :c7 P w K mg base (hZ P w) 1 f fd RG (iD K mg 1 v0):=
 bP (k:=0) F RH rfl fun fq A outer s H E hr=>(aG (bq (rd (Ko hr) (bd (aa 0) aB) (eT (ae aB (ae aB ax))))))
def RX:FS:=(aK (ba 1 (ki aE)) (aK (ba 2 (ki aE)) (aK (k7 (qF (ah (ag 0) aE)) (Fz 2 (fC (jD 3) (fC (jD 4) oI))) (aK (ba 5 (Gz (eG (cq 1 v0 (ah (ag 4) aE))) (k9 mE (ag 2) aE) (eC .non))) (aK (ba 6 (Gz (eG (cq 1 zv (ah (ag 4) aE))) (k9 mE (ag 2) aE) (eC .non))) (aK (c6 (k9 bW (ag 2) (ah (ag 3) aE))) (c6 (k9 bW (ag 1) (ah (gg (ah (ag 6) (ah (ag 5) aE))) aE))))))) (cS (bG i8 #[21])))))
def v3:List W->List am->R W:=c9 7 RX
theorem RY(F:iA K "links_of" "links_of" Of f fd)(B:Bl mg)(Pz:bY P w K mg base 1 "has_left" 1 zv)(Fi:bY P w K mg base 1 "has_right" 1 v0):c7 P w K mg base (hZ P w) 2 f fd RI (iD K mg 1 v3):=
 bP (k:=1) F vN rfl fun fq A outer s H E hr=>(ar (sS 1 vN (iN ax)) (ar (sS 2 vN (iN ax)) (ar (gZ (DP B.enumerate (ae (aa 0) ax)) (md rfl (dJ (sG 3 vN) (dJ (sG 4 vN) jX))) (ar (sS 5 vN (ER (kh (bR Fi hr #[0] (ae (aa 4) ax))) (qm PySem.F.slot_list_pop PySem.F.type_list_pop me (aa 2)) qi)) (ar (sS 6 vN (ER (kh (bR Pz hr #[0] (ae (aa 4) ax))) (qm PySem.F.slot_list_pop PySem.F.type_list_pop me (aa 2)) qi)) (ar (cI (lN PySem.F.slot_list_append PySem.F.type_list_append cY (aa 2) (ae (aa 3) ax))) (aG (cI (lN PySem.F.slot_list_append PySem.F.type_list_append cY (aa 1) (ae (eT (ae (aa 6) (ae (aa 5) ax))) ax)))))))) (aG (bq (gl kS B.tuple fM (ae (aa 1) ax)))))))
def Ox:FS:=(aK (uE (j6 [none] (gB (ag 0)) (jD 0) wZ (eC .non)) (jD 1)) (aK (uE (j6 [none] (gB (ag 0)) (jD 0) wZ (eC .non)) (jD 2)) (aK (k7 (qF (ah (cq 1 v3 (ah (ag 0) aE)) aE)) (Fz 2 (fC (jD 3) (fC (jD 4) oI))) (aK (fO (eG (gA (e2 bj (ag 4) (eI 0)))) (wY (ag 1) (e2 bj (ag 4) (eI 0)) (ag 3) ql) bM) (fO (eG (gA (e2 bj (ag 4) (eI 1)))) (wY (ag 2) (e2 bj (ag 4) (eI 1)) (ag 3) ql) bM))) (cS (gg (ah (ag 1) (ah (ag 2) aE)))))))
def HN:List W->List am->R W:=c9 5 Ox
theorem RZ(F:iA K "ups_of" "ups_of" Og f fd)(B:Bl mg)(uR:bY P w K mg base 2 "links_of" 1 v3):c7 P w K mg base (hZ P w) 3 f fd RJ (iD K mg 1 HN):=
 bP (k:=2) F AX rfl fun fq A outer s H E hr=>(ar (qE (sG 1 AX) (m:=0) (nm:=["place"]) (cap:=[none]) (by first|rfl|kernel_rfl) rfl (k_ (aa 0)) (fun _ _ _ _ _=>(sC 0)) (fun _ _ _ _ _=>uZ) (fun _ _ _ _ _=>qi)) (ar (qE (sG 2 AX) (m:=0) (nm:=["place"]) (cap:=[none]) (by first|rfl|kernel_rfl) rfl (k_ (aa 0)) (fun _ _ _ _ _=>(sC 0)) (fun _ _ _ _ _=>uZ) (fun _ _ _ _ _=>qi)) (ar (gZ (DP B.enumerate (ae (bR uR hr #[0] (ae (aa 0) ax)) ax)) (md rfl (dJ (sG 3 AX) (dJ (sG 4 AX) jX))) (ar (cD (ij (bd (aa 4) aB)) (aG (yT Ct (aa 3) (aa 1) (bd (aa 4) aB))) bN) (aG (cD (ij (bd (aa 4) aB)) (aG (yT Ct (aa 3) (aa 2) (bd (aa 4) aB))) bN)))) (aG (bq (eT (ae (aa 1) (ae (aa 2) ax))))))))
def Uy:FS:=(cS (Gz (eG (gA (e2 bj (e2 bj (ag 0) (eI 0)) (ag 1)))) (e2 bj (e2 bj (ag 0) (eI 0)) (ag 1)) (e2 bj (e2 bj (ag 0) (eI 1)) (ag 1))))
def E6:List W->List am->R W:=c9 2 Uy
theorem R0(F:iA K "up_from" "up_from" Oh f fd)  :c7 P w K mg base (hZ P w) 1 f fd RL (iD K mg 2 E6):=
 bP (k:=0) F RM rfl fun fq A outer s H E hr=>(aG (bq (ER (ij (bd (bd (aa 0) aB) (aa 1))) (bd (bd (aa 0) aB) (aa 1)) (bd (bd (aa 0) aB) (aa 1)))))
def R1:FS:=(aK (ba 1 (ki aE)) (aK (k7 (gB (cq 1 v3 (ah (ag 0) aE))) (Fz 2 (fC (jD 2) (fC (jD 3) oI))) (aK (ba 4 (eI 1)) (aK (fO (eG (gA (ag 2))) (ba 4 (e2 cQ (ag 4) (e2 bj (ag 1) (ag 2)))) bM) (aK (fO (eG (gA (ag 3))) (ba 4 (e2 cQ (ag 4) (e2 bj (ag 1) (ag 3)))) bM) (c6 (k9 bW (ag 1) (ah (ag 4) aE))))))) (cS (bG i8 #[21]))))
def CO:List W->List am->R W:=c9 5 R1
theorem R3(F:iA K "sizes_of" "sizes_of" Oi f fd)(B:Bl mg)(uR:bY P w K mg base 2 "links_of" 1 v3):c7 P w K mg base (hZ P w) 3 f fd RN (iD K mg 1 CO):=
 bP (k:=2) F vO rfl fun fq A outer s H E hr=>(ar (sS 1 vO (iN ax)) (ar (gZ (k_ (bR uR hr #[0] (ae (aa 0) ax))) (md rfl (dJ (sG 2 vO) (dJ (sG 3 vO) jX))) (ar (sS 4 vO aB) (ar (cD (ij (aa 2)) (aG (sS 4 vO (bF cH (aa 4) (bd (aa 1) (aa 2))))) bN) (ar (cD (ij (aa 3)) (aG (sS 4 vO (bF cH (aa 4) (bd (aa 1) (aa 3))))) bN) (aG (cI (lN PySem.F.slot_list_append PySem.F.type_list_append cY (aa 1) (ae (aa 4) ax)))))))) (aG (bq (gl kS B.tuple fM (ae (aa 1) ax))))))
def Oy:FS:=(fO (Ju (eG (e2 NN (ag 1) (eI 0))) (eG (e2 NO (ag 1) (bG dG (ah (ag 0) aE))))) (tm "NoPlace") bM)
def xc:List W->List am->R W:=c9 2 Oy
theorem R4(F:iA K "check_place" "check_place" Oj f fd)(B:Bl mg)(C:Cls K mg) :c7 P w K mg base (hZ P w) 1 f fd RO (iD K mg 2 xc):=
 bP (k:=0) F RP rfl fun fq A outer s H E hr=>(aG (cD (Ki (DG (cr w_lt (aa 1) aB) (yP (cr Km (aa 1) (bK dO B.len bE (ae (aa 0) ax)))))) (aG (rC C.NoPlace)) bN))
def A8:FS:=(fO (eG (e2 Fx (ag 0) (eC jY))) (tm "TooGreat") bM)
def v5:List W->List am->R W:=c9 1 A8
theorem Oz(F:iA K "check_size" "check_size" G6 f fd)(G:Gc K mg)(C:Cls K mg) :c7 P w K mg base (hZ P w) 1 f fd LA (iD K mg 1 v5):=
 bP (k:=0) F Ol rfl fun fq A outer s H E hr=>(aG (cD (cr yR (aa 0) (Uj G.MOST_PLACES)) (aG (rC C.TooGreat)) bN))
def HP:FS:=(aK (c6 (cq 2 xc (ah (ag 0) #[21]))) (cS (qD (ag 0) (eW (e2 kQ (e2 cQ (ag 1) (eI 1)) (e2 bj (cq 1 CO (ah (ag 0) aE)) (ag 1)))) (eW (e2 cQ (ag 1) (eI 1))))))
def uo:List W->List am->R W:=c9 2 HP
theorem OA(F:iA K "part_at" "part_at" G7 f fd) (zS:bY P w K mg base 1 "check_place" 2 xc)(Fl:bY P w K mg base 3 "sizes_of" 1 CO):c7 P w K mg base (hZ P w) 4 f fd LB (iD K mg 2 uo):=
 bP (k:=3) F Om rfl fun fq A outer s H E hr=>(ar (cI (bR zS hr #[0] (ae (aa 0) (ae (aa 1) ax)))) (aG (bq (k6 (aa 0) (dr (bF j4 (bF cH (aa 1) aB) (bd (bR Fl hr #[0] (ae (aa 0) ax)) (aa 1)))) (dr (bF cH (aa 1) aB))))))
def HQ:FS:=(aK (ba 2 (qD (cq 2 uo (ah (ag 0) #[21])) gO (eW (oK (eI 1))))) (aK (ba 3 (eI 0)) (aK (fO (eG (cq 1 v0 (ah (e2 bj (ag 0) (ag 1)) aE))) (ba 3 (e2 bj (cq 1 CO (ah (ag 0) aE)) (e2 kQ (ag 1) (eI 1)))) bM) (aK (ba 4 (e2 kQ (bG dG (ah (ag 2) aE)) (ag 3))) (cS (gg (ah (qD (ag 2) gO (eW (ag 4))) (ah (qD (ag 2) (eW (ag 4)) gO) aE))))))))
def o_:List W->List am->R W:=c9 5 HQ
theorem OB(F:iA K "branches_at" "branches_at" G8 f fd)(B:Bl mg)(Fi:bY P w K mg base 1 "has_right" 1 v0)(IZ:bY P w K mg base 4 "part_at" 2 uo)(Fl:bY P w K mg base 3 "sizes_of" 1 CO):c7 P w K mg base (hZ P w) 5 f fd LC (iD K mg 2 o_):=
 bP (k:=4) F vP rfl fun fq A outer s H E hr=>(ar (sS 2 vP (k6 (bR IZ hr #[0] (ae (aa 0) (ae (aa 1) ax))) fg (dr (uf aB)))) (ar (sS 3 vP aB) (ar (cD (kh (bR Fi hr #[0] (ae (bd (aa 0) (aa 1)) ax))) (aG (sS 3 vP (bd (bR Fl hr #[0] (ae (aa 0) ax)) (bF j4 (aa 1) aB)))) bN) (ar (sS 4 vP (bF j4 (bK dO B.len bE (ae (aa 2) ax)) (aa 3))) (aG (bq (eT (ae (k6 (aa 2) fg (dr (aa 4))) (ae (k6 (aa 2) (dr (aa 4)) fg) ax)))))))))
def Mb:FS:=(aK (ba 3 (eI 0)) (aK (fO (eG (e2 Fx (bG dG (ah (ag 0) aE)) (eI 0))) (ba 3 (e2 cQ (ag 3) (eI 1))) bM) (aK (fO (eG (e2 Fx (bG dG #[21]) (eI 0))) (ba 3 (e2 cQ (ag 3) (eI 2))) bM) (cS (e2 cQ (e2 cQ (ag 0) (ag 1)) (gg (ah (gg (ah (ag 3) (ah (ag 2) aE))) aE)))))))
def A9:List W->List am->R W:=c9 4 Mb
theorem OC(F:iA K "with_top" "with_top" G9 f fd)(B:Bl mg) :c7 P w K mg base (hZ P w) 1 f fd LD (iD K mg 3 A9):=
 bP (k:=0) F zb rfl fun fq A outer s H E hr=>(ar (sS 3 zb aB) (ar (cD (cr yR (bK dO B.len bE (ae (aa 0) ax)) aB) (aG (sS 3 zb (bF cH (aa 3) aB))) bN) (ar (cD (cr yR (bK dO B.len bE (ae (aa 1) ax)) aB) (aG (sS 3 zb (bF cH (aa 3) aB))) bN) (aG (bq (bF cH (bF cH (aa 0) (aa 1)) (eT (ae (eT (ae (aa 3) (ae (aa 2) ax))) ax))))))))
def A_:FS:=(aK (ba 4 (cq 2 o_ (ah (ag 0) #[21]))) (aK (ba 5 (Gz (eG (e2 iC (ag 2) (eC (.str [108,101,102,116])))) (ag 3) (e2 bj (ag 4) (eI 0)))) (aK (ba 6 (Gz (eG (e2 iC (ag 2) (eC (.str [114,105,103,104,116])))) (ag 3) (e2 bj (ag 4) (eI 1)))) (aK (ba 7 (e2 kQ (e2 kQ (ag 1) (bG dG (ah (e2 bj (ag 4) (eI 0)) aE))) (bG dG (ah (e2 bj (ag 4) (eI 1)) aE)))) (aK (ba 8 (e2 cQ (e2 cQ (qD (ag 0) gO (eW (ag 7))) (cq 3 A9 (ah (ag 5) (ah (ag 6) (ah (e2 bj (e2 bj (ag 0) (ag 1)) (eI 1)) aE))))) (qD (ag 0) (eW (e2 cQ (ag 1) (eI 1))) gO))) (aK (c6 (cq 1 v5 (ah (bG dG (ah (ag 8) aE)) aE))) (cS (ag 8))))))))
def v6:List W->List am->R W:=c9 9 A_
theorem OD(F:iA K "branch_put" "branch_put" G_ f fd)(B:Bl mg)(wG:bY P w K mg base 5 "branches_at" 2 o_)(IW:bY P w K mg base 1 "check_size" 1 v5)(Jl:bY P w K mg base 1 "with_top" 3 A9):c7 P w K mg base (hZ P w) 6 f fd LF (iD K mg 4 v6):=
 bP (k:=5) F tw rfl fun fq A outer s H E hr=>(ar (sS 4 tw (bR wG hr #[0] (ae (aa 0) (ae (aa 1) ax)))) (ar (sS 5 tw (ER (cr (gY hr) (aa 2) fB) (aa 3) (bd (aa 4) aB))) (ar (sS 6 tw (ER (cr (gY hr) (aa 2) fB) (aa 3) (bd (aa 4) aB))) (ar (sS 7 tw (bF j4 (bF j4 (aa 1) (bK dO B.len bE (ae (bd (aa 4) aB) ax))) (bK dO B.len bE (ae (bd (aa 4) aB) ax)))) (ar (sS 8 tw (bF cH (bF cH (k6 (aa 0) fg (dr (aa 7))) (bR Jl hr #[0] (ae (aa 5) (ae (aa 6) (ae (bd (bd (aa 0) (aa 1)) aB) ax))))) (k6 (aa 0) (dr (bF cH (aa 1) aB)) fg))) (ar (cI (bR IW hr #[0] (ae (bK dO B.len bE (ae (aa 8) ax)) ax))) (aG (bq (aa 8)))))))))
def R5:FS:=(cS (Gz (eG (yQ (ag 1))) (eI 0) (e2 bj (ag 0) (ag 1))))
def x5:List W->List am->R W:=c9 2 R5
theorem OE(F:iA K "room_below" "room_below" G' f fd)  :c7 P w K mg base (hZ P w) 1 f fd LG (iD K mg 2 x5):=
 bP (k:=0) F On rfl fun fq A outer s H E hr=>(aG (bq (ER (Cq (aa 1)) aB (bd (aa 0) (aa 1)))))
def R6:FS:=(aK (ba 4 (e2 bj (e2 bj (ag 0) (eI 2)) (cq 2 HM (ah (e2 bj (ag 0) (eI 0)) #[21])))) (cS (e2 bj (e2 bj (ag 4) (cq 2 x5 (ah (ag 3) (ah (e2 bj (ag 2) (eI 0)) aE)))) (cq 2 x5 (ah (ag 3) (ah (e2 bj (ag 2) (eI 1)) aE))))))
def rR:List W->List am->R W:=c9 5 R6
theorem OF(F:iA K "room_at" "room_at" Ha f fd) (PF:bY P w K mg base 1 "letter_of" 2 HM)(Ef:bY P w K mg base 1 "room_below" 2 x5):c7 P w K mg base (hZ P w) 2 f fd LH (iD K mg 4 rR):=
 bP (k:=1) F Hb rfl fun fq A outer s H E hr=>(ar (sS 4 Hb (bd (bd (aa 0) aB) (bR PF hr #[0] (ae (bd (aa 0) aB) (ae (aa 1) ax))))) (aG (bq (bd (bd (aa 4) (bR Ef hr #[0] (ae (aa 3) (ae (bd (aa 2) aB) ax)))) (bR Ef hr #[0] (ae (aa 3) (ae (bd (aa 2) aB) ax)))))))
def Md:FS:=(aK (ba 2 (ki aE)) (aK (k7 (yZ (ah (ag 1) (ah (cq 1 v3 #[21]) aE))) (Fz 2 (fC (jD 3) (fC (jD 4) oI))) (c6 (k9 bW (ag 2) (ah (cq 4 rR (ah (ag 0) (ah (e2 bj (ag 3) (eI 1)) (ah (ag 4) (ah (ag 2) aE))))) aE)))) (cS (bG i8 (ah (ag 2) aE)))))
def nS:List W->List am->R W:=c9 5 Md
theorem OG(F:iA K "rooms_of" "rooms_of" Hc f fd)(B:Bl mg)(uR:bY P w K mg base 2 "links_of" 1 v3)(yx:bY P w K mg base 2 "room_at" 4 rR):c7 P w K mg base (hZ P w) 3 f fd LI (iD K mg 2 nS):=
 bP (k:=2) F ze rfl fun fq A outer s H E hr=>(ar (sS 2 ze (iN ax)) (ar (gZ (KD B.zip (ae (aa 1) (ae (bR uR hr #[0] (ae (aa 1) ax)) ax))) (md rfl (dJ (sG 3 ze) (dJ (sG 4 ze) jX))) (aG (cI (lN PySem.F.slot_list_append PySem.F.type_list_append cY (aa 2) (ae (bR yx hr #[0] (ae (aa 0) (ae (bd (aa 3) aB) (ae (aa 4) (ae (aa 2) ax))))) ax))))) (aG (bq (gl kS B.tuple fM (ae (aa 2) ax))))))
def R7:FS:=(cS (gg (ah (e2 bj (ag 0) (eI 2)) (ah (e2 bj (ag 0) (eI 3)) (ah (e2 bj (ag 0) (eI 0)) (ah (e2 bj (ag 0) (eI 1)) (ah (e2 bj (ag 0) (eI 4)) aE)))))))
def A':List W->List am->R W:=c9 1 R7
theorem OH(F:iA K "turned" "turned" Hd f fd)  :c7 P w K mg base (hZ P w) 1 f fd LJ (iD K mg 1 A'):=
 bP (k:=0) F Oo rfl fun fq A outer s H E hr=>(aG (bq (eT (ae (bd (aa 0) aB) (ae (bd (aa 0) aB) (ae (bd (aa 0) aB) (ae (bd (aa 0) aB) (ae (bd (aa 0) aB) ax))))))))
def R8:FS:=(cS (e2 cQ (e2 cQ (qD (ag 0) gO (eW (ag 1))) (gg (ah (gg (ah (e2 bj (e2 bj (ag 0) (ag 1)) (eI 0)) (ah (ag 2) aE))) aE))) (qD (ag 0) (eW (e2 cQ (ag 1) (eI 1))) gO)))
def Ba:List W->List am->R W:=c9 3 R8
theorem OI(F:iA K "with_marks" "with_marks" Hf f fd)  :c7 P w K mg base (hZ P w) 1 f fd LK (iD K mg 3 Ba):=
 bP (k:=0) F Op rfl fun fq A outer s H E hr=>(aG (bq (bF cH (bF cH (k6 (aa 0) fg (dr (aa 1))) (eT (ae (eT (ae (bd (bd (aa 0) (aa 1)) aB) (ae (aa 2) ax))) ax))) (k6 (aa 0) (dr (bF cH (aa 1) aB)) fg))))
def R9:FS:=(aK (ba 3 (cq 2 o_ (ah (e2 bj (ag 2) (eI 0)) (ah (e2 bj (ag 2) (eI 1)) aE)))) (aK (ba 4 (cq 2 o_ (ah (e2 bj (ag 2) (eI 2)) (ah (e2 bj (ag 2) (eI 3)) aE)))) (aK (ba 5 (e2 kQ (e2 kQ (e2 bj (ag 2) (eI 1)) (bG dG (ah (e2 bj (ag 3) (eI 0)) aE))) (bG dG (ah (e2 bj (ag 3) (eI 1)) aE)))) (aK (ba 6 (e2 cQ (ag 5) (bG dG (ah (e2 bj (ag 3) (eI 0)) aE)))) (aK (fO (eG (e2 iC (e2 bj (ag 2) (eI 4)) (eC (.str [108,101,102,116])))) (aK (ba 7 (cq 2 nS (ah (ag 0) (ah (e2 bj (ag 4) (eI 0)) aE)))) (cS (gg (ah (e2 cQ (e2 cQ (qD (ag 1) gO (eW (ag 5))) (ag 7)) (qD (ag 1) (eW (ag 6)) gO)) (ah (bG dG (ah (ag 7) aE)) aE))))) bM) (aK (ba 7 (cq 2 nS (ah (ag 0) (ah (e2 bj (ag 4) (eI 1)) aE)))) (cS (gg (ah (e2 cQ (e2 cQ (qD (ag 1) gO (eW (ag 6))) (ag 7)) (qD (ag 1) (eW (e2 bj (ag 2) (eI 1))) gO)) (ah (bG dG (ah (ag 7) aE)) aE))))))))))
def x6:List W->List am->R W:=c9 8 R9
theorem OJ(F:iA K "branch_rooms" "branch_rooms" Hg f fd)(B:Bl mg)(wG:bY P w K mg base 5 "branches_at" 2 o_)(qr:bY P w K mg base 3 "rooms_of" 2 nS):c7 P w K mg base (hZ P w) 6 f fd LM (iD K mg 3 x6):=
 bP (k:=5) F qJ rfl fun fq A outer s H E hr=>(ar (sS 3 qJ (bR wG hr #[0] (ae (bd (aa 2) aB) (ae (bd (aa 2) aB) ax)))) (ar (sS 4 qJ (bR wG hr #[0] (ae (bd (aa 2) aB) (ae (bd (aa 2) aB) ax)))) (ar (sS 5 qJ (bF j4 (bF j4 (bd (aa 2) aB) (bK dO B.len bE (ae (bd (aa 3) aB) ax))) (bK dO B.len bE (ae (bd (aa 3) aB) ax)))) (ar (sS 6 qJ (bF cH (aa 5) (bK dO B.len bE (ae (bd (aa 3) aB) ax)))) (ar (cD (cr (gY hr) (bd (aa 2) aB) fB) (ar (sS 7 qJ (bR qr hr #[0] (ae (aa 0) (ae (bd (aa 4) aB) ax)))) (aG (bq (eT (ae (bF cH (bF cH (k6 (aa 1) fg (dr (aa 5))) (aa 7)) (k6 (aa 1) (dr (aa 6)) fg)) (ae (bK dO B.len bE (ae (aa 7) ax)) ax)))))) bN) (ar (sS 7 qJ (bR qr hr #[0] (ae (aa 0) (ae (bd (aa 4) aB) ax)))) (aG (bq (eT (ae (bF cH (bF cH (k6 (aa 1) fg (dr (aa 6))) (aa 7)) (k6 (aa 1) (dr (bd (aa 2) aB)) fg)) (ae (bK dO B.len bE (ae (aa 7) ax)) ax)))))))))))
def R_:FS:=(aK (ba 4 (cq 1 v3 #[21])) (aK (ba 5 (cq 1 HN #[21])) (aK (ba 6 (bG xM (ah (ag 2) aE))) (aK (ba 7 (eI 0)) (aK (ba 8 (ag 3)) (aK (mW (eG (gA (ag 8))) (aK (ba 9 (cq 4 rR (ah (ag 0) (ah (e2 bj (e2 bj (ag 1) (ag 8)) (eI 1)) (ah (e2 bj (ag 4) (ag 8)) (ah (ag 6) aE)))))) (aK (ba 7 (e2 cQ (ag 7) (eI 1))) (aK (fO (eG (e2 iC (ag 9) (e2 bj (ag 6) (ag 8)))) Cs bM) (aK (wY (ag 6) (ag 8) (ag 9) ql) (ba 8 (cq 2 E6 (ah (ag 5) (ah (ag 8) aE))))))))) (cS (gg (ah (bG i8 (ah (ag 6) aE)) (ah (ag 7) aE))))))))))
def Bb:List W->List am->R W:=c9 10 R_
theorem OK(F:iA K "climbed" "climbed" Hh f fd)(B:Bl mg)(uR:bY P w K mg base 2 "links_of" 1 v3)(yx:bY P w K mg base 2 "room_at" 4 rR)(PJ:bY P w K mg base 1 "up_from" 2 E6)(PV:bY P w K mg base 3 "ups_of" 1 HN):c7 P w K mg base (hZ P w) 4 f fd LN (iD K mg 4 Bb):=
 bP (k:=3) F m5 rfl fun fq A outer s H E hr=>(ar (sS 4 m5 (bR uR hr #[0] (ae (aa 1) ax))) (ar (sS 5 m5 (bR PV hr #[0] (ae (aa 1) ax))) (ar (sS 6 m5 (gl NQ B.list boot_list (ae (aa 2) ax))) (ar (sS 7 m5 aB) (ar (sS 8 m5 (aa 3)) (ar (vz (ij (aa 8)) (ar (sS 9 m5 (bR yx hr #[0] (ae (aa 0) (ae (bd (bd (aa 1) (aa 8)) aB) (ae (bd (aa 4) (aa 8)) (ae (aa 6) ax)))))) (ar (sS 7 m5 (bF cH (aa 7) aB)) (ar (cD (cr (gY hr) (aa 9) (bd (aa 6) (aa 8))) (aG GH) bN) (ar (yT Ct (aa 9) (aa 6) (aa 8)) (aG (sS 8 m5 (bR PJ hr #[0] (ae (aa 5) (ae (aa 8) ax)))))))))) (aG (bq (eT (ae (gl kS B.tuple fM (ae (aa 6) ax)) (ae (aa 7) ax)))))))))))
def nT:FS:=(aK (oM "Kept" "machine" (ag 0) (ag 1)) (aK (oM "Kept" "tree" (ag 0) (ag 2)) (aK (oM "Kept" "rooms" (ag 0) (cq 2 nS (ah (ag 1) (ah (ag 2) aE)))) (aK (oM "Kept" "many" (ag 0) (bG dG (ah (ag 2) aE))) (aK (oM "Kept" "standing" (ag 0) (ki aE)) (oM "Kept" "taken_back" (ag 0) (ki aE)))))))
def gP:List W->List am->R W:=c9 3 nT
theorem tK(F:iA K "__init__" "Kept.__init__" kr f fd)(B:Bl mg)(O:Ow K mg)(qr:bY P w K mg base 3 "rooms_of" 2 nS):c7 P w K mg base (hZ P w) 4 f fd nN (iD K mg 3 gP):=
 bP (k:=3) F tz rfl fun fq A outer s H E hr=>(ar (km O.Kept (aa 0) (aa 1)) (ar (km O.Kept (aa 0) (aa 2)) (ar (km O.Kept (aa 0) (bR qr hr #[0] (ae (aa 1) (ae (aa 2) ax)))) (ar (km O.Kept (aa 0) (bK dO B.len bE (ae (aa 2) ax))) (ar (km O.Kept (aa 0) (iN ax)) (aG (km O.Kept (aa 0) (iN ax))))))))
def jP:FS:=(aK (fO (eG (yQ (e2 bj (ag 1) (eI 1)))) (aK (oM "Kept" "rooms" (ag 0) (cq 2 nS (ah (ji "Kept" "machine" (ag 0)) (ah (e2 bj (ag 1) (eI 2)) aE)))) (oM "Kept" "many" (ag 0) (bG dG (ah (e2 bj (ag 1) (eI 2)) aE)))) (aK (ba 2 (gg (ah (ji "Kept" "rooms" (ag 0)) (ah (eI 0) aE)))) (aK (fO (eG (gA (e2 bj (ag 1) (eI 4)))) (ba 2 (cq 3 x6 (ah (ji "Kept" "machine" (ag 0)) (ah (ji "Kept" "rooms" (ag 0)) #[21])))) bM) (aK (ba 3 (cq 4 Bb (ah (ji "Kept" "machine" (ag 0)) (ah (e2 bj (ag 1) (eI 2)) (ah (e2 bj (ag 2) (eI 0)) (ah (e2 bj (ag 1) (eI 3)) aE)))))) (aK (oM "Kept" "rooms" (ag 0) (e2 bj (ag 3) (eI 0))) (oM "Kept" "many" (ag 0) (e2 cQ (e2 bj (ag 2) (eI 1)) (e2 bj (ag 3) (eI 1))))))))) (oM "Kept" "tree" (ag 0) (e2 bj (ag 1) (eI 2))))
def dw:List W->List am->R W:=c9 4 jP
theorem rS(F:iA K "carry_out" "Kept.carry_out" jN f fd)(B:Bl mg)(O:Ow K mg)(Ji:bY P w K mg base 6 "branch_rooms" 3 x6)(Jb:bY P w K mg base 4 "climbed" 4 Bb)(qr:bY P w K mg base 3 "rooms_of" 2 nS):c7 P w K mg base (hZ P w) 7 f fd mJ (iD K mg 2 dw):=
 bP (k:=6) F hJ rfl fun fq A outer s H E hr=>(ar (cD (Cq #[20]) (ar (km O.Kept (aa 0) (bR qr hr #[0] (ae #[22] (ae #[20] ax)))) (aG (km O.Kept (aa 0) (bK dO B.len bE (ae #[20] ax))))) (ar (sS 2 hJ (eT (ae #[22] (ae aB ax)))) (ar (cD (ij #[20]) (aG (sS 2 hJ (bR Ji hr #[0] (ae #[22] (ae #[22] (ae (aa 1) ax)))))) bN) (ar (sS 3 hJ (bR Jb hr #[0] (ae #[22] (ae #[20] (ae (bd (aa 2) aB) (ae #[20] ax)))))) (ar (km O.Kept (aa 0) (bd (aa 3) aB)) (aG (km O.Kept (aa 0) (bF cH (bd (aa 2) aB) (bd (aa 3) aB))))))))) (aG (km O.Kept (aa 0) #[20])))
def pc:FS:=(aK (c6 (iP "Kept" "carry_out" 2 dw (ag 0) #[21])) (aK (c6 (k9 bW (ji "Kept" "standing" (ag 0)) #[21])) (oM "Kept" "taken_back" (ag 0) (ki aE))))
def d9:List W->List am->R W:=c9 2 pc
theorem uM(F:iA K "do_deed" "Kept.do_deed" lh f fd)(O:Ow K mg)(dz:iH P w K mg base 7 "Kept" "carry_out" 2 dw):c7 P w K mg base (hZ P w) 8 f fd oR (iD K mg 2 d9):=
 bP (k:=7) F uH rfl fun fq A outer s H E hr=>(ar (cI (ko dz hr #[0] (aa 0) (ae (aa 1) ax))) (ar (cI (lN PySem.F.slot_list_append PySem.F.type_list_append cY #[22] (ae (aa 1) ax))) (aG (km O.Kept (aa 0) (iN ax)))))
def tL:FS:=(c6 (iP "Kept" "do_deed" 2 d9 (ag 0) (ah (gg (ah (ji "Kept" "tree" (ag 0)) (ah (ag 1) (ah (cq 3 Ba (ah (ji "Kept" "tree" (ag 0)) (ah (ag 1) (ah (ag 2) aE)))) (ah (ag 1) (ah (eC .non) aE)))))) aE)))
def eP:List W->List am->R W:=c9 3 tL
theorem rV(F:iA K "mark_deed" "Kept.mark_deed" jO f fd)(O:Ow K mg)(eh:iH P w K mg base 8 "Kept" "do_deed" 2 d9)(Jd:bY P w K mg base 1 "with_marks" 3 Ba):c7 P w K mg base (hZ P w) 9 f fd mK (iD K mg 3 eP):=
 bP (k:=8) F rM rfl fun fq A outer s H E hr=>(aG (cI (ko eh hr #[0] (aa 0) (ae (eT (ae #[22] (ae (aa 1) (ae (bR Jd hr #[0] (ae #[22] (ae (aa 1) (ae (aa 2) ax)))) (ae (aa 1) (ae qi ax)))))) ax))))
def CP:FS:=(aK (c6 (cq 2 xc (ah (ji "Kept" "tree" (ag 0)) #[21]))) (c6 (iP "Kept" "mark_deed" 3 eP (ag 0) (ah (ag 1) (ah (cq 1 HL (ah (e2 cQ (e2 bj (e2 bj (ji "Kept" "tree" (ag 0)) (ag 1)) (eI 1)) (ag 2)) aE)) aE)))))
def jQ:List W->List am->R W:=c9 3 CP
theorem Bc(F:iA K "put" "Kept.put" qK f fd)(O:Ow K mg)(fy:iH P w K mg base 9 "Kept" "mark_deed" 3 eP)(zS:bY P w K mg base 1 "check_place" 2 xc)(PB:bY P w K mg base 1 "in_order" 1 HL):c7 P w K mg base (hZ P w) 10 f fd vS (iD K mg 3 jQ):=
 bP (k:=9) F AY rfl fun fq A outer s H E hr=>(ar (cI (bR zS hr #[0] (ae #[22] (ae (aa 1) ax)))) (aG (cI (ko fy hr #[0] (aa 0) (ae (aa 1) (ae (bR PB hr #[0] (ae (bF cH (bd (bd #[22] (aa 1)) aB) (aa 2)) ax)) ax))))))
def Bd:FS:=(aK (c6 (cq 2 xc (ah (ji "Kept" "tree" (ag 0)) #[21]))) (c6 (iP "Kept" "mark_deed" 3 eP (ag 0) (ah (ag 1) (ah (D0 (e2 bj (e2 bj (ji "Kept" "tree" (ag 0)) (ag 1)) (eI 1)) (ag 2)) aE)))))
def jd:List W->List am->R W:=c9 3 Bd
theorem zw(F:iA K "take" "Kept.take" oS f fd)(O:Ow K mg)(fy:iH P w K mg base 9 "Kept" "mark_deed" 3 eP)(zS:bY P w K mg base 1 "check_place" 2 xc):c7 P w K mg base (hZ P w) 10 f fd ul (iD K mg 3 jd):=
 bP (k:=9) F zg rfl fun fq A outer s H E hr=>(ar (cI (bR zS hr #[0] (ae #[22] (ae (aa 1) ax)))) (aG (cI (ko fy hr #[0] (aa 0) (ae (aa 1) (ae (N_ (bd (bd #[22] (aa 1)) aB) (aa 2)) ax))))))
def xf:FS:=(aK (ba 4 (cq 4 v6 (ah (ji "Kept" "tree" (ag 0)) (ah (ag 1) (ah (ag 2) (ah (ag 3) aE)))))) (c6 (iP "Kept" "do_deed" 2 d9 (ag 0) (ah (gg (ah (ji "Kept" "tree" (ag 0)) (ah (ag 1) (ah (ag 4) (ah (e2 kQ (e2 cQ (ag 1) (bG dG (ah (ag 4) aE))) (bG dG (ah (ji "Kept" "tree" (ag 0)) aE))) (ah (ag 2) aE)))))) aE))))
def gW:List W->List am->R W:=c9 5 xf
theorem v7(F:iA K "branch" "Kept.branch" mi f fd)(B:Bl mg)(O:Ow K mg)(eh:iH P w K mg base 8 "Kept" "do_deed" 2 d9)(IV:bY P w K mg base 6 "branch_put" 4 v6):c7 P w K mg base (hZ P w) 9 f fd qo (iD K mg 4 gW):=
 bP (k:=8) F oT rfl fun fq A outer s H E hr=>(ar (sS 4 oT (bR IV hr #[0] (ae #[22] (ae (aa 1) (ae (aa 2) (ae (aa 3) ax)))))) (aG (cI (ko eh hr #[0] (aa 0) (ae (eT (ae #[22] (ae (aa 1) (ae (aa 4) (ae (bF j4 (bF cH (aa 1) (bK dO B.len bE (ae (aa 4) ax))) (bK dO B.len bE (ae #[22] ax))) (ae (aa 2) ax)))))) ax)))))
def zx:FS:=(c6 (iP "Kept" "do_deed" 2 d9 (ag 0) (ah (gg (ah (ji "Kept" "tree" (ag 0)) (ah (eC .non) (ah (ag 1) (ah (eC .non) (ah (eC .non) aE)))))) aE)))
def il:List W->List am->R W:=c9 2 zx
theorem xg(F:iA K "whole" "Kept.whole" m6 f fd)(O:Ow K mg)(eh:iH P w K mg base 8 "Kept" "do_deed" 2 d9):c7 P w K mg base (hZ P w) 9 f fd rN (iD K mg 2 il):=
 bP (k:=8) F w_ rfl fun fq A outer s H E hr=>(aG (cI (ko eh hr #[0] (aa 0) (ae (eT (ae #[22] (ae qi (ae (aa 1) (ae qi (ae qi ax)))))) ax))))
def uq:FS:=(aK (fO (eG (e2 iC (bG dG (ah (ji "Kept" "standing" (ag 0)) aE)) (eI 0))) (tm "NothingDone") bM) (aK (ba 1 (k9 mE (ji "Kept" "standing" (ag 0)) aE)) (aK (c6 (iP "Kept" "carry_out" 2 dw (ag 0) (ah (cq 1 A' #[21]) aE))) (c6 (k9 bW (ji "Kept" "taken_back" (ag 0)) #[21])))))
def je:List W->List am->R W:=c9 2 uq
theorem zy(F:iA K "back" "Kept.back" oU f fd)(B:Bl mg)(C:Cls K mg)(O:Ow K mg)(dz:iH P w K mg base 7 "Kept" "carry_out" 2 dw)(Jg:bY P w K mg base 1 "turned" 1 A'):c7 P w K mg base (hZ P w) 8 f fd um (iD K mg 1 je):=
 bP (k:=7) F rO rfl fun fq A outer s H E hr=>(ar (cD (cr (gY hr) (bK dO B.len bE (ae #[22] ax)) aB) (aG (rC C.NothingDone)) bN) (ar (sS 1 rO (qm PySem.F.slot_list_pop PySem.F.type_list_pop me #[22])) (ar (cI (ko dz hr #[0] (aa 0) (ae (bR Jg hr #[0] (ae (aa 1) ax)) ax))) (aG (cI (lN PySem.F.slot_list_append PySem.F.type_list_append cY #[22] (ae (aa 1) ax)))))))
def rX:FS:=(aK (fO (eG (e2 iC (bG dG (ah (ji "Kept" "taken_back" (ag 0)) aE)) (eI 0))) (tm "NothingDone") bM) (aK (ba 1 (k9 mE (ji "Kept" "taken_back" (ag 0)) aE)) (aK (c6 (iP "Kept" "carry_out" 2 dw (ag 0) #[21])) (c6 (k9 bW (ji "Kept" "standing" (ag 0)) #[21])))))
def im:List W->List am->R W:=c9 2 rX
theorem xh(F:iA K "again" "Kept.again" m7 f fd)(B:Bl mg)(C:Cls K mg)(O:Ow K mg)(dz:iH P w K mg base 7 "Kept" "carry_out" 2 dw):c7 P w K mg base (hZ P w) 8 f fd rP (iD K mg 1 im):=
 bP (k:=7) F qp rfl fun fq A outer s H E hr=>(ar (cD (cr (gY hr) (bK dO B.len bE (ae #[22] ax)) aB) (aG (rC C.NothingDone)) bN) (ar (sS 1 qp (qm PySem.F.slot_list_pop PySem.F.type_list_pop me #[22])) (ar (cI (ko dz hr #[0] (aa 0) (ae (aa 1) ax))) (aG (cI (lN PySem.F.slot_list_append PySem.F.type_list_append cY #[22] (ae (aa 1) ax)))))))
def uN:FS:=(cS (ji "Kept" "tree" (ag 0)))
def gQ:List W->List am->R W:=c9 1 uN
theorem tM(F:iA K "tree_now" "Kept.tree_now" ku f fd)(O:Ow K mg) :c7 P w K mg base (hZ P w) 1 f fd nO (iD K mg 1 gQ):=
 bP (k:=0) F tH rfl fun fq A outer s H E hr=>(aG (bq #[22]))
def uO:FS:=(cS (ji "Kept" "many" (ag 0)))
def fR:List W->List am->R W:=c9 1 uO
theorem tN(F:iA K "reckoned" "Kept.reckoned" ky f fd)(O:Ow K mg) :c7 P w K mg base (hZ P w) 1 f fd nR (iD K mg 1 fR):=
 bP (k:=0) F tI rfl fun fq A outer s H E hr=>(aG (bq #[22]))
def R':FS:=(aK (fO (eG (e2 iC (bG dG (ah (ag 0) aE)) (eI 0))) (cS (eI 0)) bM) (cS (e2 bj (ag 0) (e2 i7 (ag 1) (bG dG (ah (ag 0) aE))))))
def nU:List W->List am->R W:=c9 2 R'
theorem OL(F:iA K "_law_cell" "_law_cell" Hi f fd)(B:Bl mg) :c7 P w K mg base (hZ P w) 1 f fd LO (iD K mg 2 nU):=
 bP (k:=0) F Oq rfl fun fq A outer s H E hr=>(ar (cD (cr (gY hr) (bK dO B.len bE (ae (aa 0) ax)) aB) (aG (bq aB)) bN) (aG (bq (bd (aa 0) (bF iB (aa 1) (bK dO B.len bE (ae (aa 0) ax)))))))
def Sa:FS:=(aK (ba 3 (e2 i7 (e2 iE (e2 cQ (e2 cQ (e2 cQ (ag 0) (e2 iE (e2 iE (eI 7) (ag 1)) (ag 1))) (e2 iE (eI 13) (ag 1))) (ag 2)) (eI 69621)) (eI 2147483647))) (cS (e2 i7 (e2 iE (e2 i7 (e2 cQ (e2 cQ (e2 iE (ag 3) (e2 cQ (e2 uc (ag 3) (eI 1009)) (eI 3))) (e2 iE (eI 31) (ag 1))) (ag 2)) (eI 2147483629)) (eI 48271)) (eI 1000000007))))
def x8:List W->List am->R W:=c9 4 Sa
theorem OM(F:iA K "_law_mixed" "_law_mixed" Hj f fd)  :c7 P w K mg base (hZ P w) 1 f fd LP (iD K mg 3 x8):=
 bP (k:=0) F Hk rfl fun fq A outer s H E hr=>(ar (sS 3 Hk (bF iB (bF js (bF cH (bF cH (bF cH (aa 0) (bF js (bF js aB (aa 1)) (aa 1))) (bF js aB (aa 1))) (aa 2)) aB) aB)) (aG (bq (bF iB (bF js (bF iB (bF cH (bF cH (bF js (aa 3) (bF cH (bF sX (aa 3) aB) aB)) (bF js aB (aa 1))) (aa 2)) aB) aB) aB))))
def Me:FS:=(aK (ba 3 (ki aE)) (aK (ba 4 (eI 0)) (aK (fO (eG (e2 NO (ag 0) (e2 Rb (eI 10) (eI 18)))) (ba 4 (ag 0)) bM) (aK (k7 (dP #[21]) (jD 5) (fO (eG (e2 Fx (ag 4) (eI 0))) (aK (c6 (k9 bW (ag 3) (ah (e2 i7 (ag 4) (eI 64)) aE))) (ba 4 (e2 uc (ag 4) (eI 64)))) (c6 (k9 bW (ag 3) (ah (cq 3 x8 (ah (ag 0) (ah (ag 5) (ah (ag 2) aE)))) aE))))) (cS (ag 3))))))
def li:List W->List am->R W:=c9 6 Me
theorem ON(F:iA K "_law_draws" "_law_draws" Hl f fd)(B:Bl mg)(IR:bY P w K mg base 1 "_law_mixed" 3 x8):c7 P w K mg base (hZ P w) 2 f fd LQ (iD K mg 3 li):=
 bP (k:=1) F tJ rfl fun fq A outer s H E hr=>(ar (sS 3 tJ (iN ax)) (ar (sS 4 tJ aB) (ar (cD (cr Km (aa 0) (bF Re aB aB)) (aG (sS 4 tJ (aa 0))) bN) (ar (gZ (gU B.range (ae (aa 1) ax)) (sG 5 tJ) (aG (cD (cr yR (aa 4) aB) (ar (cI (lN PySem.F.slot_list_append PySem.F.type_list_append cY (aa 3) (ae (bF iB (aa 4) aB) ax))) (aG (sS 4 tJ (bF sX (aa 4) aB)))) (aG (cI (lN PySem.F.slot_list_append PySem.F.type_list_append cY (aa 3) (ae (bR IR hr #[0] (ae (aa 0) (ae (aa 5) (ae (aa 2) ax)))) ax))))))) (aG (bq (aa 3)))))))
def Be(SQ:List W->List am->R W):FS:=(aK (fO (eG (vH "tuple" (ag 1))) (aK (fO (Ju (Fw (eG (vH "tuple" (ag 0)))) (eG (e2 Jv (bG dG (ah (ag 0) aE)) (bG dG #[21])))) (cS (eC (.bl false))) bM) (aK (k7 (dP (ah (bG dG #[21]) aE)) (jD 2) (fO (Fw (eG (cq 2 SQ (ah (e2 bj (ag 0) (ag 2)) (ah (e2 bj (ag 1) (ag 2)) aE))))) (cS (eC (.bl false))) bM)) (cS (eC (.bl true))))) bM) (aK (fO (eG (yQ (ag 1))) (cS (yQ (ag 0))) bM) (aK (fO (eG (vH "bool" (ag 1))) (cS (Cp (vH "bool" (ag 0)) (e2 iC (ag 0) (ag 1)))) bM) (aK (fO (eG (vH "int" (ag 1))) (cS (Cp (vH "int" (ag 0)) (Cp (Kj (vH "bool" (ag 0))) (e2 iC (ag 0) (ag 1))))) bM) (cS (Cp (vH "str" (ag 0)) (e2 iC (ag 0) (ag 1))))))))
def kK:Nat->List W->List am->R W
 |0=>fun _ _=>.bad
 |k+1=>c9 3 (Be (kK k))
theorem D1{Jm:Addr}{PK:FuncData}(yp:iA K "_law_same" "_law_same" Hm Jm PK)(BM:mg "_law_same"=some (.ref Jm))(B:Bl mg) :∀k:Nat,bY P w K mg base (0+k) "_law_same" 2 (kK k)
 |0=>GO (ps:=Ho) yp BM rfl (fun _ _ _ _ _ _ us hl=>match us,hl with|[_,_],_=>rfl)
 |k+1=>by
  have wI:=D1 yp BM B  k
  exact yU (ps:=Ho) yp BM rfl (fun _ _ _ _ _ _ us hl=>match us,hl with|[_,_],_=>rfl) (bP (k:=0+k) yp Hq rfl fun fq A outer s H E hr=>(ar (cD (kh (ug B.isinstance B.tuple fM (aa 1))) (ar (cD (Ki (DG (sU (kh (ug B.isinstance B.tuple fM (aa 0)))) (yP (cr (NP hr) (bK dO B.len bE (ae (aa 0) ax)) (bK dO B.len bE (ae (aa 1) ax)))))) (aG (bq Co)) bN) (ar (gZ (gU B.range (ae (bK dO B.len bE (ae (aa 1) ax)) ax)) (sG 2 Hq) (aG (cD (sU (kh (bR wI hr #[0] (ae (bd (aa 0) (aa 2)) (ae (bd (aa 1) (aa 2)) ax))))) (aG (bq Co)) bN))) (aG (bq Co)))) bN) (ar (cD (Cq (aa 1)) (aG (bq (Q9 (aa 0)))) bN) (ar (cD (kh (ug B.isinstance B.bool tZ (aa 1))) (aG (bq (DH (ug B.isinstance B.bool tZ (aa 0)) (Gy (rd (gY hr) (aa 0) (aa 1)))))) bN) (ar (cD (kh (ug B.isinstance B.int pL (aa 1))) (aG (bq (DH (ug B.isinstance B.int pL (aa 0)) (DH (Q8 (ug B.isinstance B.bool tZ (aa 0))) (Gy (rd (gY hr) (aa 0) (aa 1))))))) bN) (aG (bq (DH (ug B.isinstance B.str boot_str (aa 0)) (Gy (rd (gY hr) (aa 0) (aa 1)))))))))))
def Mf:FS:=(aK (ba 3 (eC (.str [65,66,67,68,69,70,71,72,73,74,75,76,77,78,79,80,81,82,83,84,85,86,87,88,89,90,97,98,99,100,101,102,103,104,105,106,107,108,109,110,111,112,113,114,115,116,117,118,119,120,121,122]))) (aK (ba 4 (eC (.str []))) (aK (k7 (gB (cq 3 li (ah (ag 0) (ah (ag 1) (ah (ag 2) aE))))) (jD 5) (aK (ba 6 (e2 i7 (ag 5) (bG dG (ah (ag 3) aE)))) (aK (ba 4 (e2 cQ (ag 4) (e2 bj (ag 3) (ag 6)))) (ba 3 (e2 cQ (qD (ag 3) gO (eW (ag 6))) (qD (ag 3) (eW (e2 cQ (ag 6) (eI 1))) gO)))))) (cS (ag 4)))))
def x9:List W->List am->R W:=c9 7 Mf
theorem OO(F:iA K "_law_pool" "_law_pool" Hr f fd)(B:Bl mg)(pD:bY P w K mg base 2 "_law_draws" 3 li):c7 P w K mg base (hZ P w) 3 f fd LR (iD K mg 3 x9):=
 bP (k:=2) F qL rfl fun fq A outer s H E hr=>(ar (sS 3 qL fB) (ar (sS 4 qL fB) (ar (gZ (k_ (bR pD hr #[0] (ae (aa 0) (ae (aa 1) (ae (aa 2) ax))))) (sG 5 qL) (ar (sS 6 qL (bF iB (aa 5) (bK dO B.len bE (ae (aa 3) ax)))) (ar (sS 4 qL (bF cH (aa 4) (bd (aa 3) (aa 6)))) (aG (sS 3 qL (bF cH (k6 (aa 3) fg (dr (aa 6))) (k6 (aa 3) (dr (bF cH (aa 6) aB)) fg))))))) (aG (bq (aa 4))))))
def Mg:FS:=(cS (Jw nI (eC (.str [])) (ah (bG kj (ah (j6 [none,some 0,some 1] (dP (ah (bG dG (ah (ag 0) aE)) aE)) (jD 0) (eG (e2 iC (e2 GC (e2 NL (ag 2) (ag 0)) (eI 1)) (eI 1))) (e2 bj (ag 1) (ag 0))) aE)) aE)))
def Bf:List W->List am->R W:=c9 2 Mg
theorem OP(F:iA K "_law_marks" "_law_marks" Hs f fd)(B:Bl mg) :c7 P w K mg base (hZ P w) 1 f fd LS (iD K mg 2 Bf):=
 bP (k:=0) F Os rfl fun fq A outer s H E hr=>(aG (bq (Kq PySem.F.slot_str_join PySem.F.type_str_join uY fB (ae (bK yY B.sorted pK (ae (Cw (nm:=["_law_k","_law_pool_here","_law_number"]) (cap:=[none,some 0,some 1]) (by first|rfl|kernel_rfl) rfl (gU B.range (ae (bK dO B.len bE (ae (aa 0) ax)) ax)) (fun _ _ _ _ _=>(sC 0)) (fun _ _ _ _ _=>(DO (cr (gY hr) (bF NM (bF Rf (aa 2) (aa 0)) aB) aB))) (fun _ _ _ _ _=>(bd (aa 1) (aa 0)))) ax)) ax))))
def Mh:FS:=(aK (ba 2 (ki aE)) (aK (ba 3 (eI 0)) (aK (k7 (gB (ag 0)) (jD 4) (aK (ba 5 (e2 i7 (ag 4) (eI 4))) (aK (fO (eG (e2 Fx (e2 uc (e2 cQ (ag 5) (eI 1)) (eI 2)) (ag 3))) (ba 5 (eI 0)) bM) (aK (c6 (k9 bW (ag 2) (ah (gg (ah (ag 5) (ah (cq 2 Bf (ah (ag 1) (ah (e2 i7 (e2 uc (ag 4) (eI 4)) (eI 16)) aE))) aE))) aE))) (ba 3 (e2 kQ (e2 cQ (ag 3) (eI 1)) (e2 uc (e2 cQ (ag 5) (eI 1)) (eI 2)))))))) (aK (mW (eG (e2 Fx (ag 3) (eI 1))) (aK (c6 (k9 bW (ag 2) (ah (gg (ah (eI 3) (ah (e2 bj (e2 bj (ag 2) (e2 kQ (ag 3) (eI 1))) (eI 1)) aE))) aE))) (ba 3 (e2 kQ (ag 3) (eI 1))))) (cS (bG i8 (ah (ag 2) aE)))))))
def v8:List W->List am->R W:=c9 6 Mh
theorem OQ(F:iA K "_law_tree" "_law_tree" Ht f fd)(B:Bl mg)(Jr:bY P w K mg base 1 "_law_marks" 2 Bf):c7 P w K mg base (hZ P w) 2 f fd LU (iD K mg 2 v8):=
 bP (k:=1) F oV rfl fun fq A outer s H E hr=>(ar (sS 2 oV (iN ax)) (ar (sS 3 oV aB) (ar (gZ (k_ (aa 0)) (sG 4 oV) (ar (sS 5 oV (bF iB (aa 4) aB)) (ar (cD (cr yR (bF sX (bF cH (aa 5) aB) aB) (aa 3)) (aG (sS 5 oV aB)) bN) (ar (cI (lN PySem.F.slot_list_append PySem.F.type_list_append cY (aa 2) (ae (eT (ae (aa 5) (ae (bR Jr hr #[0] (ae (aa 1) (ae (bF iB (bF sX (aa 4) aB) aB) ax))) ax))) ax))) (aG (sS 3 oV (bF j4 (bF cH (aa 3) aB) (bF sX (bF cH (aa 5) aB) aB)))))))) (ar (vz (cr yR (aa 3) aB) (ar (cI (lN PySem.F.slot_list_append PySem.F.type_list_append cY (aa 2) (ae (eT (ae aB (ae (bd (bd (aa 2) (bF j4 (aa 3) aB)) aB) ax))) ax))) (aG (sS 3 oV (bF j4 (aa 3) aB))))) (aG (bq (gl kS B.tuple fM (ae (aa 2) ax))))))))
def Mi:FS:=(aK (ba 1 (ki aE)) (aK (ba 2 (ki aE)) (aK (k7 (dP (ah (bG dG (ah (ag 0) aE)) aE)) (jD 3) (aK (ba 4 (eC .non)) (aK (ba 5 (eC .non)) (aK (fO (eG (e2 NO (e2 bj (e2 bj (ag 0) (ag 3)) (eI 0)) (eI 2))) (ba 5 (k9 mE (ag 1) aE)) bM) (aK (fO (eG (e2 iC (e2 i7 (e2 bj (e2 bj (ag 0) (ag 3)) (eI 0)) (eI 2)) (eI 1))) (ba 4 (k9 mE (ag 1) aE)) bM) (aK (c6 (k9 bW (ag 2) (ah (gg (ah (ag 4) (ah (ag 5) aE))) aE))) (c6 (k9 bW (ag 1) (ah (ag 3) aE))))))))) (cS (ag 2)))))
def v9:List W->List am->R W:=c9 6 Mi
theorem OR(F:iA K "_law_links" "_law_links" Hu f fd)(B:Bl mg) :c7 P w K mg base (hZ P w) 1 f fd LV (iD K mg 1 v9):=
 bP (k:=0) F oX rfl fun fq A outer s H E hr=>(ar (sS 1 oX (iN ax)) (ar (sS 2 oX (iN ax)) (ar (gZ (gU B.range (ae (bK dO B.len bE (ae (aa 0) ax)) ax)) (sG 3 oX) (ar (sS 4 oX qi) (ar (sS 5 oX qi) (ar (cD (cr Km (bd (bd (aa 0) (aa 3)) aB) aB) (aG (sS 5 oX (qm PySem.F.slot_list_pop PySem.F.type_list_pop me (aa 1)))) bN) (ar (cD (cr (gY hr) (bF iB (bd (bd (aa 0) (aa 3)) aB) aB) aB) (aG (sS 4 oX (qm PySem.F.slot_list_pop PySem.F.type_list_pop me (aa 1)))) bN) (ar (cI (lN PySem.F.slot_list_append PySem.F.type_list_append cY (aa 2) (ae (eT (ae (aa 4) (ae (aa 5) ax))) ax))) (aG (cI (lN PySem.F.slot_list_append PySem.F.type_list_append cY (aa 1) (ae (aa 3) ax)))))))))) (aG (bq (aa 2))))))
def Mj:FS:=(aK (ba 4 (bG i8 (ah (j6 [none,some 3] (dP #[21]) (jD 0) wZ (e2 iC (e2 i7 (e2 bj (ag 1) (ag 0)) (eI 2)) (eI 1))) aE))) (aK (ba 5 (ki aE)) (aK (ba 6 (ag 1)) (aK (k7 (dP (ah (e2 AB (eI 1) (bG dG (ah (ag 0) aE))) aE)) (jD 7) (aK (ba 8 (ki aE)) (aK (k7 (dP #[21]) (jD 9) (aK (c6 (k9 bW (ag 8) (ah (bG i8 (ah (j6 [none,some 2,some 3,some 6] (dP #[21]) (jD 0) wZ (e2 i7 (e2 bj (ag 2) (e2 cQ (ag 3) (ag 0))) (ag 1))) aE)) aE))) (ba 6 (e2 cQ (ag 6) (ag 1))))) (c6 (k9 bW (ag 5) (ah (bG i8 (ah (ag 8) aE)) aE)))))) (cS (gg (ah (ag 0) (ah (ag 4) (ah (bG i8 (ah (ag 5) aE)) aE)))))))))
def Bg:List W->List am->R W:=c9 10 Mj
theorem OS(F:iA K "_law_machine" "_law_machine" Hv f fd)(B:Bl mg) :c7 P w K mg base (hZ P w) 1 f fd LW (iD K mg 4 Bg):=
 bP (k:=0) F oY rfl fun fq A outer s H E hr=>(ar (sS 4 oY (gl kS B.tuple fM (ae (Cw (nm:=["_law_k","_law_draws_here"]) (cap:=[none,some 3]) (by first|rfl|kernel_rfl) rfl (gU B.range (ae (aa 1) ax)) (fun _ _ _ _ _=>(sC 0)) (fun _ _ _ _ _=>uZ) (fun _ _ _ _ _=>(rd (gY hr) (bF iB (bd (aa 1) (aa 0)) aB) aB))) ax))) (ar (sS 5 oY (iN ax)) (ar (sS 6 oY (aa 1)) (ar (gZ (gU B.range (ae (bF Lq aB (bK dO B.len bE (ae (aa 0) ax))) ax)) (sG 7 oY) (ar (sS 8 oY (iN ax)) (ar (gZ (gU B.range (ae (aa 1) ax)) (sG 9 oY) (ar (cI (lN PySem.F.slot_list_append PySem.F.type_list_append cY (aa 8) (ae (gl kS B.tuple fM (ae (Cw (nm:=["_law_r","_law_top","_law_draws_here","_law_at"]) (cap:=[none,some 2,some 3,some 6]) (by first|rfl|kernel_rfl) rfl (gU B.range (ae (aa 1) ax)) (fun _ _ _ _ _=>(sC 0)) (fun _ _ _ _ _=>uZ) (fun _ _ _ _ _=>(bF iB (bd (aa 2) (bF cH (aa 3) (aa 0))) (aa 1)))) ax)) ax))) (aG (sS 6 oY (bF cH (aa 6) (aa 1)))))) (aG (cI (lN PySem.F.slot_list_append PySem.F.type_list_append cY (aa 5) (ae (gl kS B.tuple fM (ae (aa 8) ax)) ax))))))) (aG (bq (eT (ae (aa 0) (ae (aa 4) (ae (gl kS B.tuple fM (ae (aa 5) ax)) ax))))))))))
def Ml:FS:=(aK (ba 2 (eI 0)) (aK (k7 (gB (ag 0)) (jD 3) (ba 2 (e2 cQ (e2 iE (eI 2) (ag 2)) (bG xS (ah (e2 (Fy false) (ag 3) (ag 1)) aE))))) (cS (ag 2))))
def x_:List W->List am->R W:=c9 4 Ml
theorem OT(F:iA K "_law_letter" "_law_letter" Hw f fd)(B:Bl mg) :c7 P w K mg base (hZ P w) 1 f fd LX (iD K mg 2 x_):=
 bP (k:=0) F zo rfl fun fq A outer s H E hr=>(ar (sS 2 zo aB) (ar (gZ (k_ (aa 0)) (sG 3 zo) (aG (sS 2 zo (bF cH (bF js aB (aa 2)) (gl Cz B.int pL (ae (rd (Ko hr) (aa 3) (aa 1)) ax)))))) (aG (bq (aa 2)))))
def Mm:FS:=(aK (ba 2 (ki aE)) (aK (ba 3 (ki aE)) (aK (k7 (gB (ag 1)) (Fz 2 (fC (jD 4) (fC (jD 5) oI))) (aK (ba 6 (eI 0)) (aK (ba 7 (eI 0)) (aK (fO (eG (e2 NO (ag 4) (eI 2))) (ba 7 (k9 mE (ag 2) aE)) bM) (aK (fO (eG (e2 iC (e2 i7 (ag 4) (eI 2)) (eI 1))) (ba 6 (k9 mE (ag 2) aE)) bM) (aK (c6 (k9 bW (ag 2) (ah (e2 bj (e2 bj (e2 bj (e2 bj (ag 0) (eI 2)) (cq 2 x_ (ah (e2 bj (ag 0) (eI 0)) (ah (ag 5) aE)))) (ag 6)) (ag 7)) aE))) (c6 (k9 bW (ag 3) (ah (e2 bj (ag 2) (oK (eI 1))) aE))))))))) (cS (ag 3)))))
def ur:List W->List am->R W:=c9 8 Mm
theorem OU(F:iA K "_law_run" "_law_run" Hy f fd) (Je:bY P w K mg base 1 "_law_letter" 2 x_):c7 P w K mg base (hZ P w) 2 f fd LY (iD K mg 2 ur):=
 bP (k:=1) F m8 rfl fun fq A outer s H E hr=>(ar (sS 2 m8 (iN ax)) (ar (sS 3 m8 (iN ax)) (ar (gZ (k_ (aa 1)) (md rfl (dJ (sG 4 m8) (dJ (sG 5 m8) jX))) (ar (sS 6 m8 aB) (ar (sS 7 m8 aB) (ar (cD (cr Km (aa 4) aB) (aG (sS 7 m8 (qm PySem.F.slot_list_pop PySem.F.type_list_pop me (aa 2)))) bN) (ar (cD (cr (gY hr) (bF iB (aa 4) aB) aB) (aG (sS 6 m8 (qm PySem.F.slot_list_pop PySem.F.type_list_pop me (aa 2)))) bN) (ar (cI (lN PySem.F.slot_list_append PySem.F.type_list_append cY (aa 2) (ae (bd (bd (bd (bd (aa 0) aB) (bR Je hr #[0] (ae (bd (aa 0) aB) (ae (aa 5) ax)))) (aa 6)) (aa 7)) ax))) (aG (cI (lN PySem.F.slot_list_append PySem.F.type_list_append cY (aa 3) (ae (bd (aa 2) (uf aB)) ax)))))))))) (aG (bq (aa 3))))))
def Mn:FS:=(aK (fO (eG (e2 iC (bG dG #[21]) (eI 0))) (cS (e2 bj (e2 bj (ag 0) (eI 1)) (eI 0))) bM) (cS (e2 bj (e2 bj (ag 0) (eI 1)) (e2 bj (cq 2 ur (ah (ag 0) #[21])) (oK (eI 1))))))
def Mo:List W->List am->R W:=c9 2 Mn
theorem Uz(F:iA K "_law_lets" "_law_lets" LZ f fd)(B:Bl mg)(yq:bY P w K mg base 2 "_law_run" 2 ur):c7 P w K mg base (hZ P w) 3 f fd L0 (iD K mg 2 Mo):=
 bP (k:=2) F Ot rfl fun fq A outer s H E hr=>(ar (cD (cr (gY hr) (bK dO B.len bE (ae (aa 1) ax)) aB) (aG (bq (bd (bd (aa 0) aB) aB))) bN) (aG (bq (bd (bd (aa 0) aB) (bd (bR yq hr #[0] (ae (aa 0) (ae (aa 1) ax))) (uf aB))))))
def Mp:FS:=(aK (ba 1 (ki aE)) (aK (k7 (gB (ag 0)) (Fz 2 (fC (jD 2) (fC (jD 3) oI))) (aK (ba 4 (eI 1)) (aK (fO (eG (gA (ag 2))) (ba 4 (e2 cQ (ag 4) (e2 bj (ag 1) (ag 2)))) bM) (aK (fO (eG (gA (ag 3))) (ba 4 (e2 cQ (ag 4) (e2 bj (ag 1) (ag 3)))) bM) (c6 (k9 bW (ag 1) (ah (ag 4) aE))))))) (cS (ag 1))))
def Bh:List W->List am->R W:=c9 5 Mp
theorem OV(F:iA K "_law_sizes" "_law_sizes" Hz f fd)  :c7 P w K mg base (hZ P w) 1 f fd L1 (iD K mg 1 Bh):=
 bP (k:=0) F qM rfl fun fq A outer s H E hr=>(ar (sS 1 qM (iN ax)) (ar (gZ (k_ (aa 0)) (md rfl (dJ (sG 2 qM) (dJ (sG 3 qM) jX))) (ar (sS 4 qM aB) (ar (cD (ij (aa 2)) (aG (sS 4 qM (bF cH (aa 4) (bd (aa 1) (aa 2))))) bN) (ar (cD (ij (aa 3)) (aG (sS 4 qM (bF cH (aa 4) (bd (aa 1) (aa 3))))) bN) (aG (cI (lN PySem.F.slot_list_append PySem.F.type_list_append cY (aa 1) (ae (aa 4) ax)))))))) (aG (bq (aa 1)))))
def Sb:FS:=(aK (ba 2 (cq 1 v9 (ah (ag 0) aE))) (aK (ba 3 (cq 1 Bh (ah (ag 2) aE))) (aK (ba 4 (ag 1)) (aK (fO (eG (gA (e2 bj (e2 bj (ag 2) (ag 1)) (eI 1)))) (ba 4 (e2 kQ (ag 1) (e2 bj (ag 3) (e2 bj (e2 bj (ag 2) (ag 1)) (eI 1))))) bM) (aK (ba 5 (ag 4)) (aK (fO (eG (gA (e2 bj (e2 bj (ag 2) (ag 1)) (eI 0)))) (ba 5 (e2 kQ (ag 4) (e2 bj (ag 3) (e2 bj (e2 bj (ag 2) (ag 1)) (eI 0))))) bM) (cS (gg (ah (ag 5) (ah (ag 4) aE))))))))))
def v_:List W->List am->R W:=c9 6 Sb
theorem OW(F:iA K "_law_bounds" "_law_bounds" HA f fd) (yw:bY P w K mg base 1 "_law_links" 1 v9)(Jq:bY P w K mg base 1 "_law_sizes" 1 Bh):c7 P w K mg base (hZ P w) 2 f fd L3 (iD K mg 2 v_):=
 bP (k:=1) F qN rfl fun fq A outer s H E hr=>(ar (sS 2 qN (bR yw hr #[0] (ae (aa 0) ax))) (ar (sS 3 qN (bR Jq hr #[0] (ae (aa 2) ax))) (ar (sS 4 qN (aa 1)) (ar (cD (ij (bd (bd (aa 2) (aa 1)) aB)) (aG (sS 4 qN (bF j4 (aa 1) (bd (aa 3) (bd (bd (aa 2) (aa 1)) aB))))) bN) (ar (sS 5 qN (aa 4)) (ar (cD (ij (bd (bd (aa 2) (aa 1)) aB)) (aG (sS 5 qN (bF j4 (aa 4) (bd (aa 3) (bd (bd (aa 2) (aa 1)) aB))))) bN) (aG (bq (eT (ae (aa 5) (ae (aa 4) ax)))))))))))
def Sc:FS:=(aK (uE (cq 2 v_ (ah (ag 0) #[21])) (Fz 2 (fC (jD 4) (fC (jD 5) oI)))) (aK (ba 6 (qD (ag 0) (eW (ag 4)) (eW (ag 5)))) (aK (ba 7 (qD (ag 0) (eW (ag 5)) (eW (ag 1)))) (aK (fO (eG (e2 iC (ag 2) (eC (.str [108,101,102,116])))) (ba 6 (ag 3)) (ba 7 (ag 3))) (aK (ba 8 (gg (ah (e2 cQ (bG xS (ah (e2 Fx (bG dG (ah (ag 6) aE)) (eI 0)) aE)) (e2 iE (eI 2) (bG xS (ah (e2 Fx (bG dG (ah (ag 7) aE)) (eI 0)) aE)))) (ah (e2 bj (e2 bj (ag 0) (ag 1)) (eI 1)) aE)))) (cS (e2 cQ (e2 cQ (e2 cQ (e2 cQ (qD (ag 0) gO (eW (ag 4))) (ag 6)) (ag 7)) (gg (ah (ag 8) aE))) (qD (ag 0) (eW (e2 cQ (ag 1) (eI 1))) gO))))))))
def Bi:List W->List am->R W:=c9 9 Sc
theorem OX(F:iA K "_law_branched" "_law_branched" HB f fd)(B:Bl mg)(yu:bY P w K mg base 2 "_law_bounds" 2 v_):c7 P w K mg base (hZ P w) 3 f fd L4 (iD K mg 4 Bi):=
 bP (k:=2) F oZ rfl fun fq A outer s H E hr=>(ar (yS (bR yu hr #[0] (ae (aa 0) (ae (aa 1) ax))) (md rfl (dJ (sG 4 oZ) (dJ (sG 5 oZ) jX)))) (ar (sS 6 oZ (k6 (aa 0) (dr (aa 4)) (dr (aa 5)))) (ar (sS 7 oZ (k6 (aa 0) (dr (aa 5)) (dr (aa 1)))) (ar (cD (cr (gY hr) (aa 2) fB) (aG (sS 6 oZ (aa 3))) (aG (sS 7 oZ (aa 3)))) (ar (sS 8 oZ (eT (ae (bF cH (gl Cz B.int pL (ae (rd yR (bK dO B.len bE (ae (aa 6) ax)) aB) ax)) (bF js aB (gl Cz B.int pL (ae (rd yR (bK dO B.len bE (ae (aa 7) ax)) aB) ax)))) (ae (bd (bd (aa 0) (aa 1)) aB) ax)))) (aG (bq (bF cH (bF cH (bF cH (bF cH (k6 (aa 0) fg (dr (aa 4))) (aa 6)) (aa 7)) (eT (ae (aa 8) ax))) (k6 (aa 0) (dr (bF cH (aa 1) aB)) fg)))))))))
def Mq:FS:=(aK (ba 1 (cq 3 li (ah (cq 2 nU (ah (ag 0) (ah (eI 0) aE))) (ah (eI 4) (ah (eI 100003) aE))))) (aK (ba 2 (cq 3 x9 (ah (cq 2 nU (ah (ag 0) (ah (eI 1) aE))) (ah (eI 4) (ah (eI 200017) aE))))) (aK (ba 3 (e2 cQ (eI 1) (e2 i7 (e2 bj (ag 1) (eI 0)) (eI 4)))) (aK (ba 4 (Jw nI (eC (.str [])) (ah (bG kj (ah (qD (ag 2) gO (eW (e2 i7 (e2 bj (ag 1) (eI 1)) (eI 3)))) aE)) aE))) (aK (fO (eG (e2 iC (ag 3) (eI 4))) (ba 4 (qD (ag 4) gO (eW (eI 1)))) bM) (aK (ba 5 (e2 cQ (ag 3) (e2 iE (e2 iE (ag 3) (ag 3)) (e2 AB (eI 1) (bG dG (ah (ag 4) aE)))))) (aK (ba 6 (cq 4 Bg (ah (ag 4) (ah (ag 3) (ah (ag 3) (ah (cq 3 li (ah (cq 2 nU (ah (ag 0) (ah (eI 2) aE))) (ah (ag 5) (ah (eI 300007) aE)))) aE)))))) (aK (ba 7 (e2 i7 (e2 bj (ag 1) (eI 2)) (eI 8))) (aK (fO (eG (e2 iC (e2 i7 (e2 bj (ag 1) (eI 3)) (eI 4)) (eI 1))) (ba 7 (e2 i7 (e2 bj (ag 1) (eI 2)) (eI 41))) bM) (cS (gg (ah (ag 6) (ah (cq 2 v8 (ah (cq 3 li (ah (cq 2 nU (ah (ag 0) (ah (eI 3) aE))) (ah (ag 7) (ah (eI 400009) aE)))) (ah (ag 2) aE))) (ah (ag 2) aE))))))))))))))
def Bj:List W->List am->R W:=c9 8 Mq
theorem OY(F:iA K "_law_start" "_law_start" HC f fd)(B:Bl mg)(sm:bY P w K mg base 1 "_law_cell" 2 nU)(pD:bY P w K mg base 2 "_law_draws" 3 li)(Jn:bY P w K mg base 1 "_law_machine" 4 Bg)(IY:bY P w K mg base 3 "_law_pool" 3 x9)(yt:bY P w K mg base 2 "_law_tree" 2 v8):c7 P w K mg base (hZ P w) 4 f fd L5 (iD K mg 1 Bj):=
 bP (k:=3) F mj rfl fun fq A outer s H E hr=>(ar (sS 1 mj (bR pD hr #[0] (ae (bR sm hr #[0] (ae (aa 0) (ae aB ax))) (ae aB (ae aB ax))))) (ar (sS 2 mj (bR IY hr #[0] (ae (bR sm hr #[0] (ae (aa 0) (ae aB ax))) (ae aB (ae aB ax))))) (ar (sS 3 mj (bF cH aB (bF iB #[20] aB))) (ar (sS 4 mj (Kq PySem.F.slot_str_join PySem.F.type_str_join uY fB (ae (bK yY B.sorted pK (ae (k6 (aa 2) fg (dr (bF iB #[20] aB))) ax)) ax))) (ar (cD (cr (gY hr) (aa 3) aB) (aG (sS 4 mj (k6 (aa 4) fg (dr aB)))) bN) (ar (sS 5 mj (bF cH (aa 3) (bF js (bF js (aa 3) (aa 3)) (bF Lq aB (bK dO B.len bE (ae (aa 4) ax)))))) (ar (sS 6 mj (bR Jn hr #[0] (ae (aa 4) (ae (aa 3) (ae (aa 3) (ae (bR pD hr #[0] (ae (bR sm hr #[0] (ae (aa 0) (ae aB ax))) (ae (aa 5) (ae aB ax)))) ax)))))) (ar (sS 7 mj (bF iB #[20] aB)) (ar (cD (cr (gY hr) (bF iB #[20] aB) aB) (aG (sS 7 mj (bF iB #[20] aB))) bN) (aG (bq (eT (ae (aa 6) (ae (bR yt hr #[0] (ae (bR pD hr #[0] (ae (bR sm hr #[0] (ae (aa 0) (ae aB ax))) (ae (aa 7) (ae aB ax)))) (ae (aa 2) ax))) (ae (aa 2) ax)))))))))))))))
def Mr:FS:=(aK (ba 5 (cq 3 li (ah (cq 2 nU (ah (ag 0) (ah (e2 cQ (eI 4) (ag 1)) aE))) (ah (eI 12) (ah (e2 cQ (eI 500009) (e2 iE (eI 101) (ag 1))) aE))))) (aK (ba 6 (cq 2 v8 (ah (qD (ag 5) (eW (eI 6)) (eW (e2 cQ (eI 6) (e2 i7 (e2 bj (ag 5) (eI 5)) (eI 6))))) (ah (ag 4) aE)))) (aK (ba 7 (e2 i7 (e2 bj (ag 5) (eI 0)) (ag 2))) (aK (fO (eG (e2 iC (ag 7) (eI 8))) (cS (gg (ah (eC (.str [98,97,99,107])) aE))) bM) (aK (fO (eG (e2 iC (ag 7) (eI 9))) (cS (gg (ah (eC (.str [97,103,97,105,110])) aE))) bM) (aK (fO (Ju (eG (e2 iC (ag 7) (eI 7))) (eG (e2 iC (bG dG (ah (ag 3) aE)) (eI 0)))) (cS (gg (ah (eC (.str [119,104,111,108,101])) (ah (ag 6) aE)))) bM) (aK (ba 8 (e2 i7 (e2 cQ (e2 iE (eI 64) (e2 bj (ag 5) (eI 1))) (e2 bj (ag 5) (eI 2))) (bG dG (ah (ag 3) aE)))) (aK (fO (eG (e2 NN (ag 7) (eI 4))) (cS (gg (ah (e2 bj (ki (ah (eC (.str [112,117,116])) (ah (eC (.str [116,97,107,101])) aE))) (e2 uc (ag 7) (eI 2))) (ah (ag 8) (ah (e2 bj (ag 4) (e2 i7 (e2 bj (ag 5) (eI 3)) (eI 4))) aE))))) bM) (cS (gg (ah (eC (.str [98,114,97,110,99,104])) (ah (ag 8) (ah (e2 bj (ki (ah (eC (.str [108,101,102,116])) (ah (eC (.str [114,105,103,104,116])) aE))) (e2 i7 (e2 bj (ag 5) (eI 4)) (eI 2))) (ah (ag 6) aE))))))))))))))
def mL:List W->List am->R W:=c9 9 Mr
theorem OZ(F:iA K "_law_planned" "_law_planned" HD f fd)(B:Bl mg)(sm:bY P w K mg base 1 "_law_cell" 2 nU)(pD:bY P w K mg base 2 "_law_draws" 3 li)(yt:bY P w K mg base 2 "_law_tree" 2 v8):c7 P w K mg base (hZ P w) 3 f fd L6 (iD K mg 5 mL):=
 bP (k:=2) F vV rfl fun fq A outer s H E hr=>(ar (sS 5 vV (bR pD hr #[0] (ae (bR sm hr #[0] (ae (aa 0) (ae (bF cH aB (aa 1)) ax))) (ae aB (ae (bF cH aB (bF js aB (aa 1))) ax))))) (ar (sS 6 vV (bR yt hr #[0] (ae (k6 (aa 5) (dr aB) (dr (bF cH aB (bF iB (bd (aa 5) aB) aB)))) (ae (aa 4) ax)))) (ar (sS 7 vV (bF iB (bd (aa 5) aB) (aa 2))) (ar (cD (cr (gY hr) (aa 7) aB) (aG (bq (eT (ae fB ax)))) bN) (ar (cD (cr (gY hr) (aa 7) aB) (aG (bq (eT (ae fB ax)))) bN) (ar (cD (Ki (DG (cr (gY hr) (aa 7) aB) (yP (cr (gY hr) (bK dO B.len bE (ae (aa 3) ax)) aB)))) (aG (bq (eT (ae fB (ae (aa 6) ax))))) bN) (ar (sS 8 vV (bF iB (bF cH (bF js aB (bd (aa 5) aB)) (bd (aa 5) aB)) (bK dO B.len bE (ae (aa 3) ax)))) (ar (cD (cr w_lt (aa 7) aB) (aG (bq (eT (ae (bd (iN (ae fB (ae fB ax))) (bF sX (aa 7) aB)) (ae (aa 8) (ae (bd (aa 4) (bF iB (bd (aa 5) aB) aB)) ax)))))) bN) (aG (bq (eT (ae fB (ae (aa 8) (ae (bd (iN (ae fB (ae fB ax))) (bF iB (bd (aa 5) aB) aB)) (ae (aa 6) ax)))))))))))))))
def Sd:FS:=(aK (fO (eG (e2 iC (e2 bj (ag 1) (eI 0)) (eC (.str [119,104,111,108,101])))) (cS (e2 bj (ag 1) (eI 1))) bM) (aK (fO (eG (e2 iC (e2 bj (ag 1) (eI 0)) (eC (.str [98,114,97,110,99,104])))) (cS (cq 4 Bi (ah (ag 0) (ah (e2 bj (ag 1) (eI 1)) (ah (e2 bj (ag 1) (eI 2)) (ah (e2 bj (ag 1) (eI 3)) aE)))))) bM) (aK (uE (e2 bj (ag 0) (e2 bj (ag 1) (eI 1))) (Fz 2 (fC (jD 2) (fC (jD 3) oI)))) (aK (uE (j6 [none,some 1] (gB (ag 3)) (jD 0) (eG (e2 Jv (ag 0) (e2 bj (ag 1) (eI 2)))) (ag 0)) (jD 3)) (aK (fO (eG (e2 iC (e2 bj (ag 1) (eI 0)) (eC (.str [112,117,116])))) (c6 (k9 bW (ag 3) (ah (e2 bj (ag 1) (eI 2)) aE))) bM) (cS (e2 cQ (e2 cQ (qD (ag 0) gO (eW (e2 bj (ag 1) (eI 1)))) (gg (ah (gg (ah (ag 2) (ah (Jw nI (eC (.str [])) (ah (bG kj (ah (ag 3) aE)) aE)) aE))) aE))) (qD (ag 0) (eW (e2 cQ (e2 bj (ag 1) (eI 1)) (eI 1))) gO))))))))
def pd:List W->List am->R W:=c9 4 Sd
theorem O0(F:iA K "_law_changed" "_law_changed" HE f fd)(B:Bl mg)(IN:bY P w K mg base 3 "_law_branched" 4 Bi):c7 P w K mg base (hZ P w) 4 f fd L7 (iD K mg 2 pd):=
 bP (k:=3) F zt rfl fun fq A outer s H E hr=>(ar (cD (cr (gY hr) #[20] fB) (aG (bq #[20])) bN) (ar (cD (cr (gY hr) #[20] fB) (aG (bq (bR IN hr #[0] (ae (aa 0) (ae #[20] (ae #[20] (ae #[20] ax))))))) bN) (ar (yS (bd (aa 0) #[20]) (md rfl (dJ (sG 2 zt) (dJ (sG 3 zt) jX)))) (ar (qE (sG 3 zt) (nm:=["_law_letter_here","_law_deed"]) (cap:=[none,some 1]) (by first|rfl|kernel_rfl) rfl (k_ (aa 3)) (fun _ _ _ _ _=>(sC 0)) (fun _ _ _ _ _=>(DO (cr (NP hr) (aa 0) #[20]))) (fun _ _ _ _ _=>(aa 0))) (ar (cD (cr (gY hr) #[20] fB) (aG (cI (lN PySem.F.slot_list_append PySem.F.type_list_append cY (aa 3) (ae #[20] ax)))) bN) (aG (bq (bF cH (bF cH (k6 (aa 0) fg (dr #[20])) (eT (ae (eT (ae (aa 2) (ae (Kq PySem.F.slot_str_join PySem.F.type_str_join uY fB (ae (bK yY B.sorted pK (ae (aa 3) ax)) ax)) ax))) ax))) (k6 (aa 0) (dr (bF cH #[20] aB)) fg)))))))))
def Se:FS:=(aK (fO (eG (e2 iC (e2 bj (ag 1) (eI 0)) (eC (.str [112,117,116])))) (cS (iP "Kept" "put" 3 jQ (ag 0) (ah (e2 bj (ag 1) (eI 1)) (ah (e2 bj (ag 1) (eI 2)) aE)))) bM) (aK (fO (eG (e2 iC (e2 bj (ag 1) (eI 0)) (eC (.str [116,97,107,101])))) (cS (iP "Kept" "take" 3 jd (ag 0) (ah (e2 bj (ag 1) (eI 1)) (ah (e2 bj (ag 1) (eI 2)) aE)))) bM) (aK (fO (eG (e2 iC (e2 bj (ag 1) (eI 0)) (eC (.str [98,114,97,110,99,104])))) (cS (iP "Kept" "branch" 4 gW (ag 0) (ah (e2 bj (ag 1) (eI 1)) (ah (e2 bj (ag 1) (eI 2)) (ah (e2 bj (ag 1) (eI 3)) aE))))) bM) (aK (fO (eG (e2 iC (e2 bj (ag 1) (eI 0)) (eC (.str [119,104,111,108,101])))) (cS (iP "Kept" "whole" 2 il (ag 0) (ah (e2 bj (ag 1) (eI 1)) aE))) bM) (aK (fO (eG (e2 iC (e2 bj (ag 1) (eI 0)) (eC (.str [98,97,99,107])))) (cS (iP "Kept" "back" 1 je (ag 0) aE)) bM) (cS (iP "Kept" "again" 1 im (ag 0) aE)))))))
def lY:List W->List am->R W:=c9 2 Se
theorem O1(F:iA K "_law_doing" "_law_doing" HF f fd) (nu:iH P w K mg base 8 "Kept" "again" 1 im)(pE:iH P w K mg base 8 "Kept" "back" 1 je)(mq:iH P w K mg base 9 "Kept" "branch" 4 gW)(qR:iH P w K mg base 10 "Kept" "put" 3 jQ)(pF:iH P w K mg base 10 "Kept" "take" 3 jd)(nv:iH P w K mg base 9 "Kept" "whole" 2 il):c7 P w K mg base (hZ P w) 11 f fd L8 (iD K mg 2 lY):=
 bP (k:=10) F Ou rfl fun fq A outer s H E hr=>(ar (cD (cr (gY hr) #[20] fB) (aG (bq (ko qR hr #[0] (aa 0) (ae #[20] (ae #[20] ax))))) bN) (ar (cD (cr (gY hr) #[20] fB) (aG (bq (ko pF hr #[0] (aa 0) (ae #[20] (ae #[20] ax))))) bN) (ar (cD (cr (gY hr) #[20] fB) (aG (bq (ko mq hr #[0] (aa 0) (ae #[20] (ae #[20] (ae #[20] ax)))))) bN) (ar (cD (cr (gY hr) #[20] fB) (aG (bq (ko nv hr #[0] (aa 0) (ae #[20] ax)))) bN) (ar (cD (cr (gY hr) #[20] fB) (aG (bq (rE pE hr #[0] (aa 0)))) bN) (aG (bq (rE nu hr #[0] (aa 0)))))))))
def Ms:FS:=(aK (ba 1 Lz) (aK (ba 2 (cq 1 v9 (ah (ag 0) aE))) (aK (k7 (dP (ah (bG dG (ah (ag 2) aE)) aE)) (jD 3) (k7 (gB (gg (ah (eI 0) (ah (eI 1) aE)))) (jD 4) (fO (eG (gA (e2 bj (e2 bj (ag 2) (ag 3)) (ag 4)))) (wY (ag 1) (e2 bj (e2 bj (ag 2) (ag 3)) (ag 4)) (ag 3) xU) bM))) (cS (ag 1)))))
def ya:List W->List am->R W:=c9 5 Ms
theorem O6(F:iA K "_law_over" "_law_over" HG f fd)(B:Bl mg)(yw:bY P w K mg base 1 "_law_links" 1 v9):c7 P w K mg base (hZ P w) 2 f fd L9 (iD K mg 1 ya):=
 bP (k:=1) F vX rfl fun fq A outer s H E hr=>(ar (sS 1 vX N2) (ar (sS 2 vX (bR yw hr #[0] (ae (aa 0) ax))) (ar (gZ (gU B.range (ae (bK dO B.len bE (ae (aa 2) ax)) ax)) (sG 3 vX) (aG (gZ (k_ (eT (ae aB (ae aB ax)))) (sG 4 vX) (aG (cD (ij (bd (bd (aa 2) (aa 3)) (aa 4))) (aG (yT (N1 hr) (aa 3) (aa 1) (bd (bd (aa 2) (aa 3)) (aa 4)))) bN))))) (aG (bq (aa 1))))))
def Sf:FS:=(aK (ba 5 (cq 2 ur (ah (ag 0) #[21]))) (aK (ba 6 (cq 2 ur (ah (ag 0) (ah (ag 3) aE)))) (aK (ba 7 (cq 1 ya #[21])) (aK (ba 8 (cq 1 ya (ah (ag 3) aE))) (aK (ba 9 (eI 0)) (aK (mW (eG (gA (ag 2))) (aK (ba 9 (e2 cQ (ag 9) (eI 1))) (aK (fO (eG (e2 iC (e2 bj (ag 5) (ag 2)) (e2 bj (ag 6) (ag 4)))) (cS (ag 9)) bM) (aK (ba 2 (qH (ag 7) (ag 2))) (ba 4 (qH (ag 8) (ag 4))))))) (cS (ag 9))))))))
def yb:List W->List am->R W:=c9 10 Sf
theorem O7(F:iA K "_law_climbed" "_law_climbed" HH f fd) (Eh:bY P w K mg base 2 "_law_over" 1 ya)(yq:bY P w K mg base 2 "_law_run" 2 ur):c7 P w K mg base (hZ P w) 3 f fd L_ (iD K mg 5 yb):=
 bP (k:=2) F m9 rfl fun fq A outer s H E hr=>(ar (sS 5 m9 (bR yq hr #[0] (ae (aa 0) (ae (aa 1) ax)))) (ar (sS 6 m9 (bR yq hr #[0] (ae (aa 0) (ae (aa 3) ax)))) (ar (sS 7 m9 (bR Eh hr #[0] (ae (aa 1) ax))) (ar (sS 8 m9 (bR Eh hr #[0] (ae (aa 3) ax))) (ar (sS 9 m9 aB) (ar (vz (ij (aa 2)) (ar (sS 9 m9 (bF cH (aa 9) aB)) (ar (cD (cr (gY hr) (bd (aa 5) (aa 2)) (bd (aa 6) (aa 4))) (aG (bq (aa 9))) bN) (ar (sS 2 m9 (DU hr (aa 7) (aa 2))) (aG (sS 4 m9 (DU hr (aa 8) (aa 4)))))))) (aG (bq (aa 9)))))))))
def Sg:FS:=(aK (fO (eG (e2 iC (e2 bj (ag 3) (eI 0)) (eC (.str [119,104,111,108,101])))) (cS (gg (ah (ag 1) (ah (ag 2) (ah (bG dG (ah (ag 2) aE)) (ah (bG dG #[21]) aE)))))) bM) (aK (ba 4 (e2 bj (ag 3) (eI 1))) (aK (fO (eG (e2 Jv (e2 bj (ag 3) (eI 0)) (eC (.str [98,114,97,110,99,104])))) (aK (ba 5 (cq 5 yb (ah (ag 0) (ah (ag 1) (ah (ag 4) (ah (ag 2) (ah (ag 4) aE))))))) (cS (gg (ah (ag 1) (ah (ag 2) (ah (ag 5) (ah (ag 5) aE))))))) bM) (aK (uE (cq 2 v_ (ah (ag 1) (ah (ag 4) aE))) (Fz 2 (fC (jD 6) (fC (jD 7) oI)))) (aK (ba 8 (e2 kQ (ag 7) (ag 6))) (aK (fO (eG (e2 iC (e2 bj (ag 3) (eI 2)) (eC (.str [114,105,103,104,116])))) (ba 8 (e2 kQ (ag 4) (ag 7))) bM) (aK (ba 9 (bG dG (ah (e2 bj (ag 3) (eI 3)) aE))) (aK (ba 5 (cq 5 yb (ah (ag 0) (ah (ag 1) (ah (ag 4) (ah (ag 2) (ah (e2 kQ (e2 cQ (ag 4) (ag 9)) (ag 8)) aE))))))) (cS (gg (ah (ag 1) (ah (ag 2) (ah (e2 cQ (ag 5) (ag 9)) (ah (e2 cQ (ag 5) (ag 8)) aE))))))))))))))
def rY:List W->List am->R W:=c9 10 Sg
theorem O8(F:iA K "_law_deed_row" "_law_deed_row" HI f fd)(B:Bl mg)(yu:bY P w K mg base 2 "_law_bounds" 2 v_)(Ed:bY P w K mg base 3 "_law_climbed" 5 yb):c7 P w K mg base (hZ P w) 4 f fd L' (iD K mg 4 rY):=
 bP (k:=3) F m_ rfl fun fq A outer s H E hr=>(ar (cD (cr (gY hr) (bd (aa 3) aB) fB) (aG (bq (eT (ae (aa 1) (ae (aa 2) (ae (bK dO B.len bE (ae (aa 2) ax)) (ae (bK dO B.len bE (ae (aa 1) ax)) ax))))))) bN) (ar (sS 4 m_ (bd (aa 3) aB)) (ar (cD (cr (NP hr) (bd (aa 3) aB) fB) (ar (sS 5 m_ (bR Ed hr #[0] (ae (aa 0) (ae (aa 1) (ae (aa 4) (ae (aa 2) (ae (aa 4) ax))))))) (aG (bq (eT (ae (aa 1) (ae (aa 2) (ae (aa 5) (ae (aa 5) ax)))))))) bN) (ar (yS (bR yu hr #[0] (ae (aa 1) (ae (aa 4) ax))) (md rfl (dJ (sG 6 m_) (dJ (sG 7 m_) jX)))) (ar (sS 8 m_ (bF j4 (aa 7) (aa 6))) (ar (cD (cr (gY hr) (bd (aa 3) aB) fB) (aG (sS 8 m_ (bF j4 (aa 4) (aa 7)))) bN) (ar (sS 9 m_ (bK dO B.len bE (ae (bd (aa 3) aB) ax))) (ar (sS 5 m_ (bR Ed hr #[0] (ae (aa 0) (ae (aa 1) (ae (aa 4) (ae (aa 2) (ae (bF j4 (bF cH (aa 4) (aa 9)) (aa 8)) ax))))))) (aG (bq (eT (ae (aa 1) (ae (aa 2) (ae (bF cH (aa 5) (aa 9)) (ae (bF cH (aa 5) (aa 8)) ax)))))))))))))))
def Si:FS:=(aK (fO (Ju (Fw (eG (cq 2 (kK 40) (ah (iP "Kept" "reckoned" 1 fR (ag 0) aE) (ah (ag 2) aE))))) (Fw (eG (cq 2 (kK 40) (ah (iP "Kept" "tree_now" 1 gQ (ag 0) aE) #[21]))))) (cS (eC (.bl false))) bM) (cS (cq 2 (kK 40) (ah (iP "Kept" "reckoned" 1 fR (ag 0) aE) (ah (ag 2) aE)))))
def ut:List W->List am->R W:=c9 3 Si
theorem O9(F:iA K "_law_counted" "_law_counted" HJ f fd) (iS:iH P w K mg base 1 "Kept" "reckoned" 1 fR)(kA:iH P w K mg base 1 "Kept" "tree_now" 1 gQ)(wI:bY P w K mg base 40 "_law_same" 2 (kK 40)):c7 P w K mg base (hZ P w) 41 f fd Ma (iD K mg 3 ut):=
 bP (k:=40) F Ov rfl fun fq A outer s H E hr=>(ar (cD (Ki (DG (sU (kh (bR wI hr #[0] (ae (rE iS hr #[0] (aa 0)) (ae (aa 2) ax))))) (yP (sU (kh (bR wI hr #[0] (ae (rE kA hr #[0] (aa 0)) (ae (aa 1) ax)))))))) (aG (bq Co)) bN) (aG (bq (bR wI hr #[0] (ae (rE iS hr #[0] (aa 0)) (ae (aa 2) ax))))))
def Mt:FS:=(aK (uE (cq 1 Bj (ah (ag 0) aE)) (Fz 3 (fC (jD 1) (fC (jD 2) (fC (jD 3) oI))))) (aK (ba 4 (DV "Kept" 3 gP (ah (ag 1) (ah (ag 2) aE)))) (aK (fO (Fw (eG (cq 3 ut (ah (ag 4) (ah (ag 2) (ah (bG dG (ah (ag 2) aE)) aE)))))) (cS (eC (.bl false))) bM) (aK (ba 5 (ki aE)) (aK (ba 6 (ki aE)) (aK (k7 (dP (ah (bG EV (ah (eI 59) (ah (bG Cr (ah (eI 3) (ah (e2 kQ (bG dG (ah (ag 0) aE)) (eI 4)) aE))) aE))) aE)) (jD 7) (aK (ba 8 (cq 5 mL (ah (ag 0) (ah (ag 7) (ah (eI 10) (ah (ag 2) (ah (ag 3) aE))))))) (aK (fO (eG (e2 iC (e2 bj (ag 8) (eI 0)) (eC (.str [98,97,99,107])))) (aK (fO (eG (e2 iC (bG dG (ah (ag 5) aE)) (eI 0))) vy bM) (aK (c6 (k9 bW (ag 6) (ah (k9 mE (ag 5) aE) aE))) (aK (ba 2 (e2 bj (e2 bj (ag 6) (oK (eI 1))) (eI 0))) (ba 9 (e2 bj (e2 bj (ag 6) (oK (eI 1))) (eI 3)))))) (fO (eG (e2 iC (e2 bj (ag 8) (eI 0)) (eC (.str [97,103,97,105,110])))) (aK (fO (eG (e2 iC (bG dG (ah (ag 6) aE)) (eI 0))) vy bM) (aK (c6 (k9 bW (ag 5) (ah (k9 mE (ag 6) aE) aE))) (aK (ba 2 (e2 bj (e2 bj (ag 5) (oK (eI 1))) (eI 1))) (ba 9 (e2 bj (e2 bj (ag 5) (oK (eI 1))) (eI 2)))))) (aK (ba 10 (cq 2 pd (ah (ag 2) (ah (ag 8) aE)))) (aK (fO (eG (e2 Fx (bG dG (ah (ag 10) aE)) (eI 100))) vy bM) (aK (c6 (k9 bW (ag 5) (ah (cq 4 rY (ah (ag 1) (ah (ag 2) (ah (ag 10) (ah (ag 8) aE))))) aE))) (aK (ba 6 (ki aE)) (aK (ba 2 (ag 10)) (ba 9 (e2 bj (e2 bj (ag 5) (oK (eI 1))) (eI 2)))))))))) (aK (c6 (cq 2 lY (ah (ag 4) (ah (ag 8) aE)))) (fO (Fw (eG (cq 3 ut (ah (ag 4) (ah (ag 2) (ah (ag 9) aE)))))) (cS (eC (.bl false))) bM))))) (cS (eC (.bl true)))))))))
def f_q45:List W->List am->R W:=c9 11 Mt
theorem O_(F:iA K "law" "law" rQ f fd)(B:Bl mg)(kB:KG P w K mg base 4 "Kept" 3 gP)(Ja:bY P w K mg base 4 "_law_changed" 2 pd)(Eg:bY P w K mg base 41 "_law_counted" 3 ut)(I0:bY P w K mg base 4 "_law_deed_row" 4 rY)(Jj:bY P w K mg base 11 "_law_doing" 2 lY)(IU:bY P w K mg base 3 "_law_planned" 5 mL)(Jk:bY P w K mg base 4 "_law_start" 1 Bj):c7 P w K mg base (hZ P w) 42 f fd HK (iD K mg 1 f_q45):=
 bP (k:=41) F ia rfl fun fq A outer s H E hr=>(ar (yS (bR Jk hr #[0] (ae (aa 0) ax)) (md rfl (dJ (sG 1 ia) (dJ (sG 2 ia) (dJ (sG 3 ia) jX))))) (ar (sS 4 ia (N4 kB hr #[0] (ae (aa 1) (ae (aa 2) ax)))) (ar (cD (sU (kh (bR Eg hr #[0] (ae (aa 4) (ae (aa 2) (ae (bK dO B.len bE (ae (aa 2) ax)) ax)))))) (aG (bq Co)) bN) (ar (sS 5 ia (iN ax)) (ar (sS 6 ia (iN ax)) (ar (gZ (gU B.range (ae (bK Rj B.min boot_min (ae aB (ae (bK Ri B.max boot_max (ae aB (ae (bF j4 (bK dO B.len bE (ae (aa 0) ax)) aB) ax))) ax))) ax)) (sG 7 ia) (ar (sS 8 ia (bR IU hr #[0] (ae (aa 0) (ae (aa 7) (ae aB (ae (aa 2) (ae (aa 3) ax))))))) (ar (cD (cr (gY hr) (bd (aa 8) aB) fB) (ar (cD (cr (gY hr) (bK dO B.len bE (ae (aa 5) ax)) aB) (aG oH) bN) (ar (cI (lN PySem.F.slot_list_append PySem.F.type_list_append cY (aa 6) (ae (qm PySem.F.slot_list_pop PySem.F.type_list_pop me (aa 5)) ax))) (ar (sS 2 ia (bd (bd (aa 6) (uf aB)) aB)) (aG (sS 9 ia (bd (bd (aa 6) (uf aB)) aB)))))) (aG (cD (cr (gY hr) (bd (aa 8) aB) fB) (ar (cD (cr (gY hr) (bK dO B.len bE (ae (aa 6) ax)) aB) (aG oH) bN) (ar (cI (lN PySem.F.slot_list_append PySem.F.type_list_append cY (aa 5) (ae (qm PySem.F.slot_list_pop PySem.F.type_list_pop me (aa 6)) ax))) (ar (sS 2 ia (bd (bd (aa 5) (uf aB)) aB)) (aG (sS 9 ia (bd (bd (aa 5) (uf aB)) aB)))))) (ar (sS 10 ia (bR Ja hr #[0] (ae (aa 2) (ae (aa 8) ax)))) (ar (cD (cr yR (bK dO B.len bE (ae (aa 10) ax)) aB) (aG oH) bN) (ar (cI (lN PySem.F.slot_list_append PySem.F.type_list_append cY (aa 5) (ae (bR I0 hr #[0] (ae (aa 1) (ae (aa 2) (ae (aa 10) (ae (aa 8) ax))))) ax))) (ar (sS 6 ia (iN ax)) (ar (sS 2 ia (aa 10)) (aG (sS 9 ia (bd (bd (aa 5) (uf aB)) aB))))))))))) (ar (cI (bR Jj hr #[0] (ae (aa 4) (ae (aa 8) ax)))) (aG (cD (sU (kh (bR Eg hr #[0] (ae (aa 4) (ae (aa 2) (ae (aa 9) ax)))))) (aG (bq Co)) bN)))))) (aG (bq Co))))))))
end
abbrev lO(n:Nat):Option W:=some (.loc n)
abbrev iO(q:Int):Option W:=some (.int q)
theorem Pa(ns:List α)(hl:0<ns.length)(k:Int):∃c∈ns,sO ns (k%((ns.length:Nat):Int))=some c:=by
 have h0:0<=k%((ns.length:Nat):Int):=iY _ #[0]
 have h1:k%((ns.length:Nat):Int)<ns.length:=lJ _ #[0]
 obtain⟨m,hm⟩:=Int.eq_ofNat_of_zero_le h0
 rw[hm]at h1 ⊢
 have h2:m<ns.length:=by omega
 exact⟨ns[m],dR _,ga (by simp[h2])⟩
theorem rZ(h:st[n]?=some (.ro (ns.map W.int)))(k:Int):∃c,nU [.loc n,.int k] st=.ok (.int c) st:=by
 by_cases hn:ns=[]
 ·subst hn
  refine⟨0,?_⟩
  apply pV;apply mh;apply cN
  ·(repeat' (first|with_reducible exact lg (rG h)|walk_at "ev1"))
  ·(walk_at "evs")
 ·have hl:0<ns.length:=List.length_pos_iff.mpr hn
  obtain⟨c,hc,e⟩:=Pa (ns.map W.int) (by simpa using hl) k
  obtain⟨c,_,rfl⟩:=c5.mp hc
  refine⟨c,?_⟩
  apply pV;apply bS
  ·apply cG
   ·(repeat' (first|with_reducible exact lg (rG h)|walk_at "ev1"))
    rw[bz,aD];omega
   ·(walk_at "evs")
  ·(repeat' (first|with_reducible exact lg (rG h)|with_reducible exact jG (rG h) e|walk_at "ev1"))
   rw[aD];omega
theorem HR(c k s:Int)(hk:-(2^64)<k/\k<2^64)(st:List am):∃r,0<=r/\x8 [.int c,.int k,.int s] st=.ok (.int r) st:=by
 have big:∀q:Int,0<=q%2147483647/\q%2147483647<2147483647:=fun q=>⟨iY _ #[13],lJ _ #[13]⟩
 refine⟨(((c+7*k*k+13*k+s)*69621%2147483647*((c+7*k*k+13*k+s)*69621%2147483647/1009+3)+31*k+s)%2147483629*48271)%1000000007,iY _ #[13],?_⟩
 apply pV;apply bS
 ·(walk_at "evs")<;>first|exact .inl #[13]|exact .inr #[13]|exact .inr hk
 ·(walk_at "evs")<;>first|exact .inl #[13]|exact .inr #[13]|exact .inl (by have:=big ((c+7*k*k+13*k+s)*69621);omega)
theorem ph(c s:Int)(m:Nat)(hm:m<=1000)(st:List am):∃ds:List Int,ds.length=m/\(∀d∈ds,0<=d)/\li [.int c,.int m,.int s] st=.ok #[5] (st++[.lst (ds.map W.int)]):=by
 suffices hh:j8 (zZ fun w bp=>∃j x,w=.loc (st.length+j)/\bp=st++x/\j=0/\∃ds:List Int,x=[.lst (ds.map W.int)]/\ds.length=m/\∀d∈ds,0<=d) (Me ([W.int c,.int m,.int s].map some++List.replicate (6-3) none) st) by
  obtain⟨j,x,⟨rfl,ds,rfl,h1,h2⟩,e⟩:=rJ hh
  exact⟨ds,h1,h2,e⟩
 apply aA
 ·(walk_at "evs")
 apply aA
 ·(walk_at "evs")
 have main:∀r0:Int,j8 (zZ fun w bp=>∃j x,w=.loc (st.length+j)/\bp=st++x/\j=0/\∃ds:List Int,x=[.lst (ds.map W.int)]/\ds.length=m/\∀d∈ds,0<=d)
   (aK (k7 (dP #[21]) (jD 5) (fO (eG (e2 Fx (ag 4) (eI 0))) (aK (c6 (k9 bW (ag 3) (ah (e2 i7 (ag 4) (eI 64)) aE))) (ba 4 (e2 uc (ag 4) (eI 64)))) (c6 (k9 bW (ag 3) (ah (cq 3 x8 (ah (ag 0) (ah (ag 5) (ah (ag 2) aE)))) aE))))) (cS (ag 3))
   [some (.int c),some (.int m),some (.int s),some #[5],some (.int r0),none] (st++[.lst []])):=by
  intro r0
  refine gi (fun i ρ bp=>∃(r:Int) (o:Option W) (ds:List Int),ρ=[some (.int c),some (.int m),some (.int s),some #[5],some (.int r),o]/\bp=st++[.lst (ds.map W.int)]/\ds.length=i/\∀d∈ds,0<=d) (jw (by(walk_at "evs");rfl) #[0])
   ⟨r0,none,[],rfl,rfl,rfl,by simp⟩ (fun _ _ _ _=>trivial) ?_ ?_
  ·rintro i w ρ bp hw ⟨r,o,ds,rfl,rfl,hd,h⟩
   obtain⟨hi,rfl⟩:=jM hw
   refine⟨_,rfl,?_⟩
   have hU:(st++[am.lst (ds.map W.int)])[st.length]?=some (.lst (ds.map W.int)):=by rw[dB];rfl
   have hsh:(ds.map W.int).length<mB:=by rw[aD,hd];show i<1000000;omega
   by_cases hr:0<r
   ·apply oO
    ·(walk_at "evs");simpa using hr
    apply aA
    ·(repeat' (first|with_reducible exact du hU|with_reducible exact nM hU hsh|walk_at "ev1"))
    rw[fx]
    apply dv
    ·(walk_at "evs")
    ·refine⟨_,_,rfl,r/64,_,ds++[r%64],rfl,by simp,by simp[hd],fun d hd'=>?_⟩
     rcases aW.mp hd' with hd'|hd'
     ·exact h d hd'
     ·rw[a8.mp hd'];exact iY _ #[13]
   ·obtain⟨q,hq,e⟩:=HR c (0+i) s #[0] (st++[am.lst (ds.map W.int)])
    apply oP
    ·(walk_at "evs");simpa using hr
    apply dv
    ·(repeat' (first|with_reducible exact du hU|with_reducible exact nM hU hsh|with_reducible exact e|walk_at "ev1"))
    ·refine⟨_,_,rfl,r,_,ds++[q],rfl,by rw[fx];simp,by simp[hd],fun d hd'=>?_⟩
     rcases aW.mp hd' with hd'|hd'
     ·exact h d hd'
     ·rw[a8.mp hd'];exact hq
  ·rintro ρ bp ⟨r,o,ds,rfl,rfl,hd,h⟩
   apply bO
   ·(walk_at "evs")
   ·exact⟨_,_,rfl,0,_,rfl,rfl,rfl,ds,rfl,by rw[hd];simpa using fD 0 m,h⟩
 by_cases hc:(10:Int)^18<=c
 ·apply aA
  ·apply cN
   ·(walk_at "evs")<;>simpa using hc
   ·(walk_at "evs")
  ·exact main c
 ·apply aA
  ·apply cG
   ·(walk_at "evs")<;>simpa using hc
   ·(walk_at "evs")
  ·exact main 0
abbrev LL:List Nat:=[65,66,67,68,69,70,71,72,73,74,75,76,77,78,79,80,81,82,83,84,85,86,87,88,89,90,97,98,99,100,101,102,103,104,105,106,107,108,109,110,111,112,113,114,115,116,117,118,119,120,121,122]
theorem KM(c s:Int)(m:Nat)(hm:m<=52)(st:List am):∃l:List Nat,l.length=m/\l.Nodup/\(∀d∈l,d∈LL)/\x9 [.int c,.int m,.int s] st=.ok (.str l) st:=by
 suffices hh:j8 (zZ fun w bp=>(∃x,bp=st++x)/\undWs st.length [w]=true/\∃l:List Nat,w=.str l/\l.length=m/\l.Nodup/\∀d∈l,d∈LL) (Mf ([W.int c,.int m,.int s].map some++List.replicate (7-3) none) st) by
  obtain⟨w,⟨l,rfl,h1,h2,h3⟩,e⟩:=rH hh
  exact⟨l,h1,h2,h3,e⟩
 obtain⟨ds,h1,h2,e⟩:=ph c s m #[0] st
 apply aA
 ·(walk_at "evs")
 apply aA
 ·(walk_at "evs")
 have hU:lstOf (st++[am.lst (ds.map W.int)]) st.length=some (ds.map W.int):=b8 (by rw[dB];rfl)
 refine gi (fun i ρ bp=>∃(r f:List Nat) (o o2:Option W),ρ=[iO c,iO m,iO s,some (.str r),some (.str f),o,o2]/\bp=st++[.lst (ds.map W.int)]/\f.length=i/\r.length+i=52/\(f++r).Perm LL) (y9 (by(repeat' (first|with_reducible exact e|walk_at "ev1"))) hU)
  ⟨LL,[],none,none,rfl,rfl,rfl,rfl,.refl _⟩ (fun i ρ bp h=>?_) ?_ ?_
 ·obtain⟨r,f,o,o2,rfl,rfl,_⟩:=h
  exact hU
 ·rintro i w ρ bp hw ⟨r,f,o,o2,rfl,rfl,hf,hr,hfl⟩
  obtain⟨d,hd,rfl⟩:∃d,ds[i]?=some d/\w=.int d:=by
   simp only[aI,fm]at hw
   obtain⟨d,h1,rfl⟩:=hw
   exact⟨d,h1,rfl⟩
  have hi:i<m:=by rw[<- h1];exact(au.mp hd).1
  obtain⟨q,hq,eq⟩:=iR (q:=d) (n:=r.length) #[0]
  have hL:r.length<=mB:=by show _<=1000000;omega
  have hLf:f.length<=mB:=by show _<=1000000;omega
  have hat:sO r (d%(r.length:Int))=some r[q]:=by rw[eq];exact ga (by simp[hq])
  refine⟨_,rfl,?_⟩
  apply aA
  ·(repeat' (first|with_reducible exact y8 hL|walk_at "ev1"))
   show 0<(r.length:Int);omega
  apply aA
  ·have ha:f.length+[r[q]].length<=mB:=by show _+1<=1000000;omega
   (repeat' (first|with_reducible exact GX hL hat|with_reducible exact CB ha|walk_at "ev1"))
  apply dv
  ·(repeat' (first|with_reducible exact GY hL|walk_at "ev1"))
   rw[eq,mY #[0],show((q:Int)+1)=((q+1:Nat):Int)from rfl,rK #[0],aM,cz]
   show _<=1000000;omega
  ·refine⟨_,_,rfl,_,_,_,_,rfl,rfl,by simp[hf],?_,?_⟩
   ·rw[eq,mY #[0],show((q:Int)+1)=((q+1:Nat):Int)from rfl,rK #[0],ai,aM,cz]
    omega
   ·rw[eq,mY #[0],show((q:Int)+1)=((q+1:Nat):Int)from rfl,rK #[0]]
    refine List.Perm.trans ?_ hfl
    rw[al]
    refine om f ?_
    have e:r=r.take q++r[q]::r.drop (q+1):=by rw[<- fQ hq,List.take_append_drop]
    have e2:(r[q]::(r.take q++r.drop (q+1))).Perm r:=(List.perm_middle.symm).trans (by rw[<- e])
    exact e2
 ·rintro ρ bp ⟨r,f,o,o2,rfl,rfl,hf,hr,hfl⟩
  apply bO
  ·(walk_at "evs")
  ·exact⟨_,_,rfl,⟨_,rfl⟩,rfl,f,rfl,by rw[hf];simpa using h1,(l8.mp (hfl.nodup_iff.mpr #[13])).1,fun d hd=>hfl.mem_iff.mp (b7 _ hd)⟩
structure Pl where
 b:Nat
 m:List Nat
def Pl.w(p:Pl):W:=.tup [.int p.b,.str p.m]
def bV(t:List Pl):W:=.tup (t.map Pl.w)
inductive St(n:Nat):List Nat->Nat->List Nat->Nat->Option Nat×Option Nat->Prop
 |z {S:List Nat}:St n S 0 (1::S) 1 (none,none)
 |l {a:Nat} {S:List Nat}:St n (a::S) 1 ((1+a)::S) (1+a) (some (n-1),none)
 |r {a:Nat} {S:List Nat}:St n (a::S) 2 ((1+a)::S) (1+a) (none,some (n-1))
 |b {c a:Nat} {S:List Nat}:St n (c::a::S) 3 ((1+c+a)::S) (1+c+a) (some (n-1-c),some (n-1))
inductive Gr:List Pl->List Nat->List Nat->List #[6]->Prop
 |nil:Gr [] [] [] []
 |snoc {ps:List Pl} {S S' sz:List Nat} {lk:List (Option Nat×Option Nat)} {b k:Nat} {m:List Nat} {x:Option Nat×Option Nat}:Gr ps S sz lk->St ps.length S b S' k x->Gr (ps++[⟨b,m⟩]) S' (sz++[k]) (lk++[x])
def At(sz:List Nat):List Nat->Nat->Prop
 |[],n=>n=0
 |a::S,n=>sz[n-1]?=some a/\a<=n/\1<=a/\At sz S (n-a)
theorem At.app{sz x:List Nat}:∀{S:List Nat} {n:Nat},n<=sz.length->At sz S n->At (sz++x) S n
 |[],_,_,h=>h
 |a::S,n,hn,⟨h1,h2,h3,h4⟩=>⟨by rw[aL (by omega)];exact h1,h2,h3,At.app (by omega) h4⟩
theorem St.at'{sz S':List Nat}{b k:Nat}(h:St n S b S' k x)(hn:sz.length=n)(ha:At sz S n):At (sz++[k]) S' (n+1):=by
 have hk:(sz++[k])[n+1-1]?=some k:=by rw[Nat.add_sub_cancel,<- hn];simp
 cases h with
 |z=>exact⟨hk,by omega,by omega,by rw[Nat.add_sub_cancel];exact ha.app (by omega)⟩
 |@l a S=>exact⟨hk,by have:=ha.2.1;omega,by omega,by rw[show n+1-(1+a)=n-a by omega];exact ha.2.2.2.app (by omega)⟩
 |@r a S=>exact⟨hk,by have:=ha.2.1;omega,by omega,by rw[show n+1-(1+a)=n-a by omega];exact ha.2.2.2.app (by omega)⟩
 |@b c a S=>exact⟨hk,by have:=ha.2.1;have:=ha.2.2.2.2.1;omega,by omega,by rw[show n+1-(1+c+a)=n-c-a by omega];exact ha.2.2.2.2.2.2.app (by omega)⟩
theorem Gr.ok{ps:List Pl}{sz:List Nat}{lk:List #[6]}(h:Gr ps S sz lk):sz.length=ps.length/\lk.length=ps.length/\At sz S ps.length:=by
 induction h with
 |nil=>exact⟨rfl,rfl,rfl⟩
 |snoc _ hs ih=>
  obtain⟨h1,h2,h3⟩:=ih
  exact⟨by simp[h1],by simp[h2],by rw[ai];exact hs.at' h1 h3⟩
theorem Gr.step{ps:List Pl}{sz:List Nat}{lk:List #[6]}(h:Gr ps S sz lk):∀i,i<ps.length->∃S1 S2 p k x,Gr (ps.take i) S1 (sz.take i) (lk.take i)/\ps[i]?=some p/\sz[i]?=some k/\lk[i]?=some x/\St i S1 p.b S2 k x/\Gr (ps.take (i+1)) S2 (sz.take (i+1)) (lk.take (i+1)):=by
 induction h with
 |nil=>intro i hi;simp at hi
 |@snoc ps S S' sz lk b k m x hg hs ih=>
  intro i hi
  obtain⟨l1,l2,_⟩:=hg.ok
  by_cases e:i=ps.length
  ·subst e
   refine⟨S,S',⟨b,m⟩,k,x,?_,by simp,by rw[<- l1];simp,by rw[<- l2];simp,hs,?_⟩
   ·rw[gy,<- l1,gy]
    rw[l1,<- l2,gy];exact hg
   ·rw[bB #[15],bB (by simp[l1]),bB (by simp[l2])]
    exact .snoc hg hs
  ·have hi':i<ps.length:=by simp at hi;omega
   obtain⟨S1,S2,p,k1,x1,g1,q1,q2,q3,hs1,g2⟩:=ih i hi'
   refine⟨S1,S2,p,k1,x1,?_,by rw[aL hi'];exact q1,by rw[aL #[0]];exact q2,by rw[aL #[0]];exact q3,hs1,?_⟩
   ·rw[cF #[0],cF #[0],cF #[0]];exact g1
   ·rw[cF #[0],cF #[0],cF #[0]];exact g2
theorem Gr.cut{ps:List Pl}{sz:List Nat}{lk:List #[6]}(h:Gr ps S sz lk)(hi:i<ps.length):∃(p:Pl) (L R:Nat),ps[i]?=some p/\sz[i]?=some (1+L+R)/\L+R<=i/\p.b<=3/\(0<L↔p.b%2=1)/\(0<R↔2<=p.b)/\(2<=p.b->1<=i/\sz[i-1]?=some R):=by
 obtain⟨S1,S2,p,k,x,g1,q1,q2,q3,hs,_⟩:=h.step i hi
 obtain⟨l1,l2,ha⟩:=g1.ok
 have fY:(ps.take i).length=i:=by rw[aM];omega
 rw[fY]at ha
 obtain⟨b,m⟩:=p
 have get:∀j a,1<=i->j=i-1->(sz.take i)[j]?=some a->sz[j]?=some a:=fun j a hi1 hj e=>by
  rw[cO #[0]]at e;exact e
 cases hs with
 |z=>exact⟨⟨0,m⟩,0,0,q1,q2,by omega,by simp,by simp,by simp,by simp⟩
 |@l a S=>
  have ha1:(sz.take i)[i-1]?=some a:=ha.1
  have ha2:a<=i:=ha.2.1
  have ha3:1<=a:=ha.2.2.1
  exact⟨⟨1,m⟩,a,0,q1,q2,by omega,by simp,by simp;omega,by simp,by simp⟩
 |@r a S=>
  have ha1:(sz.take i)[i-1]?=some a:=ha.1
  have ha2:a<=i:=ha.2.1
  have ha3:1<=a:=ha.2.2.1
  exact⟨⟨2,m⟩,0,a,q1,by rw[q2],by omega,by simp,by simp,by simp;omega,fun _=>⟨by omega,get _ _ #[0] rfl ha1⟩⟩
 |@b c a S=>
  have ha1:(sz.take i)[i-1]?=some c:=ha.1
  have ha2:c<=i:=ha.2.1
  have ha3:1<=c:=ha.2.2.1
  have hb2:a<=i-c:=ha.2.2.2.2.1
  have hb3:1<=a:=ha.2.2.2.2.2.1
  exact⟨⟨3,m⟩,a,c,q1,by rw[q2];congr 1<;>omega,by omega,by simp,by simp;omega,by simp;omega,fun _=>⟨by omega,get _ _ #[0] rfl ha1⟩⟩
theorem Sj{b:Nat}(h:b<=3)(st:List am):Fy false (.int b) (.tup [.int 1,.int 3]) st=.ok (.bl (decide (b%2=1))) st:=by
 obtain rfl|rfl|rfl|rfl:b=0\/b=1\/b=2\/b=3:=by omega
 all_goals rfl
theorem Sk{b:Nat}(h:b<=3)(st:List am):Fy false (.int b) (.tup [.int 2,.int 3]) st=.ok (.bl (decide (2<=b))) st:=by
 obtain rfl|rfl|rfl|rfl:b=0\/b=1\/b=2\/b=3:=by omega
 all_goals rfl
theorem KN{p:Pl}(h:p.b<=3)(st:List am):zv [p.w] st=.ok (.bl (decide (p.b%2=1))) st:=by
 have:=Sj h st
 have i0:bj p.w (.int 0) st=.ok (.int p.b) st:=rfl
 apply dQ
 apply bO
 ·(walk_at "evs")
 ·exact⟨_,_,rfl,rfl,rfl⟩
theorem Bk{p:Pl}(h:p.b<=3)(st:List am):v0 [p.w] st=.ok (.bl (decide (2<=p.b))) st:=by
 have:=Sk h st
 have i0:bj p.w (.int 0) st=.ok (.int p.b) st:=rfl
 apply dQ
 apply bO
 ·(walk_at "evs")
 ·exact⟨_,_,rfl,rfl,rfl⟩
def oW:Option Nat->W
 |none=>.non
 |some k=>.int k
def gH(x:Option Nat×Option Nat):W:=.tup [oW x.1,oW x.2]
def jl:List Nat->Nat->List Nat
 |[],_=>[]
 |a::S,n=>(n-1)::jl S (n-a)
theorem ip:∀(S:List Nat) (n:Nat),(jl S n).length=S.length
 |[],_=>rfl
 |a::S,n=>by simp[jl,ip S]
theorem At.le{sz:List Nat}:∀{S:List Nat} {n:Nat},At sz S n->S.length<=n
 |[],_,_=>cx _
 |a::S,n,⟨_,h2,h3,h4⟩=>by have:=At.le h4;simp;omega
theorem St.det{S1 S2:List Nat}{b k1 k2:Nat}{x1 x2:Option Nat×Option Nat}(h1:St n S b S1 k1 x1)(h2:St n S b S2 k2 x2):S1=S2/\k1=k2/\x1=x2:=by
 cases h1<;>cases h2<;>exact⟨rfl,rfl,rfl⟩
theorem Gr.det{ps:List Pl}{sz:List Nat}{lk:List #[6]}(h:Gr ps S sz lk):∀{Tt:List Pl} {S' US:List Nat} {P5:List #[6]},Gr Tt S' US P5->ps=Tt->S=S':=by
 induction h with
 |nil=>
  intro Tt S' US P5 h' e
  cases h' with
  |nil=>rfl
  |snoc _ _=>simp at e
 |snoc hg hs ih=>
  intro Tt S' US P5 h' e
  cases h' with
  |nil=>simp at e
  |snoc hg' hs'=>
   have e2:=List.append_inj' e rfl
   have:=ih hg' e2.1
   subst this
   have e3:Pl.mk _ _=Pl.mk _ _:=List.head_eq_of_cons_eq e2.2
   injection e3 with eb em
   subst eb
   rw[<- e2.1]at hs'
   exact(hs.det hs').1
def cV(l:List Nat):List W:=l.map fun k:Nat=>W.int k
section
variable{ps:List Pl}{sz:List Nat}{lk:List #[6]}
theorem r6(h:Gr ps S sz lk)(hn:ps.length<=1000)(st:List am):v3 [bV ps] st=.ok (.tup (lk.map gH)) st:=by
 obtain⟨l1,l2,_⟩:=h.ok
 have hu:∀(l:List #[6]) (n:Nat),undWs n (l.map gH)=true:=by
  intro l n
  induction l with
  |nil=>rfl
  |cons x r ih=>
   obtain⟨a,b⟩:=x
   simp only[a9,undWs,ih,dM,gH,W.und]
   cases a<;>cases b<;>rfl
 refine fE (N:=7) (ws:=[bV ps]) (body:=RX) ?_ (by simp[undWs,W.und,hu])
 apply aA
 ·(walk_at "evs")
 apply aA
 ·(walk_at "evs")
 rw[show(st++[am.lst []]).length=st.length+1 by simp,show st++[am.lst []]++[am.lst []]=st++[am.lst [],am.lst []] by simp]
 refine gi (fun i ρ bp=>∃(S1:List Nat) (o3 o4 o5 o6:Option W),ρ=[some (bV ps),some #[5],some (.loc (st.length+1)),o3,o4,o5,o6]/\bp=st++[.lst ((lk.take i).map gH),.lst (cV (jl S1 i).reverse)]/\Gr (ps.take i) S1 (sz.take i) (lk.take i)/\i<=ps.length) (k:=(lX (ps.map Pl.w),none))
  (by show qF (ah (ag 0) aE) _ _=_;unfold qF;rfl) ⟨[],none,none,none,none,rfl,rfl,.nil,cx _⟩ (fun _ _ _ _=>trivial) ?_ ?_
 ·rintro i w ρ bp hw ⟨S1,o3,o4,o5,o6,rfl,rfl,hg,hi⟩
  obtain⟨y,hy,rfl⟩:=tf hw
  have hip:i<ps.length:=by have:=(au.mp hy).1;simpa using this
  obtain⟨S1',S2,p,k,x,g1,q1,q2,q3,hs,g2⟩:=h.step i hip
  rw[aI,q1]at hy
  cases hy
  refine⟨_,rfl,?_⟩
  have hS:=hg.det g1 rfl
  subst hS
  obtain⟨lz,ll,ha⟩:=g1.ok
  have hti:(ps.take i).length=i:=by rw[aM];omega
  rw[hti]at ha lz ll
  have hSl:=ha.le
  obtain⟨p',L,R,q1',q2',_,hb3,hL,hR,_⟩:=h.cut hip
  rw[q1]at q1';cases q1'
  have hlk:lk.take (i+1)=lk.take i++[x]:=by rw[jB,q3];rfl
  have hrt:=fun st=>Bk (p:=p) hb3 st
  have hlf:=fun st=>KN (p:=p) hb3 st
  have pop:∀(A:List W) (B:List Nat) (q:Nat),mE (.loc (st.length+1)) [] (st++[.lst A,.lst (cV (q::B).reverse)])=.ok (.int q) (st++[.lst A,.lst (cV B.reverse)]):=fun A B q=>by
   have hc:(st++[am.lst A,.lst (cV (q::B).reverse)])[st.length+1]?=some (.lst (cV B.reverse++[.int q])):=by rw[hG];simp[cV]
   rw[vM hc,mF];rfl
  have isl:∀(A:List W) (B:List W),k8 (st++[.lst A,.lst B]) (.loc (st.length+1))=true:=fun A B=>du (by rw[hG];rfl)
  have isl0:∀(A:List W) (B:List W),k8 (st++[.lst A,.lst B]) #[5]=true:=fun A B=>du (by rw[dB];rfl)
  have app:∀(A:List W) (B:List Nat) (q:Nat),B.length<1000->bW (.loc (st.length+1)) [.int q] (st++[.lst A,.lst (cV B.reverse)])=.ok .non (st++[.lst A,.lst (cV (q::B).reverse)]):=fun A B q hB=>by
   have hc:(st++[am.lst A,.lst (cV B.reverse)])[st.length+1]?=some (.lst (cV B.reverse)):=by rw[hG];rfl
   rw[nM hc (by simp[cV];show _<1000000;omega),mF]
   simp[cV]
  have app0:∀(B:List W) (w:W),bW #[5] [w] (st++[.lst ((lk.take i).map gH),.lst B])=.ok .non (st++[.lst ((lk.take i).map gH++[w]),.lst B]):=fun B w=>by
   have hc:(st++[am.lst ((lk.take i).map gH),.lst B])[st.length]?=some (.lst ((lk.take i).map gH)):=by rw[dB];rfl
   rw[nM hc (by simp;show _<1000000;omega),fx];rfl
  have kL:∀(o3 o4 o5 o6:Option W) (B:List Nat),B=jl S2 (i+1)->KI (fun ρ bp=>∃(S1:List Nat) (o3 o4 o5 o6:Option W),ρ=[some (bV ps),some #[5],some (.loc (st.length+1)),o3,o4,o5,o6]/\bp=st++[.lst ((lk.take (i+1)).map gH),.lst (cV (jl S1 (i+1)).reverse)]/\Gr (ps.take (i+1)) S1 (sz.take (i+1)) (lk.take (i+1))/\i+1<=ps.length)
    (.nx [some (bV ps),some #[5],some (.loc (st.length+1)),o3,o4,o5,o6] (st++[.lst ((lk.take i).map gH++[gH x]),.lst (cV B.reverse)])):=by
   rintro o3 o4 o5 o6 B rfl
   exact⟨_,_,rfl,S2,_,_,_,_,rfl,by rw[hlk];simp,g2,by omega⟩
  obtain⟨b,m⟩:=p
  have hiS:∀T:List Nat,T.length<=i->(jl T i).length<1000:=fun T hT=>by rw[ip];omega
  cases hs with
  |@z=>
   have hr:v0 [(Pl.mk 0 m).w]=fun st=>.ok (.bl false) st:=funext hrt
   have hl:zv [(Pl.mk 0 m).w]=fun st=>.ok (.bl false) st:=funext hlf
   have a1:=app ((lk.take i).map gH) (jl S1 i) i (hiS _ hSl)
   have a2:=app0 (cV (i::jl S1 i).reverse) (.tup [.non,.non])
   apply aA
   ·apply a_
    apply uk
    ·(repeat' (first|with_reducible exact lK hr _|walk_at "ev1"))
    ·(walk_at "evs")
   apply aA
   ·apply a_
    apply uk
    ·(repeat' (first|with_reducible exact lK hl _|walk_at "ev1"))
    ·(walk_at "evs")
   apply aA
   ·(repeat' (first|with_reducible exact isl _ _|walk_at "ev1"))
   apply dv
   ·(repeat' (first|with_reducible exact isl0 _ _|walk_at "ev1"))
   ·exact kL _ _ _ _ (i::jl S1 i) rfl
  |@l a S=>
   have hr:v0 [(Pl.mk 1 m).w]=fun st=>.ok (.bl false) st:=funext hrt
   have hl:zv [(Pl.mk 1 m).w]=fun st=>.ok (.bl true) st:=funext hlf
   have hSl':S.length<=i:=by simp at hSl;omega
   have p1:=pop ((lk.take i).map gH) (jl S (i-a)) (i-1)
   have a1:=app ((lk.take i).map gH) (jl S (i-a)) i (by rw[ip];omega)
   have a2:=app0 (cV (i::jl S (i-a)).reverse) (.tup [.int (i-1:Nat),.non])
   apply aA
   ·apply a_
    apply uk
    ·(repeat' (first|with_reducible exact lK hr _|walk_at "ev1"))
    ·(walk_at "evs")
   apply aA
   ·apply a_
    apply uj
    ·(repeat' (first|with_reducible exact lK hl _|walk_at "ev1"))
    ·exact ik kv (isl _ _) aY p1
   apply aA
   ·(repeat' (first|with_reducible exact isl _ _|walk_at "ev1"))
   apply dv
   ·(repeat' (first|with_reducible exact isl0 _ _|walk_at "ev1"))
   ·exact kL _ _ _ _ (i::jl S (i-a)) (by simp only[jl];congr 1;congr 1;omega)
  |@r a S=>
   have hr:v0 [(Pl.mk 2 m).w]=fun st=>.ok (.bl true) st:=funext hrt
   have hl:zv [(Pl.mk 2 m).w]=fun st=>.ok (.bl false) st:=funext fun st=>(hlf st).trans (by rw[show decide ((Pl.mk 2 m).b%2=1)=false from by simp])
   have hSl':S.length<=i:=by simp at hSl;omega
   have p1:=pop ((lk.take i).map gH) (jl S (i-a)) (i-1)
   have a1:=app ((lk.take i).map gH) (jl S (i-a)) i (by rw[ip];omega)
   have a2:=app0 (cV (i::jl S (i-a)).reverse) (.tup [.non,.int (i-1:Nat)])
   apply aA
   ·apply a_
    apply uj
    ·(repeat' (first|with_reducible exact lK hr _|walk_at "ev1"))
    ·exact ik kv (isl _ _) aY p1
   apply aA
   ·apply a_
    apply uk
    ·(repeat' (first|with_reducible exact lK hl _|walk_at "ev1"))
    ·(walk_at "evs")
   apply aA
   ·(repeat' (first|with_reducible exact isl _ _|walk_at "ev1"))
   apply dv
   ·(repeat' (first|with_reducible exact isl0 _ _|walk_at "ev1"))
   ·exact kL _ _ _ _ (i::jl S (i-a)) (by simp only[jl];congr 1;congr 1;omega)
  |@b c a S=>
   have hr:v0 [(Pl.mk 3 m).w]=fun st=>.ok (.bl true) st:=funext hrt
   have hl:zv [(Pl.mk 3 m).w]=fun st=>.ok (.bl true) st:=funext fun st=>(hlf st).trans (by rw[show decide ((Pl.mk 3 m).b%2=1)=true from by simp])
   have hSl':S.length<=i:=by simp at hSl;omega
   have hca:(i-c-1)=(i-1-c):=by omega
   have p1:=pop ((lk.take i).map gH) ((i-1-c)::jl S (i-c-a)) (i-1)
   have p2:=pop ((lk.take i).map gH) (jl S (i-c-a)) (i-1-c)
   have a1:=app ((lk.take i).map gH) (jl S (i-c-a)) i (by rw[ip];omega)
   have a2:=app0 (cV (i::jl S (i-c-a)).reverse) (.tup [.int (i-1-c:Nat),.int (i-1:Nat)])
   have ht:jl (c::a::S) i=(i-1)::(i-1-c)::jl S (i-c-a):=by simp only[jl,hca]
   rw[ht]
   apply aA
   ·apply a_
    apply uj
    ·(repeat' (first|with_reducible exact lK hr _|walk_at "ev1"))
    ·exact ik kv (isl _ _) aY p1
   apply aA
   ·apply a_
    apply uj
    ·(repeat' (first|with_reducible exact lK hl _|walk_at "ev1"))
    ·exact ik kv (isl _ _) aY p2
   apply aA
   ·(repeat' (first|with_reducible exact isl _ _|walk_at "ev1"))
   apply dv
   ·(repeat' (first|with_reducible exact isl0 _ _|walk_at "ev1"))
   ·exact kL _ _ _ _ (i::jl S (i-c-a)) (by simp only[jl];congr 1;congr 1;omega)
 ·rintro ρ bp ⟨S1,o3,o4,o5,o6,rfl,rfl,hg,hi⟩
  have fY:(lX (ps.map Pl.w)).length=ps.length:=by simp[lX]
  have hc:(st++[am.lst ((lk.take (lX (ps.map Pl.w),(none:Option (Nat×List W))).1.length).map gH),.lst (cV (jl S1 (lX (ps.map Pl.w),(none:Option (Nat×List W))).1.length).reverse)])[st.length]?=some (.lst (lk.map gH)):=by
   rw[dB]
   show some (am.lst ((lk.take (lX (ps.map Pl.w)).length).map gH))=_
   rw[fY,bB #[0]]
  apply bO
  ·(repeat' (first|with_reducible exact oQ (b8 hc)|walk_at "ev1"))
  ·exact⟨_,_,rfl,rfl,_,rfl⟩
end
theorem lj(t:List Pl)(n:Nat):(bV t).und n=true:=by
 unfold bV W.und
 induction t with
 |nil=>rfl
 |cons x r ih=>simp only[a9,undWs,ih,dM];simp[Pl.w,W.und,undWs]
theorem gb(a:List Pl)(st:List am):dG [bV a] st=.ok (.int a.length) st:=by
 unfold bV
 rw[CC,aD]
theorem r9{a:List Pl}{p:Pl}(h:a[q]?=some p)(st:List am):bj (bV a) (.int q) st=.ok p.w st:=mI (ga (by simp[h]))
theorem CQ(p:Pl)(st:List am):bj p.w (.int 1) st=.ok (.str p.m) st:=rfl
theorem Pc(p:Pl)(st:List am):bj p.w (.int 0) st=.ok (.int p.b) st:=rfl
section
variable{ps:List Pl}{sz:List Nat}{lk:List #[6]}
theorem yc(h:Gr ps S sz lk)(hn:ps.length<=1000)(st:List am):∃x,(∃A,x=[am.lst A,.lst (lk.map gH)])/\v9 [bV ps] st=.ok (.loc (st.length+1)) (st++x):=by
 obtain⟨l1,l2,_⟩:=h.ok
 suffices hh:j8 (zZ fun w bp=>∃j x,w=.loc (st.length+j)/\bp=st++x/\j=1/\∃A,x=[am.lst A,.lst (lk.map gH)]) (Mi ([bV ps].map some++List.replicate (6-1) none) st) by
  obtain⟨j,x,⟨rfl,h1⟩,e⟩:=rJ hh
  exact⟨x,h1,e⟩
 apply aA
 ·(walk_at "evs")
 apply aA
 ·(walk_at "evs")
 rw[show(st++[am.lst []]).length=st.length+1 by simp,show st++[am.lst []]++[am.lst []]=st++[am.lst [],am.lst []] by simp]
 refine gi (fun i ρ bp=>∃(S1:List Nat) (o3 o4 o5:Option W),ρ=[some (bV ps),some #[5],some (.loc (st.length+1)),o3,o4,o5]/\bp=st++[.lst (cV (jl S1 i).reverse),.lst ((lk.take i).map gH)]/\Gr (ps.take i) S1 (sz.take i) (lk.take i)/\i<=ps.length)
  (jw (q:=(ps.length:Int)) (st1:=st++[am.lst [],am.lst []]) (av (cu kn (gb ps _)) aY) #[0]) ⟨[],none,none,none,rfl,rfl,.nil,cx _⟩ (fun _ _ _ _=>trivial) ?_ ?_
 ·rintro i w ρ bp hw ⟨S1,o3,o4,o5,rfl,rfl,hg,hi⟩
  obtain⟨hip,rfl⟩:=jM hw
  rw[bX]at hip
  obtain⟨S1',S2,p,k,x,g1,q1,q2,q3,hs,g2⟩:=h.step i hip
  refine⟨_,rfl,?_⟩
  have hS:=hg.det g1 rfl
  subst hS
  obtain⟨lz,ll,ha⟩:=g1.ok
  have hti:(ps.take i).length=i:=by rw[aM];omega
  rw[hti]at ha lz ll
  have hSl:=ha.le
  have hlk:lk.take (i+1)=lk.take i++[x]:=by rw[jB,q3];rfl
  have it:∀s:List am,bj (bV ps) (.int (0+(i:Int))) s=.ok p.w s:=fun s=>by rw[kW];exact r9 q1 s
  have pop:∀(A:List W) (B:List Nat) (q:Nat),mE #[5] [] (st++[.lst (cV (q::B).reverse),.lst A])=.ok (.int q) (st++[.lst (cV B.reverse),.lst A]):=fun A B q=>by
   have hc:(st++[am.lst (cV (q::B).reverse),.lst A])[st.length]?=some (.lst (cV B.reverse++[.int q])):=by rw[dB];simp[cV]
   rw[vM hc,fx];rfl
  have isl:∀(A:List W) (B:List W),k8 (st++[.lst A,.lst B]) (.loc (st.length+1))=true:=fun A B=>du (by rw[hG];rfl)
  have isl0:∀(A:List W) (B:List W),k8 (st++[.lst A,.lst B]) #[5]=true:=fun A B=>du (by rw[dB];rfl)
  have app:∀(A:List W) (B:List Nat),B.length<1001->bW #[5] [.int (0+(i:Int))] (st++[.lst (cV B.reverse),.lst A])=.ok .non (st++[.lst (cV (i::B).reverse),.lst A]):=fun A B hB=>by
   have hc:(st++[am.lst (cV B.reverse),.lst A])[st.length]?=some (.lst (cV B.reverse)):=by rw[dB];rfl
   rw[nM hc (by simp[cV];show _<1000000;omega),fx]
   simp[cV]
  have app1:∀(B:List W) (w:W),bW (.loc (st.length+1)) [w] (st++[.lst B,.lst ((lk.take i).map gH)])=.ok .non (st++[.lst B,.lst ((lk.take i).map gH++[w])]):=fun B w=>by
   have hc:(st++[am.lst B,.lst ((lk.take i).map gH)])[st.length+1]?=some (.lst ((lk.take i).map gH)):=by rw[hG];rfl
   rw[nM hc (by simp;show _<1000000;omega),mF];rfl
  have T1:∀(k:Bool) (ρ:cM) (s:List am),decide ((2:Int)<=(p.b:Int))=k->ρ[0]?=some (some (bV ps))->ρ[3]?=some (some (.int (0+(i:Int))))->eG (e2 NO (e2 bj (e2 bj (ag 0) (ag 3)) (eI 0)) (eI 2)) ρ s=.ok k s:=fun k ρ s e h0 h3=>aZ (bw (bw (bw (ju h0) (ju h3) (it s)) bU (Pc p s)) bU (GW e))
  have T2:∀(k:Bool) (ρ:cM) (s:List am),(((p.b:Int)%2)==1)=k->ρ[0]?=some (some (bV ps))->ρ[3]?=some (some (.int (0+(i:Int))))->eG (e2 iC (e2 i7 (e2 bj (e2 bj (ag 0) (ag 3)) (eI 0)) (eI 2)) (eI 1)) ρ s=.ok k s:=fun k ρ s e h0 h3=>aZ (bw (bw (bw (bw (ju h0) (ju h3) (it s)) bU (Pc p s)) bU (jv #[13])) bU (fX e))
  have kL:∀(o3 o4 o5:Option W) (B:List Nat),i::B=jl S2 (i+1)->KI (fun ρ bp=>∃(S1:List Nat) (o3 o4 o5:Option W),ρ=[some (bV ps),some #[5],some (.loc (st.length+1)),o3,o4,o5]/\bp=st++[.lst (cV (jl S1 (i+1)).reverse),.lst ((lk.take (i+1)).map gH)]/\Gr (ps.take (i+1)) S1 (sz.take (i+1)) (lk.take (i+1))/\i+1<=ps.length)
    (.nx [some (bV ps),some #[5],some (.loc (st.length+1)),o3,o4,o5] (st++[.lst (cV (i::B).reverse),.lst ((lk.take i).map gH++[gH x])])):=by
   rintro o3 o4 o5 B e
   exact⟨_,_,rfl,S2,_,_,_,rfl,by rw[hlk,e];simp,g2,by omega⟩
  have put:∀(lw oq:W) (o3:Option W) (B:List Nat),o3=some (.int (0+(i:Int)))->B.length<1001->gH x=.tup [lw,oq]->i::B=jl S2 (i+1) ->
    j8 (KI (fun ρ bp=>∃(S1:List Nat) (o3 o4 o5:Option W),ρ=[some (bV ps),some #[5],some (.loc (st.length+1)),o3,o4,o5]/\bp=st++[.lst (cV (jl S1 (i+1)).reverse),.lst ((lk.take (i+1)).map gH)]/\Gr (ps.take (i+1)) S1 (sz.take (i+1)) (lk.take (i+1))/\i+1<=ps.length))
     (aK (c6 (k9 bW (ag 2) (ah (gg (ah (ag 4) (ah (ag 5) aE))) aE))) (c6 (k9 bW (ag 1) (ah (ag 3) aE))) [some (bV ps),some #[5],some (.loc (st.length+1)),o3,some lw,some oq] (st++[.lst (cV B.reverse),.lst ((lk.take i).map gH)])):=by
   intro lw oq o3 B e3 hB hx hT
   subst e3
   have a1:=app1 (cV B.reverse) (.tup [lw,oq])
   have a2:=app ((lk.take i).map gH++[.tup [lw,oq]]) B hB
   have ff:=kL (some (.int (0+(i:Int)))) (some lw) (some oq) B hT
   rw[hx]at ff
   apply aA
   ·exact d7 (ik kv (isl _ _) (av (eX (av kv kn) (aq rfl)) aY) a1)
   apply dv
   ·exact d7 (ik kv (isl0 _ _) kn a2)
   ·exact ff
  apply aA
  ·exact a_ bU
  apply aA
  ·exact a_ bU
  obtain⟨b,m⟩:=p
  cases hs with
  |@z=>
   apply bD
   ·exact T1 false _ _ rfl rfl rfl
   apply b6
   apply bD
   ·exact T2 false _ _ rfl rfl rfl
   apply b6
   exact put _ _ _ (jl S1 i) rfl (by rw[ip];omega) rfl rfl
  |@l a S=>
   apply bD
   ·exact T1 false _ _ rfl rfl rfl
   apply b6
   apply aA
   ·exact cN (T2 true _ _ rfl rfl rfl) (a_ (ik kv (isl0 _ _) aY (pop _ (jl S (i-a)) (i-1))))
   exact put _ _ _ (jl S (i-a)) rfl (by rw[ip];simp at hSl;omega) rfl (by simp only[jl];congr 1;congr 1;omega)
  |@r a S=>
   apply aA
   ·exact cN (T1 true _ _ rfl rfl rfl) (a_ (ik kv (isl0 _ _) aY (pop _ (jl S (i-a)) (i-1))))
   apply bD
   ·exact T2 false _ _ (by show((2:Int)%2==1)=false;decide) rfl rfl
   apply b6
   exact put _ _ _ (jl S (i-a)) rfl (by rw[ip];simp at hSl;omega) rfl (by simp only[jl];congr 1;congr 1;omega)
  |@b c a S=>
   apply aA
   ·exact cN (T1 true _ _ rfl rfl rfl) (a_ (ik kv (isl0 _ _) aY (pop _ (jl (a::S) (i-c)) (i-1))))
   apply aA
   ·exact cN (T2 true _ _ (by show((3:Int)%2==1)=true;decide) rfl rfl) (a_ (ik kv (isl0 _ _) aY (pop _ (jl S (i-c-a)) (i-c-1))))
   exact put _ _ _ (jl S (i-c-a)) rfl (by rw[ip];simp at hSl;omega) (by show W.tup [.int ((i-1-c:Nat):Int),_]=_;rw[show i-1-c=i-c-1 by omega];rfl) (by simp only[jl];congr 1;congr 1;omega)
 ·rintro ρ bp ⟨S1,o3,o4,o5,rfl,rfl,hg,hi⟩
  rw[show(gF 0 (ps.length:Int).toNat,(none:Option (Nat×List W))).fst.length=lk.length by rw[l2];simp[fD],dS]
  apply bO
  ·(walk_at "evs")
  ·exact⟨_,_,rfl,1,_,rfl,rfl,rfl,_,rfl⟩
end
theorem r_{s:List am}{p:Nat}{c:am}(h:st <+: s)(hp:st.length<=p):st <+: s.set p c:=by
 obtain⟨x,rfl⟩:=h
 rw[show p=st.length+(p-st.length) by omega,mF]
 exact be _ _
theorem zz{s y:List am}(h:st <+: s):st <+: s++y:=h.trans (be _ _)
theorem pre_get{s:List am}{c:am}(h:st <+: s)(e:st[i]?=some c):s[i]?=some c:=by
 obtain⟨x,rfl⟩:=h
 exact cJ e
theorem d_{s:List am}{p:Nat}{c d:am}(h:s[p]?=some d):(s.set p c)[p]?=some c:=by
 rw[cv (au.mp h).1]
theorem bI{s:List am}{p:Nat}{c:am}(h:p≠q):(s.set p c)[q]?=s[q]?:=cW h
theorem fP{s:List am}{p:Nat}{c:am}(h:s[p]?=some c):p<s.length:=(au.mp h).1
theorem dy{s:List am}{c:am}:(s++[c])[s.length]?=some c:=by rw[dB];rfl
def zA(l:List Int):List W:=l.map W.int
theorem u6{s:List am}{p:Nat}{ds:List Int}{d:Int}(h:s[p]?=some (.lst (zA ds)))(e:ds[i]?=some d):bj (.loc p) (.int i) s=.ok (.int d) s:=jG (b8 h) (ga (by rw[zA,aI,e];rfl))
theorem HS(h:lstOf st n=some (ls.map W.str))(hl:ls.length<64):kj [.loc n] st=.ok #[5] (st++[.lst ((jc ls).map W.str)]):=by
 show pU [.loc n] st=_
 unfold pU
 simp only[h,eV,xP]
 rw[aF hl]
theorem wa{a b:List (List Nat)}(h:a.Perm b):(a.map List.length).sum=(b.map List.length).sum:=by
 induction h with
 |nil=>rfl
 |cons x _ ih=>simp only[a9,qy,ih]
 |swap x y l=>simp only[a9,qy];omega
 |trans _ _ ih1 ih2=>rw[ih1,ih2]
theorem se(l:List Nat):(((l.map fun c=>[c])).map List.length).sum=l.length:=by
 induction l with
 |nil=>rfl
 |cons a r ih=>simp only[a9,qy,bh,ih,kG];omega
def CS(l:List Nat):List Nat:=kZ [] (jc (l.map fun c=>[c]))
theorem D2(l:List Nat):(CS l).length=l.length:=by
 unfold CS;rw[mD,List.length_flatten,wa (gG _),se]
theorem HU(l:List Nat):(CS l).Perm l:=by
 unfold CS;rw[mD]
 have h:(jc (l.map fun c=>[c])).flatten.Perm (l.map fun c=>[c]).flatten:=(gG _).flatten
 refine h.trans (.of_eq ?_)
 induction l with
 |nil=>rfl
 |cons a r ih=>
  have ih':=ih ((gG _).flatten)
  simp only[a9,l9,ih',List.cons_append,eJ]
theorem D3{fe:FE}{s1:List am}(h:fe ρ st=.ok (.loc n) s1)(hc:lstOf s1 n=some ((l.map fun c=>[c]).map W.str))(hl:l.length<64) :
  Jw nI (eC (.str [])) (ah (bG kj (ah fe aE)) aE) ρ st=.ok (.str (CS l)) (s1++[.lst ((jc (l.map fun c=>[c])).map W.str)]):=by
 have hs:=HS hc (by simpa using hl)
 have hcell2:lstOf (s1++[am.lst ((jc (l.map fun c=>[c])).map W.str)]) s1.length=some ((jc (l.map fun c=>[c])).map W.str):=b8 dy
 have hj:=CD (sep:=[]) hcell2 (by rw[wa (gG _),se];show _<=1000000;simp;omega)
 exact KH bU rfl (av (cu (av h aY) hs) aY) hj
section
variable{fs:FA}
theorem KO(V:β->W)(Pb:Nat->β->Prop)(hr:fs ρ st=.ok [.int n] st)(hn:n<=100000)(h:∀i:Nat,i<n->∃b,Pb i b/\el ((s_ cap ρ).set 0 (some (.int i))) st=.ok (V b) st) :
  ∃r:List β,r.length=n/\(∀i b,r[i]?=some b->Pb i b)/\j6 cap (dP fs) (jD 0) wZ el ρ st=.ok #[5] (st++[.lst (r.map V)]):=by
 let f:Fin n->β:=fun i=>Classical.choose (h i i.2)
 have hf:∀i:Fin n,Pb i (f i)/\el ((s_ cap ρ).set 0 (some (.int (i:Nat)))) st=.ok (V (f i)) st:=fun i=>Classical.choose_spec (h i i.2)
 let Y:W->W:=fun w=>match w with
  |.int z=>if hz:z.toNat<n then V (f ⟨z.toNat,hz⟩)else .non
  |_=>.non
 have ir:dP fs ρ st=.ok (gF 0 n,none) st:=by
  have:=jw hr #[0]
  rw[bX]at this
  exact this
 have hc:=DZ (fi:=dP fs) (f:=jD 0) (el:=el) (cap:=cap) (ρ:=ρ) Y ir (by rw[fD];show _<=1000000;omega) trivial fun w hw=>by
  obtain⟨i,hi,rfl⟩:=xY hw
  refine⟨_,rfl,?_⟩
  rw[show((0:Int)+(i:Int))=(i:Int) by omega]
  show _=R.ok (if hz:(i:Int).toNat<n then V (f ⟨(i:Int).toNat,hz⟩)else .non) st
  rw[dif_pos (show(i:Int).toNat<n by omega)]
  exact(hf ⟨i,hi⟩).2
 refine⟨List.ofFn f,by simp,fun i b hb=>?_,?_⟩
 ·obtain⟨h1,h2⟩:=au.mp hb
  rw[List.getElem_ofFn]at h2
  rw[<- h2]
  exact(hf ⟨i,by simpa using h1⟩).1
 ·rw[hc]
  have e:(gF 0 n).map Y=(List.ofFn f).map V:=by
   refine List.ext_getElem (by simp[fD]) fun i h1 h2=>?_
   have hi:i<n:=by simpa[fD]using h1
   rw[mS,mS,List.getElem_ofFn]
   unfold gF
   rw[mS,List.getElem_range,show((0:Int)+(i:Int))=(i:Int) by omega]
   show(if hz:(i:Int).toNat<n then V (f ⟨(i:Int).toNat,hz⟩)else .non)=_
   rw[dif_pos (show(i:Int).toNat<n by omega)]
  rw[e]
theorem HV(V:β->W)(Pb:Nat->β->Prop)(hr:fs ρ st=.ok [.int n] st)(hn:n<=100000)(h:∀i:Nat,i<n->∃b,Pb i b/\el ((s_ cap ρ).set 0 (some (.int i))) st=.ok (V b) st) :
  ∃r:List β,r.length=n/\(∀i b,r[i]?=some b->Pb i b)/\bG i8 (ah (j6 cap (dP fs) (jD 0) wZ el) aE) ρ st=.ok (.tup (r.map V)) (st++[.lst (r.map V)]):=by
 obtain⟨r,h1,h2,e⟩:=KO (cap:=cap) (el:=el) V Pb hr hn h
 exact⟨r,h1,h2,cu (av e aY) (oQ (b8 dy))⟩
end
structure Mc where
 nm:List Nat
 gd:List Bool
 tb:List (List (List Nat))
def gz(r:List Nat):W:=.tup (r.map fun k=>W.int (k:Nat))
def xi(t:List (List Nat)):W:=.tup (t.map gz)
def Mc.w(M:Mc):W:=.tup [.str M.nm,.tup (M.gd.map W.bl),.tup (M.tb.map xi)]
def U9(n:Nat)(t:List (List Nat)):Prop:=t.length=n/\∀r∈t,r.length=n/\∀k∈r,k<n
structure lM(M:Mc)(n:Nat):Prop where
 gd:M.gd.length=n
 tb:M.tb.length=2^M.nm.length
 t:∀t∈M.tb,U9 n t
theorem u7(r:List Nat)(n:Nat):(gz r).und n=true:=by
 unfold gz W.und
 induction r with
 |nil=>rfl
 |cons x r ih=>simp only[a9,undWs,ih,dM];rfl
theorem KP(t:List (List Nat))(n:Nat):(xi t).und n=true:=by
 unfold xi W.und
 induction t with
 |nil=>rfl
 |cons x r ih=>simp only[a9,undWs,ih,dM];exact u7 x n
theorem HW(t:List (List (List Nat)))(n:Nat):undWs n (t.map xi)=true:=by
 induction t with
 |nil=>rfl
 |cons x r ih=>simp only[a9,undWs,ih,dM];exact KP x n
theorem KQ(t:List Bool)(n:Nat):undWs n (t.map W.bl)=true:=by
 induction t with
 |nil=>rfl
 |cons x r ih=>simp only[a9,undWs,ih,dM];rfl
theorem HX(M:Mc)(n:Nat):M.w.und n=true:=by
 unfold Mc.w
 simp[W.und,undWs,HW,KQ]
theorem Gi{c:Nat}(h:c<=100):AB (.int 1) (.int c) st=.ok (.int ((2^c:Nat):Int)) st:=by
 have:=jv (C:=fun i j=>0<=j/\j<=1000000/\i.natAbs<2^64) (f:=fun i j=>i*2^j.toNat) (p:=1) (q:=(c:Int)) (st:=st) ⟨by omega,by omega,by decide⟩
 rw[show AB (.int 1) (.int c) st=_ from this]
 simp
theorem ml{s:List am}{p:Nat}{y:W}(h:s[p]?=some (.lst ws))(hl:ws.length<1000000):bW (.loc p) [y] s=.ok .non (s.set p (.lst (ws++[y]))):=nM h hl
theorem Pd(h:q<n):Dt n (q:Int)=some q:=by
 unfold Dt
 rw[aF #[0],aF #[0]];simp
theorem CT{s:List am}{p q:Nat}{v:W}(h:s[p]?=some (.lst ws))(hq:q<ws.length):ql (.loc p) (.int q) v s=some (s.set p (.lst (ws.set q v))):=N7 h (Pd hq)
theorem Pe{s:List am}:xM [.tup ws] s=.ok (.loc s.length) (s++[.lst ws]):=rfl
def nW(l:List Nat):List W:=l.map fun k=>W.int (k:Nat)
theorem yd{s:List am}{p:Nat}{k:Nat}(h:s[p]?=some (.lst (nW l)))(e:l[i]?=some k):bj (.loc p) (.int i) s=.ok (.int k) s:=jG (b8 h) (ga (by rw[nW,aI,e];rfl))
theorem HY{s:List am}{k:Nat}(e:l[i]?=some k):bj (gz l) (.int i) s=.ok (.int k) s:=mI (ga (by rw[aI,e];rfl))
theorem HZ{s:List am}{t:List (List Nat)}{r:List Nat}(e:t[i]?=some r):bj (xi t) (.int i) s=.ok (gz r) s:=mI (ga (by rw[aI,e];rfl))
theorem wb{f:FG}{ρ':cM}{w:W}(h:fe ρ st=.ok w st1)(h2:f w ρ=some ρ'):uE fe f ρ st=.nx ρ' st1:=by
 unfold uE;rw[h];simp only[R.stmt_ok];rw[h2]
theorem H9{c:Nat}:Fy false (.str [c]) (.str l) st=.ok (.bl (decide (c∈l))) st:=rfl
theorem zB{st1:List am}(h:fe ρ st=.ok (.str l) st1):gB fe ρ st=.ok (iG l,none) st1:=by unfold gB;rw[h];rfl
theorem Bm{w:W}(h:(iG l)[i]?=some w):∃c,l[i]?=some c/\w=.str [c]:=by
 simp only[iG,aI,fm]at h
 obtain⟨c,h1,rfl⟩:=h
 exact⟨c,h1,rfl⟩
theorem tO(l:List Nat):(iG l).length=l.length:=by simp[iG]
theorem pY{l:List α}{c:α}(h:l[i]?=some c):l.take (i+1)=l.take i++[c]:=by
 rw[List.take_succ,h];rfl
def kz(m:List Nat)(l:List Nat):Nat:=l.foldl (fun a c=>2*a+if c∈m then 1 else 0) 0
theorem yf(m l:List Nat)(c:Nat):kz m (l++[c])=2*kz m l+if c∈m then 1 else 0:=by unfold kz;rw[List.foldl_append];rfl
theorem D4(m:List Nat)(l:List Nat):kz m l<2^l.length:=by
 have key:∀(l:List Nat) (a k:Nat),a<2^k->l.foldl (fun a c=>2*a+if c∈m then 1 else 0) a<2^(k+l.length):=by
  intro l
  induction l with
  |nil=>intro a k h;simpa using h
  |cons c r ih=>
   intro a k h
   have:=ih (2*a+if c∈m then 1 else 0) (k+1) (by rw[Nat.pow_succ];split<;>omega)
   rw[List.foldl_cons,bh,show k+(r.length+1)=k+1+r.length by omega];exact this
 have:=key l 0 0 #[15]
 simpa[kz]using this
theorem E7(names m:List Nat)(st:List am):HM [.str names,.str m] st=.ok (.int (kz m names:Nat)) st:=by
 refine fE (N:=4) (ws:=[.str names,.str m]) (body:=RT) ?_ rfl
 apply aA
 ·(walk_at "evs")
 refine gi (fun i ρ s=>∃o3:Option W,ρ=[some (.str names),some (.str m),some (.int (kz m (names.take i):Nat)),o3]/\s=st) (zB (st1:=st) kv) ⟨none,rfl,rfl⟩ (fun _ _ _ _=>trivial) ?_ ?_
 ·rintro i w ρ s hw ⟨o3,rfl,rfl⟩
  obtain⟨c,hc,rfl⟩:=Bm hw
  refine⟨_,rfl,?_⟩
  have e:=yf m (names.take i) c
  rw[<- pY hc]at e
  apply aA
  ·exact a_ (bw kv bU (qI (.inr #[13])))
  by_cases h:c∈m
  ·have t1:decide (c∈m)=true:=bn h
   rw[aF h]at e
   apply oO
   ·exact aZ (bw kv kv (by rw[H9,t1]))
   apply dv
   ·exact a_ (bw kv bU dY)
   ·exact⟨_,_,rfl,_,by rw[e,eK,iX,nF];rfl,rfl⟩
  ·have t1:decide (c∈m)=false:=aV h
   rw[aO h]at e
   apply oP
   ·exact aZ (bw kv kv (by rw[H9,t1]))
   apply dv
   ·exact d8
   ·exact⟨_,_,rfl,_,by rw[e,eK,iX,nF];rfl,rfl⟩
 ·rintro ρ s ⟨o3,rfl,rfl⟩
  apply bO
  ·(walk_at "evs")
  ·exact⟨_,_,rfl,by rw[show(iG names,(none:Option (Nat×List W))).fst.length=names.length from tO names,dS],[],by simp⟩
theorem CU(names m:List Nat)(st:List am):x_ [.str names,.str m] st=.ok (.int (kz m names:Nat)) st:=by
 refine fE (N:=4) (ws:=[.str names,.str m]) (body:=Ml) ?_ rfl
 apply aA
 ·(walk_at "evs")
 refine gi (fun i ρ s=>∃o3:Option W,ρ=[some (.str names),some (.str m),some (.int (kz m (names.take i):Nat)),o3]/\s=st) (zB (st1:=st) kv) ⟨none,rfl,rfl⟩ (fun _ _ _ _=>trivial) ?_ ?_
 ·rintro i w ρ s hw ⟨o3,rfl,rfl⟩
  obtain⟨c,hc,rfl⟩:=Bm hw
  refine⟨_,rfl,?_⟩
  have e:=yf m (names.take i) c
  rw[<- pY hc]at e
  have bi:EW [.bl (decide (c∈m))] s=.ok (.int ((if c∈m then 1 else 0:Nat):Int)) s:=by
   by_cases h:c∈m
   ·rw[bn h,aF h];rfl
   ·rw[aV h,aO h];rfl
  apply dv
  ·exact a_ (bw (bw bU kv (qI (.inl #[13]))) (cu (av (bw kv kv H9) aY) bi) dY)
  ·exact⟨_,_,rfl,_,by rw[e,eK,iX];rfl,rfl⟩
 ·rintro ρ s ⟨o3,rfl,rfl⟩
  apply bO
  ·(walk_at "evs")
  ·exact⟨_,_,rfl,by rw[show(iG names,(none:Option (Nat×List W))).fst.length=names.length from tO names,dS],[],by simp⟩
def zC(r:List Nat):Option Nat->Nat
 |none=>0
 |some k=>r.getD k 0
def u8(M:Mc)(r:List Nat)(m:List Nat)(x:Option Nat×Option Nat):Nat:=((M.tb.getD (kz m M.nm) []).getD (zC r x.1) []).getD (zC r x.2) 0
def E8(M:Mc):List Pl->List #[6]->List Nat->List Nat
 |p::ps,x::xs,r=>E8 M ps xs (r++[u8 M r p.m x])
 |_,_,r=>r
def H_(n:Nat)(x:Option Nat×Option Nat):Prop:=(∀k,x.1=some k->k<n)/\∀k,x.2=some k->k<n
theorem Bn(r:List Nat)(o:Option Nat)(p:Nat)(st:List am)(hc:st[p]?=some (.lst (nW r)))(ho:∀k,o=some k->k<r.length):x5 [.loc p,oW o] st=.ok (.int (zC r o:Nat)) st:=by
 cases o with
 |none=>
  apply dQ
  apply bO
  ·exact uj (aZ (AN kv rfl)) bU
  ·exact⟨_,_,rfl,rfl,rfl⟩
 |some k=>
  have hk:=ho k rfl
  have e:r[k]?=some (r.getD k 0):=by rw[aH,aj hk];rfl
  apply dQ
  apply bO
  ·exact uk (aZ (AN kv rfl)) (bw kv kv (yd hc e))
  ·exact⟨_,_,rfl,rfl,rfl⟩
theorem Gr.lk{ps:List Pl}{sz:List Nat}{lk:List #[6]}(h:Gr ps S sz lk)(hx:lk[i]?=some x):H_ i x:=by
 obtain⟨_,l2,_⟩:=h.ok
 have hi:i<ps.length:=by have:=(au.mp hx).1;omega
 obtain⟨S1,S2,p,k,x',g1,q1,q2,q3,hs,g2⟩:=h.step i hi
 rw[hx]at q3;cases q3
 obtain⟨_,_,ha⟩:=g1.ok
 rw[show(ps.take i).length=i by rw[aM];omega]at ha
 obtain⟨b,m⟩:=p
 cases hs with
 |z=>exact⟨fun k e=>by simp at e,fun k e=>by simp at e⟩
 |@l a S=>have:=ha.2.1;have:=ha.2.2.1;exact⟨fun k e=>by simp at e;omega,fun k e=>by simp at e⟩
 |@r a S=>have:=ha.2.1;have:=ha.2.2.1;exact⟨fun k e=>by simp at e,fun k e=>by simp at e;omega⟩
 |@b c a S=>have:=ha.2.1;have:=ha.2.2.1;exact⟨fun k e=>by simp at e;omega,fun k e=>by simp at e;omega⟩
theorem Bo(M:Mc)(p:Pl)(x:Option Nat×Option Nat):∀(ps:List Pl) (lk:List #[6]) (r:List Nat),ps.length=lk.length->E8 M (ps++[p]) (lk++[x]) r=E8 M ps lk r++[u8 M (E8 M ps lk r) p.m x]
 |[],[],r,_=>rfl
 |q::ps,y::lk,r,h=>by
  show E8 M (ps++[p]) (lk++[x]) _=_
  rw[Bo M p x ps lk _ (by simpa using h)];rfl
 |[],_::_,_,h=>by simp at h
 |_::_,[],_,h=>by simp at h
def gf(M:Mc)(ps:List Pl)(lk:List #[6]):List Nat:=E8 M ps lk []
theorem Ia{r:List Nat}{o:Option Nat}(hn:1<=n)(hr:∀k∈r,k<n)(ho:∀k,o=some k->k<r.length):zC r o<n:=by
 cases o with
 |none=>exact hn
 |some k=>
  have hk:=ho k rfl
  have e:r[k]?=some (r.getD k 0):=by rw[aH,aj hk];rfl
  exact hr _ (cy e)
theorem CV{M:Mc}{r:List Nat}{m:List Nat}(hM:lM M n)(hn:1<=n)(hr:∀k∈r,k<n)(hx:H_ r.length x) :
  ∃t q,M.tb[kz m M.nm]?=some t/\t[zC r x.1]?=some q/\q[zC r x.2]?=some (u8 M r m x)/\u8 M r m x<n:=by
 have h1:kz m M.nm<M.tb.length:=by rw[hM.tb];exact D4 m M.nm
 have e1:M.tb[kz m M.nm]?=some (M.tb.getD (kz m M.nm) []):=by rw[aH,aj h1];rfl
 obtain⟨t1,t2⟩:=hM.t _ (cy e1)
 have h2:zC r x.1<(M.tb.getD (kz m M.nm) []).length:=by rw[t1];exact Ia hn hr hx.1
 have e2:(M.tb.getD (kz m M.nm) [])[zC r x.1]?=some ((M.tb.getD (kz m M.nm) []).getD (zC r x.1) []):=by rw[aH (l:=M.tb.getD (kz m M.nm) []),aj h2];rfl
 obtain⟨t3,t4⟩:=t2 _ (cy e2)
 have h3:zC r x.2<((M.tb.getD (kz m M.nm) []).getD (zC r x.1) []).length:=by rw[t3];exact Ia hn hr hx.2
 have e3:((M.tb.getD (kz m M.nm) []).getD (zC r x.1) [])[zC r x.2]?=some (u8 M r m x):=by unfold u8;rw[aH (l:=(M.tb.getD (kz m M.nm) []).getD (zC r x.1) []),aj h3];rfl
 exact⟨_,_,e1,e2,e3,t4 _ (cy e3)⟩
theorem Ib{M:Mc}{k:Nat}{t:List (List Nat)}(h:M.tb[k]?=some t)(st:List am):bj (.tup (M.tb.map xi)) (.int k) st=.ok (xi t) st:=mI (ga (by rw[aI,h];rfl))
theorem Mu{M:Mc}{r:List Nat}{m:List Nat}{p:Nat}(hM:lM M n)(hn:1<=n)(hr:∀k∈r,k<n)(hx:H_ r.length x)(st:List am)(hc:st[p]?=some (.lst (nW r))) :
  rR [M.w,.str m,gH x,.loc p] st=.ok (.int (u8 M r m x:Nat)) st:=by
 obtain⟨t,q,e1,e2,e3,_⟩:=CV (m:=m) hM hn hr hx
 have g0:bj M.w (.int 0) st=.ok (.str M.nm) st:=rfl
 have g2:bj M.w (.int 2) st=.ok (.tup (M.tb.map xi)) st:=rfl
 have x0:bj (gH x) (.int 0) st=.ok (oW x.1) st:=rfl
 have x1:bj (gH x) (.int 1) st=.ok (oW x.2) st:=rfl
 have lt:=E7 M.nm m st
 have b1:=Bn r x.1 p st hc hx.1
 have b2:=Bn r x.2 p st hc hx.2
 apply dQ
 apply aA
 ·exact a_ (bw (bw kv bU g2) (cw (av (bw kv bU g0) kn) lt rfl) (Ib e1 st))
 apply bO
 ·exact bw (bw kv (cw (av kv (av (bw kv bU x0) aY)) b1 rfl) (HZ e2)) (cw (av kv (av (bw kv bU x1) aY)) b2 rfl) (HY e3)
 ·exact⟨_,_,rfl,rfl,rfl⟩
section
variable{ps:List Pl}{sz:List Nat}{lk:List #[6]}{M:Mc}
theorem ng(h:Gr ps S sz lk){p:Pl}(hp:ps[i]?=some p)(hx:lk[i]?=some x):gf M (ps.take (i+1)) (lk.take (i+1))=gf M (ps.take i) (lk.take i)++[u8 M (gf M (ps.take i) (lk.take i)) p.m x]:=by
 obtain⟨_,l2,_⟩:=h.ok
 unfold gf
 rw[pY hp,pY hx,Bo M p x _ _ _ (by rw[aM,aM,l2])]
theorem nh(h:Gr ps S sz lk)(hM:lM M n)(hn:1<=n):∀i,i<=ps.length->(gf M (ps.take i) (lk.take i)).length=i/\∀k∈gf M (ps.take i) (lk.take i),k<n:=by
 obtain⟨_,l2,_⟩:=h.ok
 intro i
 induction i with
 |zero=>intro _;exact⟨rfl,by simp[gf,E8]⟩
 |succ i ih=>
  intro hi
  obtain⟨h1,h2⟩:=ih #[0]
  obtain⟨p,hp⟩:∃p,ps[i]?=some p:=⟨_,aj #[0]⟩
  obtain⟨x,hx⟩:∃x,lk[i]?=some x:=⟨_,aj #[0]⟩
  obtain⟨_,_,_,_,_,e⟩:=CV (m:=p.m) hM hn h2 (by rw[h1];exact h.lk hx)
  rw[ng h hp hx]
  refine⟨by simp[h1],fun k hk=>?_⟩
  rcases aW.mp hk with z|z
  ·exact h2 k z
  ·simp at z;subst z;exact e
theorem Pf{a b:List W}{w:W}(h:(qG a b)[i]?=some w):∃x y,a[i]?=some x/\b[i]?=some y/\w=.tup [x,y]:=vK h
theorem Sl{fs:FA}{st1:List am}{xs ys:List W}(h:fs ρ st=.ok [.tup xs,.tup ys] st1):yZ fs ρ st=.ok (qG xs ys,none) st1:=by unfold yZ;rw[h];rfl
theorem Ic(h:Gr ps S sz lk)(hl:ps.length<=900)(hM:lM M n)(hn:1<=n)(st:List am):nS [M.w,bV ps] st=.ok (gz (gf M ps lk)) st:=by
 obtain⟨_,l2,_⟩:=h.ok
 have lo:=r6 h #[0] (st++[am.lst []])
 refine fE (N:=5) (ws:=[M.w,bV ps]) (body:=Md) ?_ (by simp only[undWs,dM];exact u7 _ _)
 apply aA
 ·(walk_at "evs")
 refine gi (fun i ρ s=>∃(o3 o4:Option W),ρ=[some M.w,some (bV ps),some #[5],o3,o4]/\st <+: s/\s[st.length]?=some (.lst (nW (gf M (ps.take i) (lk.take i))))/\i<=ps.length) (k:=(qG (ps.map Pl.w) (lk.map gH),none))
  (Sl (st1:=st++[am.lst []]) (av kv (av (cw kn lo rfl) aY))) ⟨none,none,rfl,be _ _,dy,cx _⟩ (fun _ _ _ _=>trivial) ?_ ?_
 ·rintro i w ρ s hw ⟨o3,o4,rfl,hp,hc,hi⟩
  obtain⟨a,b,ha,hb,rfl⟩:=Pf hw
  have hip:i<ps.length:=by have:=(au.mp ha).1;simpa using this
  obtain⟨p,z_⟩:∃p,ps[i]?=some p:=⟨_,aj hip⟩
  obtain⟨x,hx⟩:∃x,lk[i]?=some x:=⟨_,aj #[0]⟩
  rw[aI,z_]at ha;cases ha
  rw[aI,hx]at hb;cases hb
  refine⟨_,rfl,?_⟩
  obtain⟨r1,r2⟩:=nh (M:=M) h hM hn i hi
  have ra:=Mu (m:=p.m) hM hn r2 (by rw[r1];exact h.lk hx) s hc
  have ap:=ml (y:=.int (u8 M (gf M (ps.take i) (lk.take i)) p.m x:Nat)) hc (by simp[nW];omega)
  apply dv
  ·exact d7 (ik kv (du hc) (av (cw (av kv (av (bw kv bU (CQ p s)) (av kv kn))) ra rfl) aY) ap)
  ·refine⟨_,_,rfl,_,_,rfl,r_ hp (az _),?_,by omega⟩
   rw[d_ hc,ng h z_ hx];simp[nW]
 ·rintro ρ s ⟨o3,o4,rfl,⟨x,rfl⟩,hc,hi⟩
  rw[show(qG (ps.map Pl.w) (lk.map gH),(none:Option (Nat×List W))).fst.length=ps.length by rw[vL];simp[l2],dS,show ps.length=lk.length by omega,dS]at hc
  apply bO
  ·exact cu kn (oQ (b8 hc))
  ·exact⟨_,_,rfl,rfl,x,rfl⟩
end
theorem Ie(l:List Nat)(k:Nat)(st:List am):kK (k+1) [.str l,.str l] st=.ok (.bl true) st:=by
 refine fE (N:=3) (ws:=[.str l,.str l]) (body:=Be (kK k)) ?_ rfl
 (walk_at "go")
 apply bO
 ·apply u3
  ·(walk_at "evs")
  ·(walk_at "evs")
 ·exact⟨_,_,rfl,by simp,[],by simp⟩
theorem wc{k:Nat}(hl:ws.length<=1000)(h:∀w∈ws,kK k [w,w] st=.ok (.bl true) st):kK (k+1) [.tup ws,.tup ws] st=.ok (.bl true) st:=by
 refine fE (N:=3) (ws:=[.tup ws,.tup ws]) (body:=Be (kK k)) ?_ rfl
 apply eO
 ·(walk_at "evs")
 apply pW
 apply bD
 ·apply mX
  ·(walk_at "evs")
  ·(walk_at "evs")
   simp
 apply b6
 apply pW
 refine gi (fun i ρ bp=>∃o,ρ=[some (.tup ws),some (.tup ws),o]/\bp=st) (jw (by(walk_at "evs")) #[0]) ⟨none,rfl,rfl⟩ (fun _ _ _ _=>trivial) ?_ ?_
 ·rintro i w ρ bp hw ⟨o,rfl,rfl⟩
  obtain⟨hi,rfl⟩:=jM hw
  refine⟨_,rfl,?_⟩
  have hi':i<ws.length:=by simpa using hi
  have hat:bj (.tup ws) (.int (0+(i:Int))) bp=.ok ws[i] bp:=mI (by rw[kW];exact ga (by simp[hi']))
  have hs:=h ws[i] (dR _)
  apply oP
  ·(walk_at "evs")
  apply dv
  ·(walk_at "evs")
  ·exact⟨_,_,rfl,_,rfl,rfl⟩
 ·rintro ρ bp ⟨o,rfl,rfl⟩
  apply dF
  ·(walk_at "evs")
  ·exact⟨_,_,rfl,rfl,[],by simp⟩
theorem E9(b:Bool)(k:Nat)(st:List am):kK (k+1) [.bl b,.bl b] st=.ok (.bl true) st:=by
 have hb:iC (.bl b) (.bl b) st=.ok (.bl true) st:=Ry #[15]
 refine fE (N:=3) (ws:=[.bl b,.bl b]) (body:=Be (kK k)) ?_ rfl
 apply bD
 ·(walk_at "evs")
 apply b6
 apply bD
 ·(walk_at "evs")
 apply b6
 apply eO
 ·(walk_at "evs")
 apply dF
 ·apply u3
  ·(walk_at "evs")
  ·(walk_at "evs")
 ·exact⟨_,_,rfl,rfl,[],by simp⟩
theorem we(z:Int)(k:Nat)(st:List am):kK (k+1) [.int z,.int z] st=.ok (.bl true) st:=by
 have hb:iC (.int z) (.int z) st=.ok (.bl true) st:=fX #[15]
 refine fE (N:=3) (ws:=[.int z,.int z]) (body:=Be (kK k)) ?_ rfl
 apply bD
 ·(walk_at "evs")
 apply b6
 apply bD
 ·(walk_at "evs")
 apply b6
 apply bD
 ·(walk_at "evs")
 apply b6
 apply eO
 ·(walk_at "evs")
 apply dF
 ·apply u3
  ·(walk_at "evs")
  ·apply u3
   ·(walk_at "evs")
   ·(walk_at "evs")
 ·exact⟨_,_,rfl,by simp,[],by simp⟩
def Sm(w:W):Prop:=∀st,kK 40 [w,w] st=.ok (.bl true) st
theorem Ig(z:Int):Sm (.int z):=fun st=>we z 39 st
theorem U_(b:Bool):Sm (.bl b):=fun st=>E9 b 39 st
theorem UA(r:List Nat)(h:r.length<=1000):Sm (gz r):=fun st=>wc (k:=39) (by simpa using h) fun w hw=>by
 obtain⟨z,_,rfl⟩:=c5.mp hw
 exact we _ _ _
section
variable{ps:List Pl}{sz:List Nat}{lk:List #[6]}{M:Mc}
theorem Bp{r:List Nat}{k:Nat}{o:Option Nat}(h:∀j,o=some j->j<k):zC (r.take k) o=zC r o:=by
 cases o with
 |none=>rfl
 |some j=>show(r.take k).getD j 0=r.getD j 0;rw[aH,aH,cO (h j rfl)]
theorem yg(h:Gr ps S sz lk)(hM:lM M n)(hn:1<=n):∀i,i<=ps.length->(gf M ps lk).take i=gf M (ps.take i) (lk.take i):=by
 obtain⟨_,l2,_⟩:=h.ok
 have key:∀d i,i+d=ps.length->(gf M ps lk).take i=gf M (ps.take i) (lk.take i):=by
  intro d
  induction d with
  |zero=>
   intro i hi
   have e1:ps.take i=ps:=bB #[0]
   have e2:lk.take i=lk:=bB #[0]
   have hg:=(nh (M:=M) h hM hn i #[0]).1
   rw[e1,e2]at hg ⊢
   exact bB #[0]
  |succ d ih=>
   intro i hi
   have e:=ih (i+1) #[0]
   obtain⟨p,hp⟩:∃p,ps[i]?=some p:=⟨_,aj #[0]⟩
   obtain⟨x,hx⟩:∃x,lk[i]?=some x:=⟨_,aj #[0]⟩
   rw[ng h hp hx]at e
   have hg:=(nh (M:=M) h hM hn i #[0]).1
   have e2:=ic (List.take i) e
   rw[pM,gR #[0],cF #[0]]at e2
   rw[e2];exact bB #[0]
 intro i hi
 exact key (ps.length-i) i #[0]
theorem mM(h:Gr ps S sz lk)(hM:lM M n)(hn:1<=n):(gf M ps lk).length=ps.length/\∀k∈gf M ps lk,k<n:=by
 obtain⟨_,l2,_⟩:=h.ok
 have:=nh (M:=M) h hM hn ps.length (az _)
 rw[dS,show ps.length=lk.length by omega,dS]at this
 exact⟨by rw[this.1];omega,this.2⟩
theorem Ih(h:Gr ps S sz lk)(hM:lM M n)(hn:1<=n){i:Nat}{p:Pl}{x:Option Nat×Option Nat}(hp:ps[i]?=some p)(hx:lk[i]?=some x):(gf M ps lk)[i]?=some (u8 M (gf M ps lk) p.m x):=by
 have hi:i<ps.length:=(au.mp hp).1
 have e:=yg (M:=M) h hM hn (i+1) #[0]
 rw[ng h hp hx,<- yg (M:=M) h hM hn i #[0]]at e
 have P5:=h.lk hx
 have e3:u8 M ((gf M ps lk).take i) p.m x=u8 M (gf M ps lk) p.m x:=by unfold u8;rw[Bp P5.1,Bp P5.2]
 rw[e3]at e
 have hl:=(mM (M:=M) h hM hn).1
 have:=ic (fun l=>l[i]?) e
 simp only[cO (show i<i+1 by omega)]at this
 rw[this,aX (by rw[aM];omega),aM,show i-min i (gf M ps lk).length=0 by omega];rfl
def Bq(M:Mc)(ps:List Pl)(lk:List #[6]):Nat:=(gf M ps lk).getD (ps.length-1) 0
def KR(M:Mc)(ps:List Pl)(lk:List #[6]):Bool:=M.gd.getD (if 0<ps.length then Bq M ps lk else 0) false
theorem Tp(h:Gr ps S sz lk)(hM:lM M n)(hn:1<=n)(h0:0<ps.length)(st:List am):bj (gz (gf M ps lk)) (.int (-1)) st=.ok (.int (Bq M ps lk:Nat)) st:=by
 have hl:=(mM (M:=M) h hM hn).1
 refine mI ?_
 rw[show(-1:Int)=-((0:Nat)+1:Int) by rfl]
 refine y_ ?_
 rw[jJ (by rw[aD];omega),aD,aI,hl,show ps.length-1-0=ps.length-1 by omega,aj #[0]]
 show some (W.int _)=some (W.int _)
 unfold Bq
 rw[aH,aj #[0]];rfl
theorem Mv(hM:lM M n){k:Nat}(hk:k<n)(st:List am):bj (.tup (M.gd.map W.bl)) (.int k) st=.ok (.bl (M.gd.getD k false)) st:=
 mI (ga (by rw[aI,aj (by rw[hM.gd];exact hk),aH,aj (by rw[hM.gd];exact hk)];rfl))
theorem Pg(h:Gr ps S sz lk)(hM:lM M n)(hn:1<=n):(if 0<ps.length then Bq M ps lk else 0)<n:=by
 split
 ·rename_i h0
  obtain⟨hl,hr⟩:=mM (M:=M) h hM hn
  unfold Bq
  rw[aH,aj #[0]]
  exact hr _ (dR _)
 ·exact hn
end
section
variable{ps:List Pl}{sz:List Nat}{lk:List #[6]}
theorem Ph{fs:FA}(h:fs ρ st=.ok [.tup ws] st1):qF fs ρ st=.ok (lX ws,none) st1:=by unfold qF;rw[h];rfl
end
section
variable{ps:List Pl}{sz:List Nat}{lk:List #[6]}
theorem D5(ps:List Pl)(hn:ps.length<=1000)(hρ:ρ[0]?=some (some (bV ps)))(st:List am):j6 [none] (gB (ag 0)) (jD 0) wZ (eC .non) ρ st=.ok #[5] (st++[.lst ((List.replicate ps.length none).map oW)]):=by
 have:=DZ (cap:=[none]) (f:=jD 0) (el:=eC .non) (ρ:=ρ) (st:=st) (fun _=>.non) (u4 (fe:=ag 0) (ws:=ps.map Pl.w) (st1:=st) (ju hρ)) (by rw[aD];show _<=1000000;omega) trivial fun w _=>⟨_,rfl,bU⟩
 rw[this,List.map_replicate,cf]
 congr 4
 exact List.map_const' ..
def Up(lk:List #[6])(f:Option Nat×Option Nat->Option Nat)(i:Nat)(l:List (Option Nat)):Prop:=
 (∀p u:Nat,l[p]?=some (some u)->∃x,lk[u]?=some x/\f x=some p)/\∀u x p,u<i->lk[u]?=some x->f x=some p->∃v,l[p]?=some (some v)
theorem Up.zero{k:Nat}:Up lk f 0 (List.replicate k none):=⟨fun p u e=>by
 rw[jf]at e
 split at e<;>simp at e,fun u x p h=>absurd h #[0]⟩
theorem Up.skip{l:List (Option Nat)}(h:Up lk f i l)(hx:lk[i]?=some x)(hf:f x=none):Up lk f (i+1) l:=⟨h.1,fun u y p hu hy hp=>by
 by_cases e:u=i
 ·subst e;rw[hx]at hy;cases hy;rw[hf]at hp;cases hp
 ·exact h.2 u y p #[0] hy hp⟩
theorem Up.put{l:List (Option Nat)}(h:Up lk f i l)(hx:lk[i]?=some x)(hf:f x=some q)(hq:q<l.length):Up lk f (i+1) (l.set q (some i)):=⟨fun p u e=>by
 by_cases z:q=p
 ·subst z
  rw[cv hq]at e
  cases e;exact⟨x,hx,hf⟩
 ·rw[cW z]at e;exact h.1 p u e,fun u y p hu hy hp=>by
 by_cases z:q=p
 ·subst z;exact⟨i,cv hq⟩
 ·rw[cW z]
  by_cases e:u=i
  ·subst e;rw[hx]at hy;cases hy;rw[hf]at hp;exact absurd (bu hp) z
  ·exact h.2 u y p #[0] hy hp⟩
theorem Pi(h:Gr ps S sz lk)(hn:ps.length<=900)(st:List am):∃(A B:List (Option Nat)) (x:List am),A.length=ps.length/\B.length=ps.length/\Up lk Prod.fst ps.length A/\Up lk Prod.snd ps.length B/\(st++x)[st.length]?=some (.lst (A.map oW))/\(st++x)[st.length+1]?=some (.lst (B.map oW))/\HN [bV ps] st=.ok (.tup [.loc st.length,.loc (st.length+1)]) (st++x):=by
 obtain⟨l1,l2,_⟩:=h.ok
 suffices hh:j8 (zZ fun w bp=>w=.tup [.loc st.length,.loc (st.length+1)]/\st <+: bp/\∃(A B:List (Option Nat)),A.length=ps.length/\B.length=ps.length/\Up lk Prod.fst ps.length A/\Up lk Prod.snd ps.length B/\bp[st.length]?=some (.lst (A.map oW))/\bp[st.length+1]?=some (.lst (B.map oW))) (Ox ([bV ps].map some++List.replicate (5-1) none) st) by
  obtain⟨w,s',e,rfl,⟨x,rfl⟩,A,B,a1,a2,a3,a4,a5,a6⟩:=hh
  refine⟨A,B,x,a1,a2,a3,a4,a5,a6,?_⟩
  have:=jt (N:=5) (body:=Ox) (ws:=[bV ps]) e
  rw[xV (by simp[undWs,W.und])]at this
  exact this
 have eA:=D5 ps #[0] (ρ:=[some (bV ps),none,none,none,none]) rfl st
 apply aA
 ·exact wb eA rfl
 generalize hA0:List.replicate ps.length (none:Option Nat)=A0 at *
 have eB:=D5 ps #[0] (ρ:=[some (bV ps),lO st.length,none,none,none]) rfl (st++[.lst (A0.map oW)])
 rw[hA0]at eB
 apply aA
 ·exact wb eB rfl
 rw[show(st++[am.lst (A0.map oW)]).length=st.length+1 by simp]
 have lA0:A0.length=ps.length:=by rw[<- hA0];simp
 have uA:∀f,Up lk f 0 A0:=fun f=>by rw[<- hA0];exact Up.zero
 have hlk:=r6 h #[0] (st++[am.lst (A0.map oW)]++[.lst (A0.map oW)])
 refine gi (fun i ρ s=>∃(o3 o4:Option W) (A B:List (Option Nat)),ρ=[some (bV ps),lO st.length,lO (st.length+1),o3,o4]/\st <+: s/\A.length=ps.length/\B.length=ps.length/\s[st.length]?=some (.lst (A.map oW))/\s[st.length+1]?=some (.lst (B.map oW))/\Up lk Prod.fst i A/\Up lk Prod.snd i B) (k:=(lX (lk.map gH),none))
  (st1:=st++[am.lst (A0.map oW)]++[.lst (A0.map oW)]) (Ph (av (cw kn hlk rfl) aY)) ⟨none,none,A0,A0,rfl,zz (zz (ao _)),lA0,lA0,cJ dy,by rw[show st.length+1=(st++[am.lst (A0.map oW)]).length by simp];exact dy,uA _,uA _⟩ (fun _ _ _ _=>trivial) ?_ ?_
 ·rintro i w ρ s hw ⟨o3,o4,A,B,rfl,hp,hA,hB,cA,cB,uA,uB⟩
  obtain⟨y,hy,rfl⟩:=tf hw
  rw[aI]at hy
  obtain⟨x,hx,rfl⟩:=fm.mp hy
  obtain⟨k1,k2⟩:=h.lk hx
  have hi:i<ps.length:=by have:=(au.mp hx).1;omega
  refine⟨_,rfl,?_⟩
  obtain⟨a,b⟩:=x
  have last:∀(s:List am) (A:List (Option Nat)),st <+: s->A.length=ps.length->s[st.length]?=some (.lst (A.map oW))->s[st.length+1]?=some (.lst (B.map oW))->Up lk Prod.fst (i+1) A->j8 (KI fun ρ s=>∃(o3 o4:Option W) (A B:List (Option Nat)),ρ=[some (bV ps),lO st.length,lO (st.length+1),o3,o4]/\st <+: s/\A.length=ps.length/\B.length=ps.length/\s[st.length]?=some (.lst (A.map oW))/\s[st.length+1]?=some (.lst (B.map oW))/\Up lk Prod.fst (i+1) A/\Up lk Prod.snd (i+1) B)
    (fO (eG (gA (e2 bj (ag 4) (eI 1)))) (wY (ag 2) (e2 bj (ag 4) (eI 1)) (ag 3) ql) bM [some (bV ps),lO st.length,lO (st.length+1),iO (i:Nat),some (gH (a,b))] s):=by
   intro s A hp hA cA cB uA
   cases b with
   |none=>
    apply oP
    ·exact aZ (dX kx rfl)
    ·exact⟨_,_,rfl,_,_,A,B,rfl,hp,hA,hB,cA,cB,uA,uB.skip hx rfl⟩
   |some q=>
    have:=k2 q rfl
    apply oO
    ·exact aZ (dX kx rfl)
    apply dv
    ·exact AO kv kv kx (CT (q:=q) cB (by rw[aD];omega))
    ·exact⟨_,_,rfl,_,_,A,B.set q (some i),rfl,r_ hp #[0],hA,by rw[nX];exact hB,by rw[bI #[0]];exact cA,by rw[d_ cB,sF];rfl,uA,uB.put hx rfl #[0]⟩
  cases a with
  |none=>
   apply bD
   ·exact aZ (dX kx rfl)
   apply b6
   exact last s A hp hA cA cB (uA.skip hx rfl)
  |some q=>
   have:=k1 q rfl
   apply aA
   ·exact cN (aZ (dX kx rfl)) (AO kv kv kx (CT (q:=q) cA (by rw[aD];omega)))
   exact last _ (A.set q (some i)) (r_ hp (az _)) (by rw[nX];exact hA) (by rw[d_ cA,sF];rfl) (by rw[bI #[0]];exact cB) (uA.put hx rfl #[0])
 ·rintro ρ s ⟨o3,o4,A,B,rfl,hp,hA,hB,cA,cB,uA,uB⟩
  rw[show(lX (lk.map gH),(none:Option (Nat×List W))).fst.length=ps.length by rw[xR,aD,l2]]at uA uB
  apply bO
  ·exact eX (av kv kn) (aq rfl)
  ·exact⟨_,_,rfl,rfl,hp,A,B,hA,hB,uA,uB,cA,cB⟩
end
theorem E_(l:List α)(d:α)(f:α->β):(List.range l.length).map (fun i=>f (l.getD i d))=l.map f:=by
 refine jz fun i=>?_
 rw[aI,aI]
 by_cases h:i<l.length
 ·rw[iK h,aj h]
  show some (f (l.getD i d))=_
  rw[aH,aj h];rfl
 ·rw[cn (by simpa using h),cn #[0]];rfl
theorem lq{l:List α}(d:α)(h:i<l.length):l[i]?=some (l.getD i d):=by
 rw[aH,aj h];rfl
theorem St.ex{n b:Nat}{S:List Nat}(hb:b<=3)(h:(b+1)/2<=S.length):∃S' k x,St n S b S' k x/\S'.length+(b+1)/2=S.length+1:=by
 obtain rfl|rfl|rfl|rfl:b=0\/b=1\/b=2\/b=3:=by omega
 ·exact⟨_,_,_,.z,by simp⟩
 ·match S,h with
  |a::S,_=>exact⟨_,_,_,.l,by simp⟩
 ·match S,h with
  |a::S,_=>exact⟨_,_,_,.r,by simp⟩
 ·match S,h with
  |c::a::S,_=>exact⟨_,_,_,.b,by simp⟩
  |[_],hz=>simp at hz
  |[],hz=>simp at hz
def yh(d:Int)(i:Nat):Bool:=Builtin.bitAnd (d/2^i) 1==1
def pi(pool:List Nat)(d:Int):List Nat:=((List.range pool.length).filter (yh d)).map fun i=>pool.getD i 0
theorem ni(pool:List Nat)(d:Int):(pi pool d).Sublist pool:=by
 unfold pi
 have:((List.range pool.length).map fun i=>pool.getD i 0)=pool:=by
  have:=E_ pool 0 (fun x=>x)
  rw[List.map_id']at this;exact this
 conv=>rhs;rw[<- this]
 exact List.Sublist.map _ List.filter_sublist
def zD:W->Nat
 |.int i=>i.toNat
 |_=>0
theorem Fa(pool:List Nat)(hp:pool.length<=50)(d:Int)(st:List am):Bf [.str pool,.int d] st=.ok (.str (CS (pi pool d))) st:=by
 have hL:pool.length<=mB:=by show _<=1000000;omega
 have hc:=CF (fi:=dP (ah (bG dG (ah (ag 0) aE)) aE)) (f:=jD 0) (t:=eG (e2 iC (e2 GC (e2 NL (ag 2) (ag 0)) (eI 1)) (eI 1))) (el:=e2 bj (ag 1) (ag 0)) (cap:=[none,some 0,some 1]) (ρ:=[some (.str pool),iO d]) (st:=st) (st1:=st) (ws:=gF 0 pool.length) (ck:=none) (fun w=>yh d (zD w)) (fun w=>.str [pool.getD (zD w) 0])
   (by
    have:=jw (fs:=ah (bG dG (ah (ag 0) aE)) aE) (ρ:=[some (.str pool),iO d]) (st:=st) (st1:=st) (q:=(pool.length:Int)) (av (cu kn (y8 hL)) aY) #[0]
    rw[bX]at this
    exact this) (by rw[fD];show _<=1000000;omega) trivial fun w hw=>by
   obtain⟨i,hi,rfl⟩:=xY hw
   refine⟨[iO (0+(i:Int)),some (.str pool),iO d],rfl,?_,fun _=>?_⟩
   ·have h0:(0:Int)<=0+(i:Int):=by omega
    have hk:(Builtin.bitAnd (d/2^(0+(i:Int)).toNat) 1==1)=yh d (zD (.int (0+(i:Int)))):=rfl
    exact aZ (bw (bw (bw kv kv (jv h0)) bU (jv trivial)) bU (fX hk))
   ·refine bw kv kv ?_
    rw[show((0:Int)+(i:Int))=(i:Int) by omega]
    have e2:sO pool (i:Int)=some (pool.getD i 0):=ga (lq 0 hi)
    rw[GX hL e2]
    simp[zD]
 have e:((gF 0 pool.length).filter fun w=>yh d (zD w)).map (fun w=>W.str [pool.getD (zD w) 0])=((pi pool d).map fun c=>[c]).map W.str:=by
  unfold gF pi
  rw[List.filter_map,cf,cf,cf]
  have e1:((fun w=>yh d (zD w))∘fun k:Nat=>W.int (0+(k:Int)))=yh d:=by funext k;simp[zD]
  rw[e1]
  refine eY fun k _=>?_
  simp[zD]
 rw[e]at hc
 have hl:(pi pool d).length<=50:=aN (ni pool d).length_le hp
 refine fE (N:=2) (ws:=[.str pool,.int d]) (body:=Mg) ?_ rfl
 apply bO
 ·exact D3 hc (b8 dy) #[0]
 ·exact⟨_,_,rfl,rfl,_,by rw[al]⟩
theorem yi(l:List Nat):kZ [] (l.map fun c=>[c])=l:=by
 rw[mD]
 induction l with
 |nil=>rfl
 |cons a r ih=>simp only[a9,l9,ih];rfl
theorem tP(h:l.Nodup):CS l=gn l:=by
 have hp:(gn l).Perm l:=(List.perm_ext_iff_of_nodup ((jr l).imp fun h=>bf h) h).mpr fun d=>jb
 have e:jc (l.map fun c=>[c])=(gn l).map fun c=>[c]:=by
  refine u0 (vE _) ?_ ((gG _).trans (hp.map _).symm)
  refine List.pairwise_map.mpr ((jr l).imp fun{a b} h=>?_)
  intro z
  rcases List.cons_lt_cons_iff.mp z with y|⟨y,_⟩<;>omega
 unfold CS
 rw[e,yi]
def Fb(pool m:List Nat):Prop:=m.length<=50/\(∀d∈m,d∈pool)/\(pool.Nodup->m.Pairwise (· < ·))
theorem Sn(hp:pool.length<=50)(d:Int):Fb pool (CS (pi pool d)):=
 ⟨by rw[D2];exact aN (ni pool d).length_le hp,fun c hc=>(ni pool d).subset ((HU _).mem_iff.mp hc),fun h=>by rw[tP ((ni pool d).nodup h)];exact jr _⟩
theorem Pj{f:cM->List am->R Bool}{a b:List am}(h1:f ρ st=.ok false a)(h2:f ρ st=.ok true b):False:=by
 rw[h1]at h2;cases h2
theorem D6{nd:Nat}{ds:List Int}{pool:List Nat}(hd:st[nd]?=some (.lst (zA ds)))(Vf:ds.length<=100)(hp:pool.length<=50) :
  ∃ps S sz lk,Gr ps S sz lk/\S.length<=1/\ps.length<=2*ds.length/\(∀p∈ps,Fb pool p.m)/\v8 [.loc nd,.str pool] st=.ok (bV ps) st:=by
 suffices hh:j8 (zZ fun w bp=>(∃x,bp=st++x)/\undWs st.length [w]=true/\∃ps S sz lk,w=bV ps/\Gr ps S sz lk/\S.length<=1/\ps.length<=2*ds.length/\∀p∈ps,Fb pool p.m) (Mh ([W.loc nd,.str pool].map some++List.replicate (6-2) none) st) by
  obtain⟨w,⟨ps,S,sz,lk,rfl,h1,h2,h3,h4⟩,e⟩:=rH hh
  exact⟨ps,S,sz,lk,h1,h2,h3,h4,e⟩
 apply aA
 ·(walk_at "evs")
 apply aA
 ·(walk_at "evs")
 have hU:∀A:List W,lstOf (st++[am.lst A]) nd=some (zA ds):=fun A=>b8 (cJ hd)
 refine gi (fun i ρ bp=>∃(ps:List Pl) (S sz:List Nat) (lk:List #[6]) (o5 o6:Option W),ρ=[lO nd,some (.str pool),lO st.length,iO S.length,o5,o6]/\bp=st++[.lst (ps.map Pl.w)]/\Gr ps S sz lk/\ps.length=i/\∀p∈ps,Fb pool p.m) (y9 (st1:=st++[am.lst []]) (by(walk_at "evs")) (hU []))
  ⟨[],[],[],[],none,none,rfl,rfl,.nil,rfl,by simp⟩ (fun i ρ bp h=>?_) ?_ ?_
 ·obtain⟨ps,S,sz,lk,o5,o6,rfl,rfl,_⟩:=h
  exact hU _
 ·rintro i w ρ bp hw ⟨ps,S,sz,lk,o5,o6,rfl,rfl,hg,kY,hpm⟩
  obtain⟨d,hdd,rfl⟩:∃d,ds[i]?=some d/\w=.int d:=by
   simp only[zA,aI,fm]at hw
   obtain⟨d,h1,rfl⟩:=hw
   exact⟨d,h1,rfl⟩
  have hi:i<ds.length:=(au.mp hdd).1
  refine⟨_,rfl,?_⟩
  have hc:(st++[am.lst (ps.map Pl.w)])[st.length]?=some (.lst (ps.map Pl.w)):=dy
  obtain⟨b0,hb0,eb0⟩:=iR (q:=d) (n:=4) #[0]
  have eb0:d%4=(b0:Int):=eb0
  apply aA
  ·exact a_ (bw kv bU (jv #[13]))
  rw[eb0]
  refine u5 (fun ρ bp=>∃b:Nat,b<=3/\(b+1)/2<=S.length/\ρ=[lO nd,some (.str pool),lO st.length,iO S.length,iO d,iO b]/\bp=st++[.lst (ps.map Pl.w)]) ?_ ?_
  ·by_cases h1:S.length<(b0+1)/2
   ·have t1:decide ((S.length:Int)<((b0:Int)+1)/2)=true:=bn #[0]
    apply oO
    ·exact aZ (bw (bw (bw kv bU dY) bU (jv #[13])) kv (nL t1))
    apply dv
    ·(walk_at "evs")
    ·exact⟨_,_,rfl,0,by omega,by omega,rfl,rfl⟩
   ·have t1:decide ((S.length:Int)<((b0:Int)+1)/2)=false:=aV #[0]
    apply oP
    ·exact aZ (bw (bw (bw kv bU dY) bU (jv #[13])) kv (nL t1))
    apply dv
    ·exact d8
    ·exact⟨_,_,rfl,b0,by omega,by omega,rfl,rfl⟩
  rintro ρ bp ⟨b2,hb2,tX,rfl,rfl⟩
  obtain⟨S',k,x,su,hlen'⟩:=St.ex (n:=ps.length) hb2 tX
  have em:=Fa pool hp (d/4%16) (st++[am.lst (ps.map Pl.w)])
  have hmk:=Sn hp (d/4%16)
  generalize CS (pi pool (d/4%16))=m at em hmk
  have ap:=nM (y:=(Pl.mk b2 m).w) hc (by rw[aD];show _<1000000;omega)
  rw[fx]at ap
  have ap:bW #[5] [.tup [.int b2,.str m]] (st++[am.lst (ps.map Pl.w)])=_:=ap
  apply aA
  ·exact d7 (ik kv (du hc) (av (eX (av kv (av (cw (av kv (av (bw (bw kv bU (jv #[13])) bU (jv #[13])) aY)) em rfl) aY)) (aq rfl)) aY) ap)
  apply dv
  ·exact a_ (bw (bw kv bU dY) (bw (bw kv bU dY) bU (jv #[13])) (jv trivial))
  ·refine⟨_,_,rfl,ps++[⟨b2,m⟩],S',sz++[k],lk++[x],iO d,iO b2,?_,by simp,.snoc hg su,by simp[kY],?_⟩
   ·show[_,_,_,iO ((S.length:Int)+1-((b2:Int)+1)/2),_,_]=_
    rw[show(S.length:Int)+1-((b2:Int)+1)/2=(S'.length:Int) by omega]
   ·intro p hp'
    rcases aW.mp hp' with z|z
    ·exact hpm p z
    ·simp at z;subst z;exact hmk
 ·rintro ρ bp ⟨ps,S,sz,lk,o5,o6,rfl,rfl,hg,kY,hpm⟩
  rw[show(zA ds,some (nd,zA ds)).fst.length=ds.length by simp[zA]]at kY
  have hSle:=hg.ok.2.2.le
  refine E1 (fun n ρ bp=>∃(ps:List Pl) (S sz:List Nat) (lk:List #[6]),ρ=[lO nd,some (.str pool),lO st.length,iO S.length,o5,o6]/\bp=st++[.lst (ps.map Pl.w)]/\Gr ps S sz lk/\ps.length+S.length<=2*ds.length/\(∀p∈ps,Fb pool p.m)/\S.length=n) S.length ⟨ps,S,sz,lk,rfl,rfl,hg,by omega,hpm,rfl⟩ ?_ ?_
  ·rintro n ρ bp ⟨ps,S,sz,lk,rfl,rfl,hg,kY,hpm,rfl⟩
   by_cases h1:1<S.length
   ·refine .inr ?_
    have t1:decide ((1:Int)<(S.length:Int))=true:=bn #[0]
    constructor
    ·exact aZ (bw kv bU (nL t1))
    obtain⟨S',k,x,su,hlen'⟩:=St.ex (n:=ps.length) (b:=3) (S:=S) #[0] #[0]
    have hc:(st++[am.lst (ps.map Pl.w)])[st.length]?=some (.lst (ps.map Pl.w)):=dy
    have hS2:=hg.ok.2.2.le
    obtain⟨p,z_⟩:∃p,ps[S.length-1]?=some p:=⟨_,aj #[0]⟩
    have ix:bj #[5] (.int ((S.length:Int)-1)) (st++[am.lst (ps.map Pl.w)])=.ok p.w (st++[am.lst (ps.map Pl.w)]):=by
     rw[show(S.length:Int)-1=((S.length-1:Nat):Int) by omega]
     exact jG (b8 hc) (ga (by rw[aI,z_];rfl))
    have hmk:=hpm p (cy z_)
    have ap:=nM (y:=(Pl.mk 3 p.m).w) hc (by rw[aD];show _<1000000;omega)
    rw[fx]at ap
    have ap:bW #[5] [.tup [.int 3,.str p.m]] (st++[am.lst (ps.map Pl.w)])=_:=ap
    apply aA
    ·exact d7 (ik kv (du hc) (av (eX (av bU (av (bw (bw kv (bw kv bU (jv trivial)) ix) bU (CQ p _)) aY)) (aq rfl)) aY) ap)
    apply dv
    ·exact a_ (bw kv bU (jv trivial))
    ·refine⟨_,_,rfl,S'.length,by omega,ps++[⟨3,p.m⟩],S',sz++[k],lk++[x],?_,by simp,.snoc hg su,by simp;omega,?_,rfl⟩
     ·show[_,_,_,iO ((S.length:Int)-1),_,_]=_
      rw[show(S.length:Int)-1=(S'.length:Int) by omega]
     ·intro q hq
      rcases aW.mp hq with z|z
      ·exact hpm q z
      ·simp at z;subst z;exact hmk
   ·refine .inl ?_
    have t1:decide ((1:Int)<(S.length:Int))=false:=aV #[0]
    exact aZ (bw kv bU (nL t1))
  ·rintro n ρ bp ⟨ps,S,sz,lk,rfl,rfl,hg,kY,hpm,rfl⟩ hno
   have hc:(st++[am.lst (ps.map Pl.w)])[st.length]?=some (.lst (ps.map Pl.w)):=dy
   have hS1:S.length<=1:=by
    rcases Nat.lt_or_ge 1 S.length with h1|h1
    ·have t1:decide ((1:Int)<(S.length:Int))=true:=bn #[0]
     exact(Pj hno (aZ (bw kv bU (nL t1)))).elim
    ·exact h1
   apply bO
   ·exact cu kn (oQ (b8 hc))
   ·exact⟨_,_,rfl,⟨_,rfl⟩,by simp only[undWs,dM];exact lj ps _,ps,S,sz,lk,rfl,hg,hS1,by omega,hpm⟩
theorem Ii{l:List Nat}(hl:l.length<4000)(h:∀c∈l,c∈LL)(st:List am):HL [.str l] st=.ok (.str (gn l)) st:=by
 have hs:(gn l).length<64:=by
  have:(gn l).length<=LL.length:=mf ((jr l).imp fun h=>bf h) fun c hc=>h c (jb.mp hc)
  have e:LL.length=52:=by decide
  omega
 have e1:rq (ag 0) [some (.str l)] st=.ok #[5] (st++[.lst (iG (gn l))]):=by
  unfold rq
  rw[ju (w:=.str l) rfl]
  simp only[R.bind_ok,vG,eV]
  rw[aF ⟨hl,hs⟩]
 have hj:=CD (sep:=[]) (ls:=(gn l).map fun c=>[c]) (st:=st++[.lst (iG (gn l))]) (n:=st.length) (b8 (by rw[dy];unfold iG;rw[cf];rfl)) (by
  rw[se];show _<=1000000;simp;omega)
 rw[yi]at hj
 exact fE (bO (KH bU rfl (av e1 aY) hj) ⟨_,_,rfl,rfl,_,rfl⟩) rfl
section
variable{ps:List Pl}{sz:List Nat}{lk:List #[6]}
theorem Ij(l:List Nat)(n:Nat):undWs n (cV l)=true:=by
 unfold cV
 induction l with
 |nil=>rfl
 |cons x r ih=>simp[undWs,W.und,ih]
theorem yj{st:List am}{z:List Nat}{a:Nat}(x:List am)(h:z[q]?=some a):bj #[5] (.int q) (st++.lst (cV z)::x)=.ok (.int a) (st++.lst (cV z)::x):=
 jG (b8 (by rw[dB];rfl)) (ga (by unfold cV;rw[aI,h];rfl))
theorem Ik{st:List am}{z:List Nat}(q:Nat)(hz:z.length<1000):bW #[5] [.int q] (st++[.lst (cV z)])=.ok .non (st++[.lst (cV (z++[q]))]):=by
 have hc:(st++[am.lst (cV z)])[st.length]?=some (.lst (cV z)):=by rw[dB];rfl
 rw[nM hc (by simp[cV];show _<1000000;omega),fx]
 simp[cV]
theorem U'{l:List α}{x:α}(h:l[i]?=some x):l.take (i+1)=l.take i++[x]:=by rw[jB,h];rfl
theorem Br(h:Gr ps S sz lk)(hn:ps.length<=900)(st:List am):CO [bV ps] st=.ok (.tup (cV sz)) st:=by
 obtain⟨l1,l2,_⟩:=h.ok
 refine fE (N:=5) (ws:=[bV ps]) (body:=R1) ?_ (by simp[undWs,W.und,Ij])
 apply aA
 ·(walk_at "evs")
 have hlk:=r6 h #[0] (st++[am.lst []])
 refine gi (fun i ρ bp=>∃(o2 o3 o4:Option W),ρ=[some (bV ps),some #[5],o2,o3,o4]/\bp=st++[.lst (cV (sz.take i))]) (k:=(lk.map gH,none))
  (u4 (st1:=st++[am.lst []]) (by(walk_at "evs"))) ⟨none,none,none,rfl,rfl⟩ (fun _ _ _ _=>trivial) ?_ ?_
 ·rintro i w ρ bp hw ⟨o2,o3,o4,rfl,rfl⟩
  have hip:i<ps.length:=by have:=(au.mp hw).1;simp at this;omega
  obtain⟨S1,S2,p,k,x,g1,q1,q2,q3,hs,g2⟩:=h.step i hip
  rw[show(lk.map gH,(none:Option (Nat×List W))).1=lk.map gH from rfl,aI,q3]at hw
  cases hw
  obtain⟨lz,ll,ha⟩:=g1.ok
  have hti:(ps.take i).length=i:=by rw[aM];omega
  rw[hti]at ha lz
  have isl:k8 #[18] #[5]=true:=du (by rw[dB];rfl)
  have ap:=Ik (st:=st) (z:=sz.take i) k #[0]
  rw[<- U' q2]at ap
  obtain⟨b,m⟩:=p
  cases hs with
  |z=>
   rw[show((1:Nat):Int)=1 from rfl]at ap
   refine⟨_,rfl,?_⟩
   apply aA
   ·(walk_at "evs")
   apply bD
   ·(walk_at "evs")
   apply b6
   apply bD
   ·(walk_at "evs")
   apply b6
   apply dv
   ·(walk_at "evs")
   ·exact⟨_,_,rfl,_,_,_,rfl,rfl⟩
  |@l a S=>
   rw[show((1+a:Nat):Int)=1+(a:Int) by omega]at ap
   have x1:bj #[5] (oW ((some (i-1),none):Option Nat×Option Nat).fst) #[18]=.ok (.int a) #[18]:=yj (st:=st) [] ha.1
   refine⟨_,rfl,?_⟩
   apply aA
   ·(walk_at "evs")
   apply aA
   ·apply cN
    ·(walk_at "evs")
    ·(walk_at "evs")
   apply bD
   ·(walk_at "evs")
   apply b6
   apply dv
   ·(walk_at "evs")
   ·exact⟨_,_,rfl,_,_,_,rfl,rfl⟩
  |@r a S=>
   rw[show((1+a:Nat):Int)=1+(a:Int) by omega]at ap
   have x1:bj #[5] (oW ((none,some (i-1)):Option Nat×Option Nat).snd) #[18]=.ok (.int a) #[18]:=yj (st:=st) [] ha.1
   refine⟨_,rfl,?_⟩
   apply aA
   ·(walk_at "evs")
   apply bD
   ·(walk_at "evs")
   apply b6
   apply aA
   ·apply cN
    ·(walk_at "evs")
    ·(walk_at "evs")
   apply dv
   ·(walk_at "evs")
   ·exact⟨_,_,rfl,_,_,_,rfl,rfl⟩
  |@b c a S=>
   have x1:bj #[5] (oW ((some (i-1-c),some (i-1)):Option Nat×Option Nat).snd) #[18]=.ok (.int c) #[18]:=yj (st:=st) [] ha.1
   have x2:=yj (st:=st) [] ha.2.2.2.1
   rw[show i-c-1=i-1-c by omega]at x2
   have x2:bj #[5] (oW ((some (i-1-c),some (i-1)):Option Nat×Option Nat).fst) #[18]=.ok (.int a) #[18]:=x2
   rw[show((1+c+a:Nat):Int)=1+(a:Int)+(c:Int) by omega]at ap
   refine⟨_,rfl,?_⟩
   apply aA
   ·(walk_at "evs")
   apply aA
   ·apply cN
    ·(walk_at "evs")
    ·(walk_at "evs")
   apply aA
   ·apply cN
    ·(walk_at "evs")
    ·(walk_at "evs")
   apply dv
   ·(walk_at "evs")
   ·exact⟨_,_,rfl,_,_,_,rfl,rfl⟩
 ·rintro ρ bp ⟨o2,o3,o4,rfl,rfl⟩
  have hc:(st++[am.lst (cV (sz.take (lk.map gH,(none:Option (Nat×List W))).1.length))])[st.length]?=some (.lst (cV sz)):=by
   rw[dB]
   show some (am.lst (cV (sz.take (lk.map gH).length)))=_
   rw[bB (by simp;omega)]
  apply bO
  ·(repeat' (first|with_reducible exact oQ (b8 hc)|walk_at "ev1"))
  ·exact⟨_,_,rfl,rfl,_,rfl⟩
end
structure D7(ps:List Pl)(sz:List Nat)(q:Nat)(p:Pl)(L R:Nat):Prop where
 hp:ps[q]?=some p
 hz:sz[q]?=some (1+L+R)
 le:L+R<=q
 b3:p.b<=3
 hL:0<L↔p.b%2=1
 hR:0<R↔2<=p.b
 hr:2<=p.b->1<=q/\sz[q-1]?=some R
theorem D7.lt{ps:List Pl}{sz:List Nat}{p:Pl}{L R:Nat}(c:D7 ps sz q p L R):q<ps.length:=(au.mp c.hp).1
theorem jx(a b:List Pl)(h:(a++b).length<=100000)(st:List am):cQ (bV a) (bV b) st=.ok (bV (a++b)) st:=by
 unfold bV
 rw[G0 (by rw[<- bb,aD];show _<=1000000;omega),<- bb]
theorem Mw{z:List Nat}{a:Nat}(h:z[q]?=some a)(st:List am):bj (.tup (cV z)) (.int q) st=.ok (.int a) st:=mI (ga (by unfold cV;rw[aI,h];rfl))
theorem wf{a:List Pl}{q:Nat}(h:q<=a.length)(st:List am):wP (bV a) none (some (q:Int)) st=.ok (bV (a.take q)) st:=by
 unfold bV;rw[AQ,mY (by simpa using h),mx]
theorem wg{a:List Pl}{q:Nat}(h:q<=a.length)(st:List am):wP (bV a) (some (q:Int)) none st=.ok (bV (a.drop q)) st:=by
 unfold bV;rw[AQ,rK (by simpa using h),my]
theorem CW{a:List Pl}{i j:Nat}(hj:j<=a.length)(hi:i<=j)(st:List am):wP (bV a) (some (i:Int)) (some (j:Int)) st=.ok (bV ((a.drop i).take (j-i))) st:=by
 unfold bV;rw[AQ,G1 (by simpa using hj) hi,mx,my]
section
variable{ps:List Pl}{sz:List Nat}{lk:List #[6]}{p:Pl}{L R:Nat}
theorem wj(h:q<ps.length)(st:List am):xc [bV ps,.int q] st=.ok .non st:=by
 have d1:decide ((q:Int)<0)=false:=aV #[0]
 have d2:decide ((ps.length:Int)<=(q:Int))=false:=aV #[0]
 have hl:=gb ps st
 refine AR (N:=2) (ws:=[bV ps,.int q]) (body:=Oy) ?_
 apply oP
 ·apply mX
  ·(walk_at "evs")
  ·(walk_at "evs")
 apply dv
 ·(walk_at "evs")
 ·exact⟨_,_,rfl,[],by simp⟩
theorem Il{z:Int}(h:z<0\/(ps.length:Int)<=z)(st:List am):xc [bV ps,.int z] st=.ex "NoPlace" st:=by
 have hl:=gb ps st
 refine pX (N:=2) (ws:=[bV ps,.int z]) (body:=Oy) ?_
 by_cases h0:z<0
 ·have d1:decide (z<0)=true:=bn h0
  apply oO
  ·apply y7
   (walk_at "evs")
  apply tu
  exact⟨_,_,rfl,[],by simp⟩
 ·have d1:decide (z<0)=false:=aV h0
  have d2:decide ((ps.length:Int)<=z)=true:=bn #[0]
  apply oO
  ·apply mX
   ·(walk_at "evs")
   ·(walk_at "evs")
  apply tu
  exact⟨_,_,rfl,[],by simp⟩
theorem Im(h:n<=100)(st:List am):v5 [.int n] st=.ok .non st:=by
 have d1:decide ((100:Int)<(n:Int))=false:=aV #[0]
 refine AR (N:=1) (ws:=[.int n]) (body:=A8) ?_
 simp only[A8,jY]
 apply oP
 ·(walk_at "evs")
 apply dv
 ·(walk_at "evs")
 ·exact⟨_,_,rfl,[],by simp⟩
theorem KS(h:100<n)(st:List am):v5 [.int n] st=.ex "TooGreat" st:=by
 have d1:decide ((100:Int)<(n:Int))=true:=bn #[0]
 refine pX (N:=1) (ws:=[.int n]) (body:=A8) ?_
 simp only[A8,jY]
 apply oO
 ·(walk_at "evs")
 apply tu
 exact⟨_,_,rfl,[],by simp⟩
theorem KU(h:Gr ps S sz lk)(hn:ps.length<=900)(c:D7 ps sz q p L R)(st:List am):uo [bV ps,.int q] st=.ok (bV ((ps.drop (q-L-R)).take (1+L+R))) st:=by
 have hq:=c.lt
 have kY:=c.le
 have h1:=wj hq st
 have h2:=Br h hn st
 have h3:=Mw c.hz st
 have h4:=CW (a:=ps) (i:=q-L-R) (j:=q+1) #[0] #[0] st
 rw[show q+1-(q-L-R)=1+L+R by omega,show((q-L-R:Nat):Int)=(q:Int)+1-((1+L+R:Nat):Int) by omega,show((q+1:Nat):Int)=(q:Int)+1 from rfl]at h4
 refine fE (N:=2) (ws:=[bV ps,.int q]) (body:=HP) ?_ (by simp[undWs,lj])
 apply aA
 ·(walk_at "evs")
 apply bO
 ·apply mH
  ·(walk_at "evs")
  ·(walk_at "evs")
  ·(walk_at "evs")
  ·exact h4
 ·exact⟨_,_,rfl,rfl,[],by simp⟩
theorem KW{z:Int}(h:z<0\/(ps.length:Int)<=z)(st:List am):uo [bV ps,.int z] st=.ex "NoPlace" st:=by
 refine pX (N:=2) (ws:=[bV ps,.int z]) (body:=HP) ?_
 apply mZ
 ·apply xX
  apply rL
  ·(walk_at "evs")
  ·exact Il h st
  ·rfl
 ·exact⟨_,_,rfl,[],by simp⟩
theorem Io(h:Gr ps S sz lk)(hn:ps.length<=900)(c:D7 ps sz q p L R)(st:List am):o_ [bV ps,.int q] st=.ok (.tup [bV ((ps.drop (q-L-R)).take L),bV ((ps.drop (q-R)).take R)]) st:=by
 have hq:=c.lt
 have kY:=c.le
 have h1:=KU h hn c st
 have h2:=Br h hn st
 have h3:=r9 c.hp st
 have h4:=Bk c.b3 st
 have hl:wP (bV ((ps.drop (q-L-R)).take (1+L+R))) none (some (-1)) st=.ok (bV ((ps.drop (q-L-R)).take (L+R))) st:=by
  unfold bV
  rw[AQ,G3,<- List.map_dropLast,oo,aM,cz,pM,show min (min (1+L+R) (ps.length-(q-L-R))-1) (1+L+R)=L+R by omega]
 have hbl:((ps.drop (q-L-R)).take (L+R)).length=L+R:=by rw[aM,cz];omega
 have h5:=gb ((ps.drop (q-L-R)).take (L+R)) st
 rw[hbl]at h5
 have h6:=wf (a:=(ps.drop (q-L-R)).take (L+R)) (q:=L) #[0] st
 have h7:=wg (a:=(ps.drop (q-L-R)).take (L+R)) (q:=L) #[0] st
 rw[pM,gR #[0]]at h6
 rw[List.drop_take,List.drop_drop,show q-L-R+L=q-R by omega,show L+R-L=R by omega]at h7
 have eL:((L+R:Nat):Int)-(R:Int)=(L:Int):=by omega
 refine fE (N:=5) (ws:=[bV ps,.int q]) (body:=HQ) ?_ (by simp[undWs,W.und,lj])
 apply aA
 ·apply a_
  apply mH
  ·(walk_at "evs")
  ·(walk_at "evs")
  ·apply mG
   apply rF
   (walk_at "evs")
  ·exact hl
 apply aA
 ·(walk_at "evs")
 refine u5 (fun ρ bp=>ρ=[some (bV ps),some (.int q),some (bV ((ps.drop (q-L-R)).take (L+R))),some (.int R),none]/\bp=st) ?_ ?_
 ·by_cases hb:2<=p.b
  ·rw[bn hb]at h4
   obtain⟨hq1,hz1⟩:=c.hr hb
   have h8:=Mw hz1 st
   rw[show((q-1:Nat):Int)=(q:Int)-1 by omega]at h8
   apply oO
   ·(walk_at "evs")
   apply dv
   ·(walk_at "evs")
   ·exact⟨_,_,rfl,rfl,rfl⟩
  ·rw[aV hb]at h4
   have hR0:R=0:=by have:=c.hR;omega
   apply oP
   ·(walk_at "evs")
   apply dv
   ·(walk_at "evs")
   ·exact⟨_,_,rfl,by subst hR0;rfl,rfl⟩
 ·rintro ρ bp ⟨rfl,rfl⟩
  apply aA
  ·(walk_at "evs")
  rw[eL]
  apply bO
  ·apply eX
   ·apply av
    ·apply mH
     ·(walk_at "evs")
     ·(walk_at "evs")
     ·(walk_at "evs")
     ·exact h6
    ·apply av
     ·apply mH
      ·(walk_at "evs")
      ·(walk_at "evs")
      ·(walk_at "evs")
      ·exact h7
     ·(walk_at "evs")
   ·(walk_at "evs")
  ·exact⟨_,_,rfl,rfl,[],by simp⟩
end
def pZ(l:List Pl):Nat:=if 0<l.length then 1 else 0
theorem Ip(a b:List Pl)(m:List Nat)(h:a.length+b.length<=5000)(st:List am):A9 [bV a,bV b,.str m] st=.ok (bV (a++b++[⟨pZ a+2*pZ b,m⟩])) st:=by
 have h1:=gb a st
 have h2:=gb b st
 have h3:=jx a b (by simp;omega) st
 have h4:=jx (a++b) [⟨pZ a+2*pZ b,m⟩] (by simp;omega) st
 refine fE (N:=4) (ws:=[bV a,bV b,.str m]) (body:=Mb) ?_ (by simp[undWs,lj])
 apply aA
 ·(walk_at "evs")
 refine u5 (fun ρ bp=>ρ=[some (bV a),some (bV b),some (.str m),some (.int (pZ a:Nat))]/\bp=st) ?_ ?_
 ·by_cases ha:0<a.length
  ·have d:decide ((0:Int)<(a.length:Int))=true:=bn #[0]
   apply oO
   ·(walk_at "evs")
   apply dv
   ·(walk_at "evs")
   ·exact⟨_,_,rfl,by simp only[pZ,aF ha];rfl,rfl⟩
  ·have d:decide ((0:Int)<(a.length:Int))=false:=aV #[0]
   apply oP
   ·(walk_at "evs")
   apply dv
   ·(walk_at "evs")
   ·exact⟨_,_,rfl,by simp only[pZ,aO ha];rfl,rfl⟩
 rintro ρ bp ⟨rfl,rfl⟩
 refine u5 (fun ρ st''=>ρ=[some (bV a),some (bV b),some (.str m),some (.int (pZ a+2*pZ b:Nat))]/\st''=bp) ?_ ?_
 ·by_cases hb:0<b.length
  ·have d:decide ((0:Int)<(b.length:Int))=true:=bn #[0]
   apply oO
   ·(walk_at "evs")
   apply dv
   ·(walk_at "evs")
   ·exact⟨_,_,rfl,by simp only[pZ,aF hb];rfl,rfl⟩
  ·have d:decide ((0:Int)<(b.length:Int))=false:=aV #[0]
   apply oP
   ·(walk_at "evs")
   apply dv
   ·(walk_at "evs")
   ·exact⟨_,_,rfl,by simp only[pZ,aO hb];rfl,rfl⟩
 rintro ρ st'' ⟨rfl,rfl⟩
 have h5:cQ (bV (a++b)) (.tup [.tup [.int (pZ a+2*pZ b:Nat),.str m]]) st''=.ok (bV (a++b++[⟨pZ a+2*pZ b,m⟩])) st'':=h4
 apply bO
 ·(walk_at "evs")
 ·exact⟨_,_,rfl,rfl,[],by simp⟩
def CY(ps:List Pl)(q L R:Nat):List Pl:=(ps.drop (q-L-R)).take L
def CZ(ps:List Pl)(q R:Nat):List Pl:=(ps.drop (q-R)).take R
def Jx(ps:List Pl)(q L R:Nat)(m:List Nat)(sd:Bool)(oth:List Pl):List Pl:=
 let l:=if sd then oth else CY ps q L R
 let r:=if sd then CZ ps q R else oth
 ps.take (q-L-R)++(l++r++[⟨pZ l+2*pZ r,m⟩])++ps.drop (q+1)
def sH(sd:Bool):W:=.str (if sd then[108,101,102,116]else[114,105,103,104,116])
section
variable{ps oth:List Pl}{sz:List Nat}{lk:List #[6]}{p:Pl}{L R:Nat}
theorem D7.l0(c:D7 ps sz q p L R):(CY ps q L R).length=L:=by have:=c.lt;have:=c.le;unfold CY;rw[aM,cz];omega
theorem D7.l1(c:D7 ps sz q p L R):(CZ ps q R).length=R:=by have:=c.lt;have:=c.le;unfold CZ;rw[aM,cz];omega
theorem D7.len(c:D7 ps sz q p L R)(sd:Bool):(Jx ps q L R p.m sd oth).length+(if sd then L else R)=ps.length+oth.length:=by
 have:=c.lt;have:=c.le;have h0:=c.l0;have h1:=c.l1
 unfold Jx
 cases sd
 ·simp[h0];omega
 ·simp[h1];omega
theorem D8(h:Gr ps S sz lk)(hn:ps.length<=900)(ho:oth.length<=900)(c:D7 ps sz q p L R)(sd:Bool)(st:List am){P:RS->Prop}
  (he:∀o4 o5 o6 o7:Option W,j8 P ((aK (c6 (cq 1 v5 (ah (bG dG (ah (ag 8) aE)) aE))) (cS (ag 8))) [some (bV ps),some (.int q),some (sH sd),some (bV oth),o4,o5,o6,o7,some (bV (Jx ps q L R p.m sd oth))] st)) :
  j8 P (A_ ([bV ps,.int q,sH sd,bV oth].map some++List.replicate (9-4) none) st):=by
 have hq:=c.lt
 have kY:=c.le
 have h0:=c.l0
 have h1:=c.l1
 have a1:=Io h hn c st
 change _=L2.R.ok (W.tup [bV (CY ps q L R),bV (CZ ps q R)]) st at a1
 have b0:bj (.tup [bV (CY ps q L R),bV (CZ ps q R)]) (.int 0) st=.ok (bV (CY ps q L R)) st:=rfl
 have b1:bj (.tup [bV (CY ps q L R),bV (CZ ps q R)]) (.int 1) st=.ok (bV (CZ ps q R)) st:=rfl
 have n0:=gb (CY ps q L R) st
 have n1:=gb (CZ ps q R) st
 rw[h0]at n0
 rw[h1]at n1
 have i1:=r9 c.hp st
 have i2:=CQ p st
 have s1:=wf (a:=ps) (q:=q-L-R) #[0] st
 rw[show((q-L-R:Nat):Int)=(q:Int)-(L:Int)-(R:Int) by omega]at s1
 have s2:=wg (a:=ps) (q:=q+1) #[0] st
 rw[show((q+1:Nat):Int)=(q:Int)+1 from rfl]at s2
 cases sd with
 |true=>
  have q1:iC (sH true) (.str [108,101,102,116]) st=.ok (.bl true) st:=rfl
  have q2:iC (sH true) (.str [114,105,103,104,116]) st=.ok (.bl false) st:=rfl
  have t1:=Ip oth (CZ ps q R) p.m #[0] st
  have t2:=jx (ps.take (q-L-R)) (oth++CZ ps q R++[⟨pZ oth+2*pZ (CZ ps q R),p.m⟩]) (by simp;omega) st
  have t3:=jx (ps.take (q-L-R)++(oth++CZ ps q R++[⟨pZ oth+2*pZ (CZ ps q R),p.m⟩])) (ps.drop (q+1)) (by simp;omega) st
  apply aA
  ·(walk_at "evs")
  apply aA
  ·apply a_
   apply uj
   ·(walk_at "evs")
   ·(walk_at "evs")
  apply aA
  ·apply a_
   apply uk
   ·(walk_at "evs")
   ·(walk_at "evs")
  apply aA
  ·(walk_at "evs")
  apply aA
  ·(repeat' (first|with_reducible exact s1|with_reducible exact s2|walk_at "ev1"))
  exact he _ _ _ _
 |false=>
  have q1:iC (sH false) (.str [108,101,102,116]) st=.ok (.bl false) st:=rfl
  have q2:iC (sH false) (.str [114,105,103,104,116]) st=.ok (.bl true) st:=rfl
  have t1:=Ip (CY ps q L R) oth p.m #[0] st
  have t2:=jx (ps.take (q-L-R)) (CY ps q L R++oth++[⟨pZ (CY ps q L R)+2*pZ oth,p.m⟩]) (by simp;omega) st
  have t3:=jx (ps.take (q-L-R)++(CY ps q L R++oth++[⟨pZ (CY ps q L R)+2*pZ oth,p.m⟩])) (ps.drop (q+1)) (by simp;omega) st
  apply aA
  ·(walk_at "evs")
  apply aA
  ·apply a_
   apply uk
   ·(walk_at "evs")
   ·(walk_at "evs")
  apply aA
  ·apply a_
   apply uj
   ·(walk_at "evs")
   ·(walk_at "evs")
  apply aA
  ·(walk_at "evs")
  apply aA
  ·(repeat' (first|with_reducible exact s1|with_reducible exact s2|walk_at "ev1"))
  exact he _ _ _ _
theorem Pk(h:Gr ps S sz lk)(hn:ps.length<=900)(ho:oth.length<=900)(c:D7 ps sz q p L R)(sd:Bool)(st:List am)(hs:(Jx ps q L R p.m sd oth).length<=100):v6 [bV ps,.int q,sH sd,bV oth] st=.ok (bV (Jx ps q L R p.m sd oth)) st:=by
 refine fE (N:=9) (ws:=[bV ps,.int q,sH sd,bV oth]) (body:=A_) (D8 h hn ho c sd st fun o4 o5 o6 o7=>?_) (by simp[undWs,lj])
 have n:=gb (Jx ps q L R p.m sd oth) st
 have z:=Im hs st
 apply aA
 ·(walk_at "evs")
 apply bO
 ·(walk_at "evs")
 ·exact⟨_,_,rfl,rfl,[],by simp⟩
theorem P3(h:Gr ps S sz lk)(hn:ps.length<=900)(ho:oth.length<=900)(c:D7 ps sz q p L R)(sd:Bool)(st:List am)(hs:100<(Jx ps q L R p.m sd oth).length):v6 [bV ps,.int q,sH sd,bV oth] st=.ex "TooGreat" st:=by
 refine pX (N:=9) (ws:=[bV ps,.int q,sH sd,bV oth]) (body:=A_) (D8 h hn ho c sd st fun o4 o5 o6 o7=>?_)
 have n:=gb (Jx ps q L R p.m sd oth) st
 have z:=KS hs st
 apply mZ
 ·apply xX
  apply rL
  ·(walk_at "evs")
  ·exact z
  ·rfl
 ·exact⟨_,_,rfl,[],by simp⟩
theorem UB{z:Int}(h:z<0\/(ps.length:Int)<=z)(sd oth:W)(st:List am):v6 [bV ps,.int z,sd,oth] st=.ex "NoPlace" st:=by
 have hb:o_ [bV ps,.int z] st=.ex "NoPlace" st:=by
  refine pX (N:=5) (ws:=[bV ps,.int z]) (body:=HQ) ?_
  refine mZ (c:="NoPlace") (ρ':=[some (bV ps),some (.int z),none,none,none]) (st1:=st) ?_ ⟨_,_,rfl,[],by simp⟩
  refine AS ?_
  have e:cq 2 uo (ah (ag 0) #[21]) [some (bV ps),some (.int z),none,none,none] st=.ex "NoPlace" st:=rL (av kv kn) (KW h st) rfl
  unfold qD
  change (cq 2 uo (ah (ag 0) #[21]) [some (bV ps),some (.int z),none,none,none] st).bind _=_
  rw[e]
  rfl
 refine pX (N:=9) (ws:=[bV ps,.int z,sd,oth]) (body:=A_) ?_
 apply mZ
 ·apply AS
  apply rL
  ·(walk_at "evs")
  ·exact hb
  ·rfl
 ·exact⟨_,_,rfl,[],by simp⟩
end
theorem KY{l:List α}{x d:α}(h:l[i]?=some x):l.getD i d=x:=by rw[aH,h];rfl
section
variable{ps:List Pl}{sz:List Nat}{lk:List #[6]}{M:Mc}
def yk(R:List Nat)(q:Nat):W:=.int ((R.getD q 0:Nat):Int)
theorem zE(h:Gr ps S sz lk)(hl:ps.length<=900)(hM:lM M n)(hn:1<=n)(st:List am) :
  ∃x,ur [M.w,bV ps] st=.ok (.loc (st.length+1)) (st++x)/\x[1]?=some (.lst (nW (gf M ps lk))):=by
 suffices hh:j8 (zZ fun w bp=>∃j x,w=.loc (st.length+j)/\bp=st++x/\j=1/\x[1]?=some (.lst (nW (gf M ps lk)))) (Mm ([M.w,bV ps].map some++List.replicate (8-2) none) st) by
  obtain⟨j,x,⟨rfl,hx⟩,e⟩:=rJ hh
  exact⟨x,e,hx⟩
 obtain⟨l1,l2,_⟩:=h.ok
 obtain⟨rl,rlt⟩:=mM (M:=M) h hM hn
 have rat:=fun{i:Nat} {p:Pl} {x:Option Nat×Option Nat}=>Ih (M:=M) (i:=i) (p:=p) (x:=x) h hM hn
 generalize gf M ps lk=R at *
 apply aA
 ·exact a_ (nK aY (aq rfl))
 apply aA
 ·exact a_ (nK aY (aq rfl))
 have l3:(st++[am.lst []]).length=st.length+1:=by simp
 rw[l3]
 refine gi (fun i ρ s=>∃(S1:List Nat) (o4 o5 o6 o7:Option W),ρ=[some M.w,some (bV ps),some #[5],some (.loc (st.length+1)),o4,o5,o6,o7]/\s=st++[.lst ((jl S1 i).map (yk R)).reverse,.lst (nW (R.take i))]/\Gr (ps.take i) S1 (sz.take i) (lk.take i)/\i<=ps.length)
  (k:=(ps.map Pl.w,none)) (st1:=(st++[am.lst []])++[am.lst []]) (u4 kv) ⟨[],none,none,none,none,rfl,by rw[al];rfl,.nil,cx _⟩ (fun _ _ _ _=>trivial) ?_ ?_
 ·rintro i w ρ s hw ⟨S1,o4,o5,o6,o7,rfl,rfl,hg,hi⟩
  have hip:i<ps.length:=by have:=(au.mp hw).1;simpa using this
  obtain⟨S1',S2,p,k,x,g1,q1,q2,q3,hs,g2⟩:=h.step i hip
  have hw:w=p.w:=by
   simp only at hw
   rw[aI,q1]at hw
   exact(bu hw).symm
  subst hw
  refine⟨_,rfl,?_⟩
  have hS:=hg.det g1 rfl
  subst hS
  obtain⟨lz,ll,ha⟩:=g1.ok
  have hti:(ps.take i).length=i:=by rw[aM];omega
  rw[hti]at ha lz ll
  have hSl:=ha.le
  have hR:=rat q1 q3
  have hlo:H_ R.length x:=⟨fun j e=>by have:=(h.lk q3).1 j e;omega,fun j e=>by have:=(h.lk q3).2 j e;omega⟩
  obtain⟨t,r,f1,f2,f3,_⟩:=CV (m:=p.m) hM hn rlt hlo
  have hRt:R.take (i+1)=R.take i++[u8 M R p.m x]:=by rw[jB,hR];rfl
  have pop:∀(A:List W) (B:List Nat) (q:Nat),mE #[5] [] (st++[.lst ((q::B).map (yk R)).reverse,.lst A])=.ok (yk R q) (st++[.lst (B.map (yk R)).reverse,.lst A]):=fun A B q=>by
   have hc:(st++[am.lst ((q::B).map (yk R)).reverse,.lst A])[st.length]?=some (.lst ((B.map (yk R)).reverse++[yk R q])):=by rw[dB];simp
   rw[vM hc,fx];rfl
  have isl0:∀(A:List W) (B:List W),k8 (st++[.lst A,.lst B]) #[5]=true:=fun A B=>du (by rw[dB];rfl)
  have T1:∀(k:Bool) (ρ:cM) (s:List am),decide ((2:Int)<=(p.b:Int))=k->ρ[4]?=some (some (.int p.b))->eG (e2 NO (ag 4) (eI 2)) ρ s=.ok k s:=fun k ρ s e h4=>aZ (bw (ju h4) bU (GW e))
  have T2:∀(k:Bool) (ρ:cM) (s:List am),(((p.b:Int)%2)==1)=k->ρ[4]?=some (some (.int p.b))->eG (e2 iC (e2 i7 (ag 4) (eI 2)) (eI 1)) ρ s=.ok k s:=fun k ρ s e h4=>aZ (bw (bw (ju h4) bU (jv #[13])) bU (fX e))
  have put:∀(u v:W) (B:List Nat),u=.int (zC R x.1:Nat)->v=.int (zC R x.2:Nat)->B.length<1001->i::B=jl S2 (i+1) ->
    j8 (KI (fun ρ s=>∃(S1:List Nat) (o4 o5 o6 o7:Option W),ρ=[some M.w,some (bV ps),some #[5],some (.loc (st.length+1)),o4,o5,o6,o7]/\s=st++[.lst ((jl S1 (i+1)).map (yk R)).reverse,.lst (nW (R.take (i+1)))]/\Gr (ps.take (i+1)) S1 (sz.take (i+1)) (lk.take (i+1))/\i+1<=ps.length))
     (aK (c6 (k9 bW (ag 2) (ah (e2 bj (e2 bj (e2 bj (e2 bj (ag 0) (eI 2)) (cq 2 x_ (ah (e2 bj (ag 0) (eI 0)) (ah (ag 5) aE)))) (ag 6)) (ag 7)) aE))) (c6 (k9 bW (ag 3) (ah (e2 bj (ag 2) (oK (eI 1))) aE)))
      [some M.w,some (bV ps),some #[5],some (.loc (st.length+1)),some (.int p.b),some (.str p.m),some u,some v] (st++[.lst (B.map (yk R)).reverse,.lst (nW (R.take i))])):=by
   rintro u v B rfl rfl hB hT
   have hc:(st++[am.lst (B.map (yk R)).reverse,.lst (nW (R.take i))])[st.length]?=some (.lst (B.map (yk R)).reverse):=by rw[dB];rfl
   apply aA
   ·exact d7 (ik kv (du hc) (av (bw (bw (bw kx (cw (av kx kn) (CU M.nm p.m _) rfl) (Ib f1 _)) kv (HZ f2)) kv (HY f3)) aY) (nM hc (by rw[List.length_reverse,aD];show _<1000000;omega)))
   rw[fx]
   have hc1:(st++[am.lst (B.map (yk R)).reverse,.lst (nW (R.take i))].set 0 (.lst ((B.map (yk R)).reverse++[W.int (u8 M R p.m x:Nat)])))[st.length]?=some (.lst ((B.map (yk R)).reverse++[W.int (u8 M R p.m x:Nat)])):=by rw[dB];rfl
   have hc2:(st++[am.lst (B.map (yk R)).reverse,.lst (nW (R.take i))].set 0 (.lst ((B.map (yk R)).reverse++[W.int (u8 M R p.m x:Nat)])))[st.length+1]?=some (.lst (nW (R.take i))):=by rw[hG];rfl
   have last:sO ((B.map (yk R)).reverse++[W.int (u8 M R p.m x:Nat)]) (-1)=some (.int (u8 M R p.m x:Nat)):=y_ (q:=0) (by rw[List.reverse_append];rfl)
   refine dv (d7 (ik kv (du hc2) (av (bw kv (rF bU) (jG (b8 hc1) last)) aY) (nM hc2 (by simp[nW];show _<1000000;omega)))) ?_
   refine⟨_,_,rfl,S2,_,_,_,_,rfl,?_,g2,by omega⟩
   rw[mF,<- hT,hRt]
   have:yk R i=.int (u8 M R p.m x:Nat):=by unfold yk;rw[KY hR]
   simp[nW,this]
  apply aA
  ·exact a_ bU
  apply aA
  ·exact a_ bU
  obtain⟨b,m⟩:=p
  cases hs with
  |@z=>
   apply bD
   ·exact T1 false _ _ rfl rfl
   apply b6
   apply bD
   ·exact T2 false _ _ rfl rfl
   apply b6
   exact put _ _ (jl S1 i) rfl rfl (by rw[ip];omega) rfl
  |@l a S=>
   apply bD
   ·exact T1 false _ _ rfl rfl
   apply b6
   apply aA
   ·exact cN (T2 true _ _ rfl rfl) (a_ (ik kv (isl0 _ _) aY (pop _ (jl S (i-a)) (i-1))))
   exact put _ _ (jl S (i-a)) rfl rfl (by rw[ip];simp at hSl;omega) (by simp only[jl];congr 1;congr 1;omega)
  |@r a S=>
   apply aA
   ·exact cN (T1 true _ _ rfl rfl) (a_ (ik kv (isl0 _ _) aY (pop _ (jl S (i-a)) (i-1))))
   apply bD
   ·exact T2 false _ _ (by show((2:Int)%2==1)=false;decide) rfl
   apply b6
   exact put _ _ (jl S (i-a)) rfl rfl (by rw[ip];simp at hSl;omega) (by simp only[jl];congr 1;congr 1;omega)
  |@b c a S=>
   apply aA
   ·exact cN (T1 true _ _ rfl rfl) (a_ (ik kv (isl0 _ _) aY (pop _ (jl (a::S) (i-c)) (i-1))))
   apply aA
   ·exact cN (T2 true _ _ (by show((3:Int)%2==1)=true;decide) rfl) (a_ (ik kv (isl0 _ _) aY (pop _ (jl S (i-c-a)) (i-c-1))))
   exact put _ _ (jl S (i-c-a)) (by show yk R _=W.int ((R.getD (i-1-c) 0:Nat):Int);rw[show i-1-c=i-c-1 by omega];rfl) rfl (by rw[ip];simp at hSl;omega) (by simp only[jl];congr 1;congr 1;omega)
 ·rintro ρ s ⟨S1,o4,o5,o6,o7,rfl,rfl,hg,hi⟩
  apply bO
  ·exact ju rfl
  ·refine⟨_,_,rfl,1,_,rfl,rfl,rfl,?_⟩
   rw[show(ps.map Pl.w,(none:Option (Nat×List W))).fst.length=R.length by simp[rl],dS]
   rfl
theorem So(h:Gr ps S sz lk)(hl:ps.length<=900)(hM:lM M n)(hn:1<=n)(st:List am):Mo [M.w,bV ps] st=.ok (.bl (KR M ps lk)) st:=by
 refine fE (N:=2) (ws:=[M.w,bV ps]) (body:=Mn) ?_ rfl
 have ll:=gb ps st
 have tl:=Pg (M:=M) h hM hn
 unfold KR
 by_cases z:0<ps.length
 ·refine bD (aZ (bw (cu kn ll) bU (fX (by rw[bz];omega)))) ?_
  refine b6 ?_
  rw[aF z]at tl ⊢
  obtain⟨x,e,hx⟩:=zE h hl hM hn st
  have hx2:(st++x)[st.length+1]?=some (.lst (nW (gf M ps lk))):=by rw[hG];exact hx
  refine bO (bw kx (bw (cw (av kv kn) e rfl) (rF bU) (jG (b8 hx2) (y_ (q:=0) (x:=.int (Bq M ps lk:Nat)) ?_))) (Mv hM tl _)) ⟨_,_,rfl,rfl,_,rfl⟩
  have rl:=(mM (M:=M) h hM hn).1
  unfold nW
  rw[jJ (by rw[aD];omega),aD,aI,rl,show ps.length-1-0=ps.length-1 by omega,aj #[0]]
  show some (W.int _)=some (W.int _)
  unfold Bq
  rw[aH,aj #[0]];rfl
 ·rw[aO z]
  refine eO (aZ (bw (cu kn ll) bU (fX (by rw[c_];omega)))) ?_
  exact dF (bw kx bU (Mv (k:=0) hM hn st)) ⟨_,_,rfl,rfl,[],by simp⟩
end
theorem C0(nm:List Nat)(n top dl:Nat)(ds:List Int)(st:List am)(VC:nm.length<=6)(hn:1<=n)(VH:n<=9)(P4:1<=top)(VJ:top<=n)(hd:st[dl]?=some (.lst (zA ds)))(MB:n+2^nm.length*(n*n)<=ds.length) :
  ∃M:Mc,M.nm=nm/\lM M n/\Bg [.str nm,.int n,.int top,.loc dl] st=.ok M.w st:=by
 suffices hh:j8 (zZ fun w bp=>(∃x,bp=st++x)/\undWs st.length [w]=true/\∃M:Mc,w=M.w/\M.nm=nm/\lM M n) (Mj ([W.str nm,.int n,.int top,.loc dl].map some++List.replicate (10-4) none) st) by
  obtain⟨w,⟨M,rfl,h1,h2⟩,e⟩:=rH hh
  exact⟨M,h1,h2,e⟩
 have fY:∀s:List am,dG [.str nm] s=.ok (.int nm.length) s:=fun s=>y8 (by show _<=1000000;omega)
 have p2:2^nm.length<=64:=Nat.pow_le_pow_right #[0] VC
 obtain⟨N,hN⟩:∃N,N=2^nm.length:=⟨_,rfl⟩
 have sh:∀s:List am,AB (.int 1) (.int nm.length) s=.ok (.int N) s:=fun s=>by rw[hN];exact Gi #[0]
 rw[<- hN]at p2 MB
 have hdn:n<=ds.length:=by omega
 obtain⟨gd,hgl,_,eg⟩:=HV (cap:=[none,some 3]) (ρ:=[some (.str nm),iO n,iO top,lO dl,none,none,none,none,none,none]) (st:=st) (fs:=ah (ag 1) aE) (n:=n)
  (el:=e2 iC (e2 i7 (e2 bj (ag 1) (ag 0)) (eI 2)) (eI 1)) W.bl (fun _ _=>True) kn #[0] fun q hq=>by
   obtain⟨d,hdd⟩:∃d,ds[q]?=some d:=⟨_,aj #[0]⟩
   exact⟨_,trivial,bw (bw (bw kv kv (u6 hd hdd)) bU (jv #[13])) bU (fX rfl)⟩
 apply aA
 ·exact a_ eg
 generalize hs0:st++[am.lst (gd.map W.bl)]=s0
 have hst0:st <+: s0:=by rw[<- hs0];exact be _ _
 apply aA
 ·(walk_at "evs")
 apply aA
 ·(walk_at "evs")
 refine gi (fun i ρ s=>∃(tb:List (List (List Nat))) (a:Nat) (o7 o8 o9:Option W),ρ=[some (.str nm),iO n,iO top,lO dl,some (.tup (gd.map W.bl)),lO s0.length,iO a,o7,o8,o9]/\s0 <+: s/\s[s0.length]?=some (.lst (tb.map xi))/\tb.length=i/\(∀t∈tb,U9 n t)/\a+(N-i)*(n*n)<=ds.length)
  (jw (q:=(N:Int)) (st1:=s0++[am.lst []]) (av (bw bU (cu kn (fY _)) (sh _)) aY) #[0])
  ⟨[],n,none,none,none,rfl,be _ _,dy,rfl,by simp,by simpa using MB⟩ (fun _ _ _ _=>trivial) ?_ ?_
 ·rintro i w ρ s hw ⟨tb,a,o7,o8,o9,rfl,hp,hc,hl,ht,hal⟩
  obtain⟨hi,rfl⟩:=jM hw
  rw[bX]at hi
  refine⟨_,rfl,?_⟩
  rw[show N-i=(N-(i+1))+1 by omega,Nat.succ_mul]at hal
  apply aA
  ·(walk_at "evs")
  refine gi (fun j ρ z=>∃(zU:List (List Nat)) (a:Nat) (o9:Option W),ρ=[some (.str nm),iO n,iO top,lO dl,some (.tup (gd.map W.bl)),lO s0.length,iO a,iO (0+(i:Int)),lO s.length,o9]/\s <+: z/\z[s.length]?=some (.lst (zU.map gz))/\zU.length=j/\(∀r∈zU,r.length=n/\∀k∈r,k<n)/\a+((N-(i+1))*(n*n)+(n-j)*n)<=ds.length)
   (jw (q:=(n:Int)) (st1:=s++[am.lst []]) (by(walk_at "evs")) #[0]) ⟨[],a,_,rfl,be _ _,dy,rfl,by simp,by simpa using hal⟩ (fun _ _ _ _=>trivial) ?_ ?_
  ·rintro j w ρ z hw ⟨zU,a,o9,rfl,hz,hcz,hrl,hr,hal⟩
   obtain⟨hj,rfl⟩:=jM hw
   rw[bX]at hj
   refine⟨_,rfl,?_⟩
   rw[show n-j=(n-(j+1))+1 by omega,Nat.succ_mul]at hal
   have pt:(0:Int)<(top:Int):=by omega
   obtain⟨r,hrn,hrb,er⟩:=HV (cap:=[none,some 2,some 3,some 6]) (ρ:=[some (.str nm),iO n,iO top,lO dl,some (.tup (gd.map W.bl)),lO s0.length,iO a,iO (0+(i:Int)),lO s.length,iO (0+(j:Int))]) (st:=z) (fs:=ah (ag 1) aE) (n:=n)
    (el:=e2 i7 (e2 bj (ag 2) (e2 cQ (ag 3) (ag 0))) (ag 1)) (fun k:Nat=>W.int (k:Nat)) (fun _ k=>k<n) kn #[0] fun q hq=>by
     obtain⟨d,hdd⟩:∃d,ds[a+q]?=some d:=⟨_,aj #[0]⟩
     obtain⟨k,hk,ek⟩:=iR (q:=d) (n:=top) #[0]
     refine⟨k,by omega,?_⟩
     rw[<- ek]
     exact bw (bw kv (bw kv kv dY) (u6 (pre_get (hst0.trans (hp.trans hz)) hd) hdd)) kv (jv pt)
   have ap:=ml (y:=gz r) (pre_get (s:=z++[.lst (r.map fun k:Nat=>W.int k)]) (be _ _) hcz) (by rw[aD];omega)
   apply aA
   ·exact d7 (ik kv (du hcz) (av er aY) ap)
   apply dv
   ·exact a_ (bw kv kv dY)
   ·refine⟨_,_,rfl,zU++[r],a+n,_,rfl,r_ (zz hz) (az _),?_,by simp[hrl],?_,by omega⟩
    ·rw[d_ (pre_get (be _ _) hcz)];simp
    ·intro x hx
     rcases aW.mp hx with y|y
     ·exact hr x y
     ·simp at y;subst y
      refine⟨hrn,fun k hk=>?_⟩
      obtain⟨q,hq⟩:=List.getElem?_of_mem hk
      exact hrb q k hq
  ·rintro ρ z ⟨zU,a,o9,rfl,hz,hcz,hrl,hr,hal⟩
   have hrl:zU.length=n:=by rw[hrl];simp[fD]
   have hcp:=pre_get hz hc
   have ap:=ml (y:=xi zU) hcp (by rw[aD,hl];omega)
   apply dv
   ·exact d7 (ik kv (du hcp) (av (cu kn (oQ (b8 hcz))) aY) ap)
   ·refine⟨_,_,rfl,tb++[zU],a,_,_,_,rfl,r_ (hp.trans hz) (az _),?_,by simp[hl],?_,by omega⟩
    ·rw[d_ hcp];simp
    ·intro x hx
     rcases aW.mp hx with y|y
     ·exact ht x y
     ·simp at y;subst y
      exact⟨hrl,hr⟩
 ·rintro ρ s ⟨tb,a,o7,o8,o9,rfl,hp,hc,hl,ht,hal⟩
  have hl:tb.length=N:=by rw[hl];simp[fD]
  obtain⟨x,rfl⟩:=hst0.trans hp
  apply bO
  ·exact eX (av kv (av kv (av (cu kn (oQ (b8 hc))) aY))) (aq rfl)
  ·exact⟨_,_,rfl,⟨_,rfl⟩,by simp only[undWs,dM];exact HX ⟨nm,gd,tb⟩ _,⟨nm,gd,tb⟩,rfl,rfl,hgl,by rw[hl,hN],ht⟩
inductive MT where
 |nil
 |nd (l r:MT) (m:List Nat)
namespace MT
def one:MT->Nat
 |nil=>0
 |nd _ _ _=>1
def size:MT->Nat
 |nil=>0
 |nd l r _=>l.size+r.size+1
def po:MT->List Pl
 |nil=>[]
 |nd l r m=>l.po++r.po++[⟨l.one+2*r.one,m⟩]
def tp:MT->Nat->Option Nat
 |nil,_=>none
 |nd l r _,o=>some (o+l.size+r.size)
def lkT:MT->Nat->List #[6]
 |nil,_=>[]
 |nd l r _,o=>l.lkT o++r.lkT (o+l.size)++[(l.tp o,r.tp (o+l.size))]
def szT:MT->List Nat
 |nil=>[]
 |nd l r _=>l.szT++r.szT++[l.size+r.size+1]
theorem po_len:∀t:MT,t.po.length=t.size
 |nil=>rfl
 |nd l r m=>by unfold po size;rw[ai,ai,po_len l,po_len r];rfl
theorem sz_len:∀t:MT,t.szT.length=t.size
 |nil=>rfl
 |nd l r m=>by unfold szT size;rw[ai,ai,sz_len l,sz_len r];rfl
theorem lk_len:∀(t:MT) (o:Nat),(t.lkT o).length=t.size
 |nil,_=>rfl
 |nd l r m,o=>by unfold lkT size;rw[ai,ai,lk_len l,lk_len r];rfl
theorem size_nd(l r:MT)(m:List Nat):(nd l r m).size=l.size+r.size+1:=rfl
theorem tp_nd(l r:MT)(m:List Nat)(o:Nat):(nd l r m).tp o=some (o+(nd l r m).size-1):=by
 show some (o+l.size+r.size)=_
 rw[size_nd];congr 1;omega
theorem UC(l r:MT)(m:List Nat)(o k:Nat):(nd l r m).tp o=some (o+(nd l r m).size+k-1-k):=by
 rw[tp_nd,size_nd];congr 1;omega
def cs(S:List Nat):MT->List Nat
 |nil=>S
 |nd l r m=>(nd l r m).size::S
theorem gr:∀(t:MT) {ps:List Pl} {S sz:List Nat} {lk:List #[6]},Gr ps S sz lk->Gr (ps++t.po) (t.cs S) (sz++t.szT) (lk++t.lkT ps.length)
 |nil,ps,S,sz,lk,h=>by
  show Gr (ps++[]) S (sz++[]) (lk++[])
  rw[bv,bv,bv];exact h
 |nd l r m,ps,S,sz,lk,h=>by
  have h1:=gr l h
  have h2:=gr r h1
  rw[ai,po_len]at h2
  unfold po szT lkT
  rw[<- al,<- al,<- al,<- al,<- al,<- al]
  refine .snoc h2 ?_
  rw[ai,ai,po_len,po_len]
  cases l with
  |nil=>
   cases r with
   |nil=>exact .z
   |nd r1 r2 rm=>
    have:=St.r (n:=ps.length+(nil:MT).size+(nd r1 r2 rm).size) (a:=(nd r1 r2 rm).size) (S:=S)
    have e:(none,(nd r1 r2 rm).tp (ps.length+(nil:MT).size))=((none:Option Nat),some (ps.length+(nil:MT).size+(nd r1 r2 rm).size-1)):=by rw[tp_nd]
    show St _ _ 2 _ _ (none,_)
    rw[e,show(nil:MT).size+(nd r1 r2 rm).size+1=1+(nd r1 r2 rm).size by simp only[size];omega]
    show St _ _ 2 ((nil.size+(nd r1 r2 rm).size+1)::S) _ _
    rw[show(nil:MT).size+(nd r1 r2 rm).size+1=1+(nd r1 r2 rm).size by simp only[size];omega]
    exact this
  |nd l1 l2 lm=>
   cases r with
   |nil=>
    have:=St.l (n:=ps.length+(nd l1 l2 lm).size+(nil:MT).size) (a:=(nd l1 l2 lm).size) (S:=S)
    have e:((nd l1 l2 lm).tp ps.length,(none:Option Nat))=(some (ps.length+(nd l1 l2 lm).size+(nil:MT).size-1),none):=by rw[tp_nd];rfl
    show St _ _ 1 ((_+1)::S) _ (_,none)
    rw[e,show(nd l1 l2 lm).size+(nil:MT).size+1=1+(nd l1 l2 lm).size by simp only[size];omega]
    exact this
   |nd r1 r2 rm=>
    have:=St.b (n:=ps.length+(nd l1 l2 lm).size+(nd r1 r2 rm).size) (c:=(nd r1 r2 rm).size) (a:=(nd l1 l2 lm).size) (S:=S)
    have e:((nd l1 l2 lm).tp ps.length,(nd r1 r2 rm).tp (ps.length+(nd l1 l2 lm).size))=(some (ps.length+(nd l1 l2 lm).size+(nd r1 r2 rm).size-1-(nd r1 r2 rm).size),some (ps.length+(nd l1 l2 lm).size+(nd r1 r2 rm).size-1)):=by rw[tp_nd r1,UC l1 l2 lm _ (nd r1 r2 rm).size]
    show St _ _ 3 ((_+1)::S) _ _
    rw[e,show(nd l1 l2 lm).size+(nd r1 r2 rm).size+1=1+(nd r1 r2 rm).size+(nd l1 l2 lm).size by omega]
    exact this
theorem gr0(t:MT):Gr t.po (t.cs []) t.szT (t.lkT 0):=by
 have:=gr t Gr.nil
 simpa using this
def Bl:MT->Nat->Nat->Prop
 |nil,_,_=>False
 |nd l r _,q,j=>(q<l.size/\j<l.size/\l.Bl q j)\/(l.size<=q/\q<l.size+r.size/\l.size<=j/\j<l.size+r.size/\r.Bl (q-l.size) (j-l.size))\/(q=l.size+r.size/\j<l.size+r.size)
end MT
end P
namespace P
open PySem L2
def sv(M:Mc)(m:List Nat)(a b:Nat):Nat:=((M.tb.getD (kz m M.nm) []).getD a []).getD b 0
namespace MT
def tR(M:Mc):MT->Nat
 |nil=>0
 |nd l r m=>sv M m (l.tR M) (r.tR M)
def rT(M:Mc):MT->List Nat
 |nil=>[]
 |nd l r m=>l.rT M++r.rT M++[sv M m (l.tR M) (r.tR M)]
theorem rT_len(M:Mc):∀t:MT,(t.rT M).length=t.size
 |nil=>rfl
 |nd l r m=>by unfold rT size;rw[ai,ai,rT_len M l,rT_len M r];rfl
theorem C1(M:Mc)(u w:List Nat):∀t:MT,zC (u++t.rT M++w) (t.tp u.length)=t.tR M
 |nil=>rfl
 |nd l r m=>by
  show(u++(l.rT M++r.rT M++[_])++w).getD (u.length+l.size+r.size) 0=_
  rw[al,al,al,aH,aX #[0],aX (by rw[rT_len];omega),aX (by rw[rT_len,rT_len];omega),rT_len,rT_len,show u.length+l.size+r.size-u.length-l.size-r.size=0 by omega]
  rfl
theorem stp_tp(M:Mc)(u w:List Nat)(l r:MT)(m:List Nat):u8 M (u++(l.rT M++r.rT M)++w) m (l.tp u.length,r.tp (u.length+l.size))=sv M m (l.tR M) (r.tR M):=by
 unfold u8 sv
 have e1:=C1 M u (r.rT M++w) l
 have e2:=C1 M (u++l.rT M) w r
 rw[ai,rT_len]at e2
 simp only[al]at e1 e2 ⊢
 rw[e1,e2]
theorem zF(M:Mc):∀(a b:List Pl) (la lb:List #[6]) (r:List Nat),a.length=la.length->E8 M (a++b) (la++lb) r=E8 M b lb (E8 M a la r)
 |[],b,[],lb,r,_=>rfl
 |p::a,b,x::la,lb,r,h=>by
  show E8 M (a++b) (la++lb) _=_
  rw[zF M a b la lb _ (by simpa using h)];rfl
theorem C2(M:Mc):∀(t:MT) (r:List Nat),E8 M t.po (t.lkT r.length) r=r++t.rT M
 |nil,r=>(bv r).symm
 |nd l r m,u=>by
  show E8 M (l.po++r.po++[_]) (l.lkT u.length++r.lkT (u.length+l.size)++[(l.tp u.length,r.tp (u.length+l.size))]) u=_
  rw[zF M _ _ _ _ _ (by rw[ai,ai,po_len,po_len,lk_len,lk_len]),zF M _ _ _ _ _ (by rw[po_len,lk_len]),C2 M l u]
  have e:=C2 M r (u++l.rT M)
  rw[ai,rT_len]at e
  rw[e]
  show(u++l.rT M++r.rT M)++[u8 M (u++l.rT M++r.rT M) m _]=_
  have e2:=stp_tp M u [] l r m
  rw[bv,<- al]at e2
  rw[e2]
  show _=u++(l.rT M++r.rT M++[_])
  rw[al,al,al]
theorem rooms_po(M:Mc)(t:MT):gf M t.po (t.lkT 0)=t.rT M:=C2 M t []
theorem rT_top(M:Mc)(t:MT)(h:0<t.size):(t.rT M).getD (t.size-1) 0=t.tR M:=by
 have:=C1 M [] [] t
 cases t with
 |nil=>exact absurd h (by decide)
 |nd l r m=>
  rw[eJ,bv,tp_nd]at this
  rw[<- this];show _=List.getD _ _ 0
  congr 1
  show _=0+_-1
  omega
end MT
inductive Fm where
 |lf (r:MT) (m:List Nat)
 |rg (l:MT) (m:List Nat)
def Fm.ap:Fm->MT->MT
 |.lf r m,x=>.nd x r m
 |.rg l m,x=>.nd l x m
def a7:List Fm->MT->MT
 |[],x=>x
 |f::C,x=>a7 C (f.ap x)
def pA:List Fm->List Pl
 |[]=>[]
 |.lf _ _::C=>pA C
 |.rg l _::C=>pA C++l.po
def pB:List Fm->List Pl
 |[]=>[]
 |.lf r m::C=>r.po++[⟨1+2*r.one,m⟩]++pB C
 |.rg l m::C=>[⟨l.one+2,m⟩]++pB C
def rA(M:Mc):List Fm->List Nat
 |[]=>[]
 |.lf _ _::C=>rA M C
 |.rg l _::C=>rA M C++l.rT M
def rB(M:Mc):List Fm->Nat->List Nat
 |[],_=>[]
 |.lf r m::C,a=>r.rT M++[sv M m a (r.tR M)]++rB M C (sv M m a (r.tR M))
 |.rg l m::C,a=>[sv M m (l.tR M) a]++rB M C (sv M m (l.tR M) a)
theorem de:∀(C:List Fm) (l r:MT) (m:List Nat),#[1].po=pA C++(MT.nd l r m).po++pB C
 |[],l,r,m=>by show _=[]++_++[];rw[eJ,bv];rfl
 |.lf y w::C,l,r,m=>by
  show(a7 C (.nd (.nd l r m) y w)).po=_
  rw[de C]
  show pA C++((MT.nd l r m).po++y.po++[⟨1+2*y.one,w⟩])++pB C=pA C++_++(y.po++[⟨1+2*y.one,w⟩]++pB C)
  simp only[al]
 |.rg y w::C,l,r,m=>by
  show(a7 C (.nd y (.nd l r m) w)).po=_
  rw[de C]
  show pA C++(y.po++(MT.nd l r m).po++[⟨y.one+2*1,w⟩])++pB C=(pA C++y.po)++_++([⟨y.one+2,w⟩]++pB C)
  simp only[al]
theorem nj(M:Mc):∀(C:List Fm) (x:MT),(a7 C x).rT M=rA M C++x.rT M++rB M C (x.tR M)
 |[],x=>by show _=[]++_++[];rw[eJ,bv];rfl
 |.lf y w::C,x=>by
  show(a7 C (.nd x y w)).rT M=_
  rw[nj M C]
  show rA M C++(x.rT M++y.rT M++[_])++rB M C _=rA M C++_++(y.rT M++[_]++rB M C _)
  simp only[al];rfl
 |.rg y w::C,x=>by
  show(a7 C (.nd y x w)).rT M=_
  rw[nj M C]
  show rA M C++(y.rT M++x.rT M++[_])++rB M C _=(rA M C++y.rT M)++_++([_]++rB M C _)
  simp only[al];rfl
theorem nn(M:Mc):∀C:List Fm,(rA M C).length=(pA C).length
 |[]=>rfl
 |.lf _ _::C=>nn M C
 |.rg l _::C=>by show(rA M C++l.rT M).length=(pA C++l.po).length;rw[ai,ai,nn M C,MT.rT_len,MT.po_len]
theorem zG:∀(C:List Fm) (x:MT),∃u w,(a7 C x).lkT 0=u++x.lkT (pA C).length++w/\u.length=(pA C).length
 |[],x=>⟨[],[],by rw[eJ,bv];rfl,rfl⟩
 |.lf y w::C,x=>by
  obtain⟨u,v,e,h⟩:=zG C (.nd x y w)
  refine⟨u,y.lkT ((pA C).length+x.size)++[(x.tp (pA C).length,y.tp ((pA C).length+x.size))]++v,?_,h⟩
  show(a7 C (.nd x y w)).lkT 0=u++x.lkT (pA C).length++_
  rw[e]
  show u++(x.lkT (pA C).length++_++[_])++v=_
  simp only[al]
 |.rg y w::C,x=>by
  obtain⟨u,v,e,h⟩:=zG C (.nd y x w)
  have hl:(pA (.rg y w::C)).length=(pA C).length+y.size:=by show(pA C++y.po).length=_;rw[ai,MT.po_len]
  refine⟨u++y.lkT (pA C).length,[(y.tp (pA C).length,x.tp ((pA C).length+y.size))]++v,?_,by rw[ai,MT.lk_len,h,hl]⟩
  show(a7 C (.nd y x w)).lkT 0=_
  rw[e,hl]
  show u++(y.lkT (pA C).length++x.lkT _++[_])++v=_
  simp only[al]
theorem u9:∀(C:List Fm) (x:MT),∃u w,(a7 C x).szT=u++x.szT++w/\u.length=(pA C).length
 |[],x=>⟨[],[],by rw[eJ,bv];rfl,rfl⟩
 |.lf y w::C,x=>by
  obtain⟨u,v,e,h⟩:=u9 C (.nd x y w)
  refine⟨u,y.szT++[x.size+y.size+1]++v,?_,h⟩
  show(a7 C (.nd x y w)).szT=_
  rw[e]
  show u++(x.szT++y.szT++[_])++v=_
  simp only[al]
 |.rg y w::C,x=>by
  obtain⟨u,v,e,h⟩:=u9 C (.nd y x w)
  refine⟨u++y.szT,[y.size+x.size+1]++v,?_,by rw[ai,MT.sz_len,h];show _=(pA C++y.po).length;rw[ai,MT.po_len]⟩
  show(a7 C (.nd y x w)).szT=_
  rw[e]
  show u++(y.szT++x.szT++[_])++v=_
  simp only[al]
theorem tQ(f:Fm):∀(C:List Fm) (x:MT),a7 (C++[f]) x=f.ap (a7 C x)
 |[],x=>rfl
 |g::C,x=>tQ f C (g.ap x)
theorem Iq(r:MT)(m:List Nat):∀C:List Fm,pA (C++[.lf r m])=pA C
 |[]=>rfl
 |.lf _ _::C=>Iq r m C
 |.rg l _::C=>by show pA (C++[.lf r m])++l.po=pA C++l.po;rw[Iq r m C]
theorem Ir(l:MT)(m:List Nat):∀C:List Fm,pA (C++[.rg l m])=l.po++pA C
 |[]=>by show[]++l.po=l.po++[];simp
 |.lf _ _::C=>Ir l m C
 |.rg y _::C=>by show pA (C++[.rg l m])++y.po=l.po++(pA C++y.po);rw[Ir l m C,al]
theorem p_:∀(t:MT) (q:Nat),q<t.size->∃C l r m,t=a7 C (.nd l r m)/\q=(pA C).length+l.size+r.size
 |.nil,q,h=>absurd h (by simp[MT.size])
 |.nd l r m,q,h=>by
  rw[MT.size_nd]at h
  by_cases h1:q<l.size
  ·obtain⟨C,a,b,w,e1,e2⟩:=p_ l q h1
   exact⟨C++[.lf r m],a,b,w,by rw[tQ,<- e1];rfl,by rw[Iq];exact e2⟩
  ·by_cases h2:q<l.size+r.size
   ·obtain⟨C,a,b,w,e1,e2⟩:=p_ r (q-l.size) #[0]
    exact⟨C++[.rg l m],a,b,w,by rw[tQ,<- e1];rfl,by rw[Ir,ai,MT.po_len];omega⟩
   ·exact⟨[],l,r,m,rfl,by show q=0+_+_;omega⟩
end P
namespace P
open PySem L2
theorem Iu{a b:List α}{c x:α}{u:Nat}(h:(a++b++[c])[u]?=some x):(u<a.length/\a[u]?=some x)\/(a.length<=u/\u<a.length+b.length/\b[u-a.length]?=some x)\/(u=a.length+b.length/\x=c):=by
 by_cases h1:u<a.length
 ·rw[al,aL h1]at h
  exact .inl ⟨h1,h⟩
 ·by_cases h2:u<a.length+b.length
  ·rw[al,aX #[0],aL #[0]]at h
   exact .inr (.inl ⟨by omega,h2,h⟩)
  ·have hu:=(au.mp h).1
   rw[ai,ai,cm]at hu
   have e:u=a.length+b.length:=by omega
   subst e
   rw[aX (by rw[ai];omega),ai,Nat.sub_self]at h
   cases h
   exact .inr (.inr ⟨rfl,rfl⟩)
def KZ(x:Option Nat×Option Nat)(j:Nat):Prop:=x.1=some j\/x.2=some j
namespace MT
theorem tp_some{t:MT}{o:Nat}(h:t.tp o=some j):0<t.size/\j+1=o+t.size:=by
 cases t with
 |nil=>cases h
 |nd l r m=>
  have:some (o+l.size+r.size)=some j:=h
  rw[size_nd]
  have:=bu this
  omega
theorem kid_lt:∀(t:MT) {o u j:Nat} {x:Option Nat×Option Nat},(t.lkT o)[u]?=some x->KZ x j->o<=j/\j<o+u
 |nil,o,u,j,x,h,_=>by cases h
 |nd l r m,o,u,j,x,h,k=>by
  rcases Iu h with⟨h1,h2⟩|⟨h1,h2,h3⟩|⟨h1,h2⟩
  ·exact kid_lt l h2 k
  ·rw[lk_len]at h1 h2 h3
   have:=kid_lt r h3 k
   omega
  ·rw[lk_len,lk_len]at h1
   subst h2
   rcases k with k|k
   ·have:=tp_some k;omega
   ·have:=tp_some k;omega
theorem par_one:∀(t:MT) {o u v j:Nat} {x y:Option Nat×Option Nat},(t.lkT o)[u]?=some x->(t.lkT o)[v]?=some y->KZ x j->KZ y j->u=v
 |nil,o,u,v,j,x,y,h,_,_,_=>by cases h
 |nd l r m,o,u,v,j,x,y,h,h',k,k'=>by
  have hl:=lk_len l o
  have hr:=lk_len r (o+l.size)
  have rt:∀{z:Option Nat×Option Nat},z=(l.tp o,r.tp (o+l.size))->KZ z j->(j+1=o+l.size/\0<l.size)\/(j+1=o+l.size+r.size/\0<r.size):=fun{z} e k=>by
   subst e
   rcases k with k|k
   ·have:=tp_some k;exact .inl ⟨by omega,by omega⟩
   ·have:=tp_some k;exact .inr ⟨by omega,by omega⟩
  rcases Iu h with⟨h1,h2⟩|⟨h1,h2,h3⟩|⟨h1,h2⟩
  ·have b:=kid_lt l h2 k
   rcases Iu h' with⟨g1,g2⟩|⟨g1,g2,g3⟩|⟨g1,g2⟩
   ·exact par_one l h2 g2 k k'
   ·have:=kid_lt r g3 k';omega
   ·have:=rt g2 k';omega
  ·have b:=kid_lt r h3 k
   rcases Iu h' with⟨g1,g2⟩|⟨g1,g2,g3⟩|⟨g1,g2⟩
   ·have:=kid_lt l g2 k';omega
   ·have:=par_one r h3 g3 k k';omega
   ·have:=rt g2 k';omega
  ·have b:=rt h2 k
   rcases Iu h' with⟨g1,g2⟩|⟨g1,g2,g3⟩|⟨g1,g2⟩
   ·have:=kid_lt l g2 k';omega
   ·have:=kid_lt r g3 k';omega
   ·omega
end MT
def FB(A B:List (Option Nat))(p:Nat):Option Nat:=match A.getD p none with
 |some u=>some u
 |none=>B.getD p none
theorem fS:∀(C:List Fm) (x:MT),0<x.size->(pA C).length+x.size<=(a7 C x).size
 |[],x,h=>by show 0+x.size<=x.size;omega
 |.lf y w::C,x,h=>by
  have:=fS C (.nd x y w) (by rw[MT.size_nd];omega)
  rw[MT.size_nd]at this
  show(pA C).length+x.size<=(a7 C (.nd x y w)).size
  omega
 |.rg y w::C,x,h=>by
  have:=fS C (.nd y x w) (by rw[MT.size_nd];omega)
  rw[MT.size_nd]at this
  show(pA C++y.po).length+x.size<=(a7 C (.nd y x w)).size
  rw[ai,MT.po_len]
  omega
theorem qc(C:List Fm)(l r:MT)(m:List Nat):(#[1].lkT 0)[(pA C).length+l.size+r.size]?=some (l.tp (pA C).length,r.tp ((pA C).length+l.size)):=by
 obtain⟨u,w,e,h⟩:=zG C (.nd l r m)
 rw[e,al,aX #[0],h]
 show((l.lkT (pA C).length++r.lkT ((pA C).length+l.size)++[_])++w)[_]?=_
 rw[aL (by simp[MT.lk_len];omega),aX (by rw[ai,MT.lk_len,MT.lk_len];omega),ai,MT.lk_len,MT.lk_len,show(pA C).length+l.size+r.size-(pA C).length-(l.size+r.size)=0 by omega]
 rfl
theorem Up.is{t:MT}{A:List (Option Nat)}(hf:∀x j,f x=some j->KZ x j)(h:Up (t.lkT 0) f t.size A){p:Nat}(hx:(t.lkT 0)[p]?=some x)(hk:f x=some j):A.getD j none=some p:=by
 have hp:p<t.size:=by have:=(au.mp hx).1;rwa[MT.lk_len]at this
 obtain⟨v,hv⟩:=h.2 p x j hp hx hk
 obtain⟨y,hy,hy2⟩:=h.1 j v hv
 rw[aH,hv,Option.getD_some,MT.par_one t hy hx (hf _ _ hy2) (hf _ _ hk)]
theorem Up.no{t:MT}{A:List (Option Nat)}(h:Up (t.lkT 0) f t.size A)(hn:∀(p:Nat) (x:Option Nat×Option Nat),(t.lkT 0)[p]?=some x->f x≠some j):A.getD j none=none:=by
 rw[aH]
 cases e:A[j]? with
 |none=>rfl
 |some o=>
  cases o with
  |none=>rfl
  |some u=>
   obtain⟨y,hy,hy2⟩:=h.1 j u e
   exact absurd hy2 (hn u y hy)
theorem Pm{x:MT}{A:List (Option Nat)}(hA:Up (x.lkT 0) Prod.fst x.size A)(hB:Up (x.lkT 0) Prod.snd x.size B)(h0:0<x.size):FB A B (x.size-1)=none:=by
 have key:∀(p:Nat) (y:Option Nat×Option Nat),(x.lkT 0)[p]?=some y->¬ KZ y (x.size-1):=fun p y hy hk=>by
  have:=MT.kid_lt x hy hk
  have hp:=(au.mp hy).1
  rw[MT.lk_len]at hp
  omega
 unfold FB
 rw[hA.no fun p y hy e=>key p y hy (.inl e)]
 exact hB.no fun p y hy e=>key p y hy (.inr e)
theorem Sq{C:List Fm}{x y:MT}{w:List Nat}{A B:List (Option Nat)}{t:MT}(ht:t=a7 C (.nd x y w))(hA:Up (t.lkT 0) Prod.fst t.size A)(h0:0<x.size):FB A B ((pA C).length+x.size-1)=some ((pA C).length+x.size+y.size):=by
 subst ht
 have e:=qc C x y w
 have hx:x.tp (pA C).length=some ((pA C).length+x.size-1):=by
  cases x with
  |nil=>exact absurd h0 (by decide)
  |nd a b c=>rw[MT.tp_nd]
 unfold FB
 rw[hA.is (fun _ _ h=>.inl h) e hx]
theorem Ss{C:List Fm}{x y:MT}{w:List Nat}{A:List (Option Nat)}{t:MT}(ht:t=a7 C (.nd y x w))(hA:Up (t.lkT 0) Prod.fst t.size A)(hB:Up (t.lkT 0) Prod.snd t.size B)(h0:0<x.size):FB A B ((pA C).length+y.size+x.size-1)=some ((pA C).length+y.size+x.size):=by
 subst ht
 have e:=qc C y x w
 have hx:x.tp ((pA C).length+y.size)=some ((pA C).length+y.size+x.size-1):=by
  cases x with
  |nil=>exact absurd h0 (by decide)
  |nd a b c=>rw[MT.tp_nd]
 unfold FB
 rw[hA.no (fun p z hz k=>by
  obtain rfl:=MT.par_one _ hz e (.inl k) (.inr hx)
  rw[e]at hz
  cases hz
  have:=MT.tp_some k
  omega)]
 exact hB.is (fun _ _ h=>.inr h) e hx
end P
namespace P
open PySem L2
section
variable{M:Mc}
theorem wl(hM:lM M n)(m:List Nat){a b:Nat}(ha:a<n)(hb:b<n):sv M m a b<n:=by
 have h1:kz m M.nm<M.tb.length:=by rw[hM.tb];exact D4 m M.nm
 have e1:=lq [] h1
 obtain⟨t1,t2⟩:=hM.t _ (cy e1)
 have e2:=lq (l:=M.tb.getD (kz m M.nm) []) [] (i:=a) #[0]
 obtain⟨t3,t4⟩:=t2 _ (cy e2)
 have e3:=lq (l:=(M.tb.getD (kz m M.nm) []).getD a []) 0 (i:=b) #[0]
 exact t4 _ (cy e3)
theorem MT.tR_lt(hM:lM M n)(hn:1<=n):∀t:MT,t.tR M<n
 |.nil=>hn
 |.nd l r m=>wl hM m (tR_lt hM hn l) (tR_lt hM hn r)
theorem MT.rT_lt(hM:lM M n)(hn:1<=n):∀t:MT,∀k∈t.rT M,k<n
 |.nil,k,h=>by cases h
 |.nd l r m,k,h=>by
  rcases aW.mp h with h|h
  ·rcases aW.mp h with h|h
   ·exact rT_lt hM hn l k h
   ·exact rT_lt hM hn r k h
  ·rw[a8.mp h];exact wl hM m (tR_lt hM hn l) (tR_lt hM hn r)
def Fm.rm(M:Mc):Fm->Nat->Nat
 |.lf r m,a=>sv M m a (r.tR M)
 |.rg l m,a=>sv M m (l.tR M) a
theorem Iv(hM:lM M n)(hn:1<=n):∀C:List Fm,∀k∈rA M C,k<n
 |[],k,h=>by cases h
 |.lf _ _::C,k,h=>Iv hM hn C k h
 |.rg l _::C,k,h=>by
  rcases aW.mp h with h|h
  ·exact Iv hM hn C k h
  ·exact l.rT_lt hM hn k h
theorem Iw(hM:lM M n)(hn:1<=n):∀(C:List Fm) {a:Nat},a<n->∀k∈rB M C a,k<n
 |[],a,_,k,h=>by cases h
 |.lf r m::C,a,ha,k,h=>by
  have hv:=wl hM m ha (r.tR_lt hM hn)
  rcases aW.mp h with h|h
  ·rcases aW.mp h with h|h
   ·exact r.rT_lt hM hn k h
   ·rw[a8.mp h];exact hv
  ·exact Iw hM hn C hv k h
 |.rg l m::C,a,ha,k,h=>by
  have hv:=wl hM m (l.tR_lt hM hn) ha
  rcases aW.mp h with h|h
  ·rw[a8.mp h];exact hv
  ·exact Iw hM hn C hv k h
def fr(M:Mc)(C:List Fm)(l r:MT)(o:Nat):List Nat:=rA M C++(l.rT M++r.rT M++[o])++rB M C o
theorem Su(hM:lM M n)(hn:1<=n)(C:List Fm)(l r:MT){o:Nat}(ho:o<n):∀k∈fr M C l r o,k<n:=fun k h=>by
 rcases aW.mp h with h|h
 ·rcases aW.mp h with h|h
  ·exact Iv hM hn C k h
  ·rcases aW.mp h with h|h
   ·rcases aW.mp h with h|h
    ·exact l.rT_lt hM hn k h
    ·exact r.rT_lt hM hn k h
   ·rw[a8.mp h];exact ho
 ·exact Iw hM hn C ho k h
theorem wm(a b c d:List α)(o:α){p:Nat}(hp:p=a.length+b.length+c.length):(a++(b++c++[o])++d)[p]?=some o:=by
 subst hp
 rw[show a++(b++c++[o])++d=(a++b++c)++o::d by simp,aX (by simp[j3])]
 simp[j3]
theorem K0(a b c d:List α)(o v:α){p:Nat}(hp:p=a.length+b.length+c.length):(a++(b++c++[o])++d).set p v=a++(b++c++[v])++d:=by
 subst hp
 rw[show a++(b++c++[o])++d=(a++b++c)++o::d by simp,on _ _ (by simp[j3]),show a.length+b.length+c.length-(a++b++c).length=0 by simp;omega]
 simp
theorem Iy(M:Mc)(C:List Fm)(l r:MT):(pA C).length+l.size+r.size=(rA M C).length+(l.rT M).length+(r.rT M).length:=by rw[nn,MT.rT_len,MT.rT_len]
def wn(M:Mc):List Fm->Nat->Nat->Nat
 |[],_,_=>1
 |f::C,v,o=>if v=o then 1 else 1+wn M C (f.rm M v) (f.rm M o)
theorem C3{A:List (Option Nat)}{ua ub p:Nat}(ha:st[ua]?=some (.lst (A.map oW)))(hb:st[ub]?=some (.lst (B.map oW)))(hp:p<A.length)(JA:p<B.length):E6 [.tup [.loc ua,.loc ub],.int p] st=.ok (oW (FB A B p)) st:=by
 have ea:bj (.loc ua) (.int p) st=.ok (oW (A.getD p none)) st:=jG (b8 ha) (ga (by rw[aI,lq none hp];rfl))
 have eb:bj (.loc ub) (.int p) st=.ok (oW (B.getD p none)) st:=jG (b8 hb) (ga (by rw[aI,lq none JA];rfl))
 unfold FB
 cases e:A.getD p none with
 |some u=>
  rw[e]at ea
  apply dQ
  apply bO
  ·exact uj (aZ (dX (bw kx kv ea) rfl)) (bw kx kv ea)
  ·exact⟨_,_,rfl,rfl,rfl⟩
 |none=>
  rw[e]at ea
  apply dQ
  apply bO
  ·exact uk (aZ (dX (bw kx kv ea) rfl)) (bw kx kv eb)
  ·exact⟨_,_,rfl,rfl,rfl⟩
theorem Po{g g':FS}{ρ':cM}(h:g ρ st=.bk ρ' st1):aK g g' ρ st=.bk ρ' st1:=by unfold aK;rw[h]
abbrev cT:FT:=eG (gA (ag 8))
abbrev cB:FS:=(aK (ba 9 (cq 4 rR (ah (ag 0) (ah (e2 bj (e2 bj (ag 1) (ag 8)) (eI 1)) (ah (e2 bj (ag 4) (ag 8)) (ah (ag 6) aE)))))) (aK (ba 7 (e2 cQ (ag 7) (eI 1))) (aK (fO (eG (e2 iC (ag 9) (e2 bj (ag 6) (ag 8)))) Cs bM) (aK (wY (ag 6) (ag 8) (ag 9) ql) (ba 8 (cq 2 E6 (ah (ag 5) (ah (ag 8) aE))))))))
abbrev cR(M:Mc)(t:MT)(x2:W)(q ua ub pf c:Nat)(o8 o9:Option W):cM:=[some M.w,some (bV t.po),some x2,iO (q:Nat),some (.tup ((t.lkT 0).map gH)),some (.tup [.loc ua,.loc ub]),lO pf,iO (c:Nat),o8,o9]
theorem Bs{g:FS}{k:Nat}{ρ':cM}(h:t ρ st=.ok true st)(e:g ρ st=.bk ρ' bp):dD t g (k+1) ρ st=.nx ρ' bp:=by unfold dD;rw[h];simp only[R.stmt_ok,f7,e]
theorem pw{t:FT}{g:FS}{k:Nat}{ρ':cM}{rs:RS}(h:t ρ st=.ok true st)(e:g ρ st=.nx ρ' bp)(e2:dD t g k ρ' bp=rs):dD t g (k+1) ρ st=rs:=by unfold dD;rw[h];simp only[R.stmt_ok,f7,e];exact e2
theorem yl{g:FS}{k:Nat}(h:t ρ st=.ok false st):dD t g (k+1) ρ st=.nx ρ st:=by unfold dD;rw[h];rfl
theorem nq(C:List Fm)(l r:MT)(m:List Nat):#[1].po[(pA C).length+l.size+r.size]?=some ⟨l.one+2*r.one,m⟩:=by
 rw[de]
 exact wm (pA C) l.po r.po (pB C) _ (by rw[MT.po_len,MT.po_len])
section
variable{t:MT}{A:List (Option Nat)}{ua ub pf:Nat}
theorem K1(M:Mc)(C:List Fm)(l r:MT)(m:List Nat)(o:Nat):u8 M (fr M C l r o) m (l.tp (pA C).length,r.tp ((pA C).length+l.size))=sv M m (l.tR M) (r.tR M):=by
 have:=MT.stp_tp M (rA M C) ([o]++rB M C o) l r m
 rw[nn]at this
 rw[<- this]
 unfold fr
 simp only[al]
theorem wq(hM:lM M n)(hn:1<=n)(x2:W)(q:Nat)(lA:A.length=t.size)(lB:B.length=t.size)(na:pf≠ua)(nb:pf≠ub){C:List Fm}{l r:MT}{o:Nat}(c:Nat)(o9:Option W)(ht:t=a7 C (.nd l r m))(ho:o<n)(ha:st[ua]?=some (.lst (A.map oW)))(hb:st[ub]?=some (.lst (B.map oW)))(hf:st[pf]?=some (.lst (nW (fr M C l r o)))) :
  (sv M m (l.tR M) (r.tR M)=o->cB (cR M t x2 q ua ub pf c (iO ((pA C).length+l.size+r.size:Nat)) o9) st=.bk (cR M t x2 q ua ub pf (c+1) (iO ((pA C).length+l.size+r.size:Nat)) (iO (o:Nat))) st) /\
  (sv M m (l.tR M) (r.tR M)≠o->cB (cR M t x2 q ua ub pf c (iO ((pA C).length+l.size+r.size:Nat)) o9) st=.nx (cR M t x2 q ua ub pf (c+1) (some (oW (FB A B ((pA C).length+l.size+r.size)))) (iO (sv M m (l.tR M) (r.tR M):Nat))) (st.set pf (.lst (nW (rA M C++(l.rT M++r.rT M++[sv M m (l.tR M) (r.tR M)])++rB M C o))))):=by
 have hx:=qc C l r m
 have hp:=nq C l r m
 have hg:=MT.gr0 #[1]
 have hz:=fS C (.nd l r m) (by rw[MT.size_nd];omega)
 rw[<- ht]at hx hp hg hz
 rw[MT.size_nd]at hz
 have hs:=K1 M C l r m o
 have hat:(fr M C l r o)[(pA C).length+l.size+r.size]?=some o:=wm _ _ _ _ _ (Iy M C l r)
 have PY:(fr M C l r o).set ((pA C).length+l.size+r.size) #[14]=rA M C++(l.rT M++r.rT M++[sv M m (l.tR M) (r.tR M)])++rB M C o:=K0 _ _ _ _ _ _ (Iy M C l r)
 have hfl:=(au.mp hat).1
 have hlk:=hg.lk hx
 have hr:=Mu (m:=m) hM hn (Su hM hn C l r ho) (x:=(l.tp (pA C).length,r.tp ((pA C).length+l.size))) ⟨fun k e=>sE (hlk.1 k e) hfl,fun k e=>sE (hlk.2 k e) hfl⟩ st hf
 rw[hs]at hr
 generalize hv:sv M m (l.tR M) (r.tR M)=v at *
 generalize hP:(pA C).length+l.size+r.size=p at *
 have e9:ba 9 (cq 4 rR (ah (ag 0) (ah (e2 bj (e2 bj (ag 1) (ag 8)) (eI 1)) (ah (e2 bj (ag 4) (ag 8)) (ah (ag 6) aE))))) (cR M t x2 q ua ub pf c (iO (p:Nat)) o9) st=.nx (cR M t x2 q ua ub pf c (iO (p:Nat)) (iO (v:Nat))) st:=
  a_ (cw (av kv (av (bw (bw kv kv (r9 hp st)) bU (CQ _ st)) (av (bw kv kv (mI (ga (by rw[aI,hx];rfl)))) kn))) hr rfl)
 have e7:ba 7 (e2 cQ (ag 7) (eI 1)) (cR M t x2 q ua ub pf c (iO (p:Nat)) (iO (v:Nat))) st=.nx (cR M t x2 q ua ub pf (c+1) (iO (p:Nat)) (iO (v:Nat))) st:=a_ (bw kv bU dY)
 have eq:∀b,decide (v=o)=b->eG (e2 iC (ag 9) (e2 bj (ag 6) (ag 8))) (cR M t x2 q ua ub pf (c+1) (iO (p:Nat)) (iO (v:Nat))) st=.ok b st:=fun b hb=>aZ (bw kv (bw kv kv (yd hf hat)) (fX (by rw[<- hb,iZ,c_,gM];omega)))
 refine⟨fun h=>?_,fun h=>?_⟩
 ·refine bS e9 (bS e7 (Po ?_))
  rw[cN (eq true (bn h)) rfl,h];rfl
 ·refine bS e9 (bS e7 (bS (cG (eq false (aV h)) rfl) (bS (AO kv kv kv (CT hf (by show _<(List.map _ _).length;rw[aD];exact hfl))) ?_)))
  rw[show(nW (fr M C l r o)).set p (W.int (v:Nat))=nW ((fr M C l r o).set p v) by unfold nW;rw[sF],PY]
  exact a_ (cw (av kv kn) (C3 (by rw[bI na];exact ha) (by rw[bI nb];exact hb) #[0] #[0]) rfl)
theorem C4(hM:lM M n)(hn:1<=n)(x2:W)(q:Nat)(hA:Up (t.lkT 0) Prod.fst t.size A)(hB:Up (t.lkT 0) Prod.snd t.size B)(lA:A.length=t.size)(lB:B.length=t.size)(na:pf≠ua)(nb:pf≠ub) :
  ∀(C:List Fm) (l r:MT) (m:List Nat) (o c:Nat) (o9:Option W) (st:List am),t=a7 C (.nd l r m)->o<n->st[ua]?=some (.lst (A.map oW))->st[ub]?=some (.lst (B.map oW))->st[pf]?=some (.lst (nW (fr M C l r o))) ->
   ∃o8 o9' bp,dD cT cB (C.length+2) (cR M t x2 q ua ub pf c (iO ((pA C).length+l.size+r.size:Nat)) o9) st=.nx (cR M t x2 q ua ub pf (c+wn M C #[14] o) o8 o9') bp/\bp[pf]?=some (.lst (nW (t.rT M)))/\∀i,i≠pf->bp[i]?=st[i]?:=by
 intro C
 induction C with
 |nil=>
  intro l r m o c o9 st ht ho ha hb hf
  obtain⟨s1,s2⟩:=wq hM hn x2 q lA lB na nb c o9 ht ho ha hb hf
  by_cases h:sv M m (l.tR M) (r.tR M)=o
  ·refine⟨_,_,st,Bs (aZ (dX kv rfl)) (s1 h),?_,fun _ _=>rfl⟩
   rw[hf,ht]
   unfold fr
   rw[show(a7 [] (.nd l r m)).rT M=rA M []++(l.rT M++r.rT M++[sv M m (l.tR M) (r.tR M)])++rB M [] #[14]from nj M [] _,h]
  ·have e:=s2 h
   have hu:FB A B ((pA []).length+l.size+r.size)=none:=by
    have:=Pm hA hB (by rw[ht];show 0<l.size+r.size+1;omega)
    rw[show t.size=l.size+r.size+1 by rw[ht];rfl]at this
    rw[<- this];congr 1;show 0+_+_=_;omega
   rw[hu]at e
   refine⟨_,_,_,pw (aZ (dX kv rfl)) e (yl (aZ (dX kv rfl))),?_,fun i hi=>bI (Ne.symm hi)⟩
   rw[d_ hf,ht]
   show some (am.lst (nW ([]++_++[])))=_
   rw[eJ,bv];rfl
 |cons f C ih=>
  intro l r m o c o9 st ht ho ha hb hf
  obtain⟨s1,s2⟩:=wq hM hn x2 q lA lB na nb c o9 ht ho ha hb hf
  by_cases h:sv M m (l.tR M) (r.tR M)=o
  ·rw[show wn M (f::C) #[14] o=1 from aF h]
   refine⟨_,_,st,Bs (aZ (dX kv rfl)) (s1 h),?_,fun _ _=>rfl⟩
   rw[hf,ht]
   unfold fr
   rw[nj M (f::C),show(MT.nd l r m).tR M=o from h,show(MT.nd l r m).rT M=l.rT M++r.rT M++[sv M m (l.tR M) (r.tR M)]from rfl,h]
  ·have e:=s2 h
   rw[show wn M (f::C) #[14] o=1+wn M C (f.rm M #[14]) (f.rm M o)from aO h,<- j3]
   cases f with
   |lf y w=>
    have hu:FB A B ((pA (.lf y w::C)).length+l.size+r.size)=some ((pA C).length+(MT.nd l r m).size+y.size):=by
     have:=Sq (B:=B) (t:=t) (C:=C) (x:=.nd l r m) (y:=y) (w:=w) ht hA (by rw[MT.size_nd];omega)
     rw[<- this];congr 1;rw[MT.size_nd];show(pA C).length+_+_=_;omega
    rw[hu]at e
    obtain⟨o8,o9',bp,e2,e3,e4⟩:=ih (.nd l r m) y w (sv M w o (y.tR M)) (c+1) (iO (sv M m (l.tR M) (r.tR M):Nat)) (st.set pf (.lst (nW (rA M (.lf y w::C)++(l.rT M++r.rT M++[sv M m (l.tR M) (r.tR M)])++rB M (.lf y w::C) o)))) ht (wl hM w ho (y.tR_lt hM hn)) (by rw[bI na];exact ha) (by rw[bI nb];exact hb) (by
     rw[d_ hf]
     unfold fr
     show some (am.lst (nW (rA M C++_++(y.rT M++[_]++rB M C _))))=some (am.lst (nW (rA M C++((l.rT M++r.rT M++[_])++y.rT M++[_])++rB M C _)))
     simp only[al])
    exact⟨o8,o9',bp,pw (aZ (dX kv rfl)) e e2,e3,fun i hi=>by rw[e4 i hi];exact bI (Ne.symm hi)⟩
   |rg y w=>
    have hu:FB A B ((pA (.rg y w::C)).length+l.size+r.size)=some ((pA C).length+y.size+(MT.nd l r m).size):=by
     have:=Ss (t:=t) (C:=C) (x:=.nd l r m) (y:=y) (w:=w) ht hA hB (by rw[MT.size_nd];omega)
     rw[<- this];congr 1;rw[MT.size_nd];show(pA C++y.po).length+_+_=_;rw[ai,MT.po_len];omega
    rw[hu]at e
    obtain⟨o8,o9',bp,e2,e3,e4⟩:=ih y (.nd l r m) w (sv M w (y.tR M) o) (c+1) (iO (sv M m (l.tR M) (r.tR M):Nat)) (st.set pf (.lst (nW (rA M (.rg y w::C)++(l.rT M++r.rT M++[sv M m (l.tR M) (r.tR M)])++rB M (.rg y w::C) o)))) ht (wl hM w (y.tR_lt hM hn) ho) (by rw[bI na];exact ha) (by rw[bI nb];exact hb) (by
     rw[d_ hf]
     unfold fr
     show some (am.lst (nW ((rA M C++y.rT M)++_++([_]++rB M C _))))=some (am.lst (nW (rA M C++(y.rT M++(l.rT M++r.rT M++[_])++[_])++rB M C _)))
     simp only[al])
    exact⟨o8,o9',bp,pw (aZ (dX kv rfl)) e e2,e3,fun i hi=>by rw[e4 i hi];exact bI (Ne.symm hi)⟩
end
theorem C5(hM:lM M n)(hn:1<=n){C:List Fm}{l r t:MT}{o:Nat}(ht:t=a7 C (.nd l r m))(ho:o<n)(hs:t.size<=900)(st:List am) :
  Bb [M.w,bV t.po,gz (fr M C l r o),.int ((pA C).length+l.size+r.size:Nat)] st=.ok (.tup [gz (t.rT M),.int (wn M C #[14] o:Nat)]) st:=by
 have hg:=t.gr0
 have hl:=t.po_len
 obtain⟨A,B,x,lA,lB,uA,uB,cA,cB',e5⟩:=Pi hg #[0] st
 rw[hl]at lA lB uA uB
 have e6:xM [gz (fr M C l r o)] (st++x)=.ok (.loc (st++x).length) (st++x++[.lst (nW (fr M C l r o))]):=Pe
 have nA:(st++x).length≠st.length:=fun e=>by have:=fP cA;omega
 have nB:(st++x).length≠st.length+1:=fun e=>by have:=fP cB';omega
 obtain⟨o8,o9,bp,e8,e9,e10⟩:=C4 hM hn (gz (fr M C l r o)) ((pA C).length+l.size+r.size) uA uB lA lB nA nB C l r m o 0 none (st++x++[.lst (nW (fr M C l r o))]) ht ho (cJ cA) (cJ cB') dy
 rw[iz]at e8
 refine fE ?_ (by simp[undWs,u7,W.und])
 apply aA
 ·exact a_ (cw kn (r6 hg #[0] st) rfl)
 apply aA
 ·exact a_ (cw kn e5 rfl)
 apply aA
 ·exact a_ (cu kn e6)
 apply aA
 ·exact a_ bU
 apply aA
 ·exact a_ kv
 apply aA
 ·exact pT e8 #[15]
 apply bO
 ·exact eX (av (cu kn (oQ (b8 e9))) kn) (aq rfl)
 ·refine⟨_,_,rfl,rfl,?_⟩
  have:st <+: bp:=List.prefix_iff_getElem?.mpr fun i hi=>by
   rw[e10 i (by rw[ai];omega),al,aL hi,aj hi]
  exact this.imp fun x e=>e.symm
end
theorem MT.one_of:∀{t:MT},0<t.size->t.one=1
 |.nil,h=>absurd h (by decide)
 |.nd _ _ _,_=>rfl
theorem MT.one_bit:∀t:MT,pZ t.po=t.one
 |.nil=>rfl
 |.nd l r m=>by unfold pZ;rw[aF (by rw[MT.po_len,MT.size_nd];omega)];rfl
theorem MT.one_le:∀t:MT,t.one<=1/\(0<t.size↔t.one=1)
 |.nil=>⟨by decide,by decide⟩
 |.nd l r m=>⟨az 1,by rw[MT.size_nd];exact⟨fun _=>rfl,fun _=>by omega⟩⟩
theorem Gr.mts{ps:List Pl}{sz:List Nat}{lk:List #[6]}(h:Gr ps S sz lk):∃F:List MT,(∀t∈F,0<t.size)/\S=F.map MT.size/\ps=(F.reverse.map MT.po).flatten:=by
 induction h with
 |nil=>exact⟨[],by simp,rfl,rfl⟩
 |@snoc ps S S' sz lk b k m x h hs ih=>
  obtain⟨F,h1,rfl,rfl⟩:=ih
  have add:∀(t:MT) (G:List MT),0<t.size->(∀x∈G,0<x.size)->∀x∈t::G,0<x.size:=fun t G h g x hx=>by
   rcases aT.mp hx with rfl|hx
   ·exact h
   ·exact g x hx
  generalize hS:F.map MT.size=S0 at hs
  cases hs with
  |z=>
   refine⟨.nd .nil .nil m::F,add _ _ (Nat.succ_pos _) h1,by rw[<- hS];rfl,?_⟩
   rw[bA,bb,dE];rfl
  |l=>
   match F,hS with
   |t::F,hS=>
    rw[a9]at hS
    cases hS
    have ht:=h1 t bC
    refine⟨.nd t .nil m::F,add _ _ (by rw[MT.size_nd];omega) fun x hx=>h1 x (aS _ hx),?_,?_⟩
    ·rw[a9,MT.size_nd];congr 1;show _=_+0+1;omega
    ·rw[bA,bb,dE,bA,bb,dE,al]
     congr 1
     show(t.po++[])++_=(t.po++[]++[⟨t.one+2*0,m⟩])++[]
     rw[MT.one_of ht];simp
  |r=>
   match F,hS with
   |t::F,hS=>
    rw[a9]at hS
    cases hS
    have ht:=h1 t bC
    refine⟨.nd .nil t m::F,add _ _ (by rw[MT.size_nd];omega) fun x hx=>h1 x (aS _ hx),?_,?_⟩
    ·rw[a9,MT.size_nd];congr 1;show _=0+_+1;omega
    ·rw[bA,bb,dE,bA,bb,dE,al]
     congr 1
     show(t.po++[])++_=([]++t.po++[⟨0+2*t.one,m⟩])++[]
     rw[MT.one_of ht];simp
  |b=>
   match F,hS with
   |c::t::F,hS=>
    rw[a9,a9]at hS
    cases hS
    have hc:=h1 c bC
    have ht:=h1 t (aS _ bC)
    refine⟨.nd t c m::F,add _ _ (by rw[MT.size_nd];omega) fun x hx=>h1 x (aS _ (aS _ hx)),?_,?_⟩
    ·rw[a9,MT.size_nd];congr 1;omega
    ·rw[bA,bb,dE,bA,bA,bb,dE,bb,dE,al,al]
     congr 1
     show(t.po++[])++((c.po++[])++_)=(t.po++c.po++[⟨t.one+2*c.one,m⟩])++[]
     rw[MT.one_of ht,MT.one_of hc];simp
   |[_],hS=>simp at hS
theorem Gr.mt{ps:List Pl}{sz:List Nat}{lk:List #[6]}(h:Gr ps S sz lk)(h1:S.length<=1):∃t:MT,ps=t.po:=by
 obtain⟨F,_,rfl,rfl⟩:=h.mts
 match F,h1 with
 |[],_=>exact⟨.nil,rfl⟩
 |[t],_=>exact⟨t,by simp⟩
 |_::_::_,h=>simp at h
section
variable{M:Mc}
def pq(C:List Fm)(l r:MT):Nat:=(pA C).length+l.size+r.size
theorem Bt(C:List Fm)(l r:MT)(m:List Nat):D7 #[1].po #[1].szT (pq C l r) ⟨l.one+2*r.one,m⟩ l.size r.size:=by
 obtain⟨u,w,e,hu⟩:=u9 C (.nd l r m)
 have hl:=l.one_le
 have hr:=r.one_le
 refine⟨nq C l r m,?_,by unfold pq;omega,by show l.one+2*r.one<=3;omega,by show _↔(l.one+2*r.one)%2=1;omega,by show _↔2<=l.one+2*r.one;omega,fun h=>?_⟩
 ·rw[e,show 1+l.size+r.size=l.size+r.size+1 by omega]
  exact wm u l.szT r.szT w _ (by rw[hu,MT.sz_len,MT.sz_len];rfl)
 ·have h2:2<=l.one+2*r.one:=h
  cases r with
  |nil=>exact absurd h2 (by show ¬ 2<=l.one+2*0;omega)
  |nd a b c=>
   rw[MT.size_nd]
   refine⟨by unfold pq;rw[MT.size_nd];omega,?_⟩
   rw[e,show(MT.nd l (.nd a b c) m).szT=l.szT++(a.szT++b.szT++[a.size+b.size+1])++[l.size+(MT.nd a b c).size+1]from rfl,<- al,<- al,al]
   exact wm (u++l.szT) a.szT b.szT _ _ (by rw[ai,hu,MT.sz_len,MT.sz_len,MT.sz_len];unfold pq;rw[MT.size_nd];omega)
theorem u_{a b c d:List α}{p q k:Nat}(hp:p=a.length)(hk:k=b.length):((a++(b++c)++d).drop p).take k=b:=by
 subst hp;subst hk
 rw[al,List.drop_left,al,gy]
theorem Bu(C:List Fm)(l r:MT)(m:List Nat):CY #[1].po (pq C l r) l.size r.size=l.po:=by
 unfold CY pq
 rw[de,show(MT.nd l r m).po=l.po++(r.po++[⟨l.one+2*r.one,m⟩])from al _ _ _]
 exact u_ (q:=0) #[0] (MT.po_len l).symm
theorem Bv(C:List Fm)(l r:MT)(m:List Nat):CZ #[1].po (pq C l r) r.size=r.po:=by
 unfold CZ pq
 rw[de,show pA C++(MT.nd l r m).po++pB C=(pA C++l.po)++(r.po++[⟨l.one+2*r.one,m⟩])++pB C by show pA C++(l.po++r.po++_)++_=_;simp only[al]]
 exact u_ (q:=0) (by rw[ai,MT.po_len];omega) (MT.po_len r).symm
theorem Bw(C:List Fm)(l r x:MT)(m:List Nat)(sd:Bool):Jx #[1].po (pq C l r) l.size r.size m sd x.po=(a7 C (.nd (if sd then x else l) (if sd then r else x) m)).po:=by
 unfold Jx
 rw[Bu,Bv]
 have e1:#[1].po.take (pq C l r-l.size-r.size)=pA C:=by
  rw[de,al,show pq C l r-l.size-r.size=(pA C).length by unfold pq;omega,gy]
 have e2:#[1].po.drop (pq C l r+1)=pB C:=by
  rw[de]
  exact gT (by rw[ai,MT.po_len,MT.size_nd];unfold pq;omega)
 rw[e1,e2,de]
 cases sd
 ·show pA C++(l.po++x.po++[⟨pZ l.po+2*pZ x.po,m⟩])++pB C=_
  rw[MT.one_bit,MT.one_bit];rfl
 ·show pA C++(x.po++r.po++[⟨pZ x.po+2*pZ r.po,m⟩])++pB C=_
  rw[MT.one_bit,MT.one_bit];rfl
theorem Bx{a:List Nat}(h:q<=a.length)(st:List am):wP (gz a) none (some (q:Int)) st=.ok (gz (a.take q)) st:=by
 show R.ok (W.tup (jp _ _ _)) st=_
 rw[mY (by simpa using h),<- mx];rfl
theorem By{a:List Nat}(h:q<=a.length)(st:List am):wP (gz a) (some (q:Int)) none st=.ok (gz (a.drop q)) st:=by
 show R.ok (W.tup (jp _ _ _)) st=_
 rw[rK (by simpa using h),<- my];rfl
theorem sf(a b:List Nat)(h:(a++b).length<=100000)(st:List am):cQ (gz a) (gz b) st=.ok (gz (a++b)) st:=by
 unfold gz
 rw[bb]
 exact G0 (by rw[<- bb,aD];show _<=1000000;omega)
theorem sg(hM:lM M n)(hn:1<=n)(t:MT)(h:t.size<=900)(st:List am):nS [M.w,bV t.po] st=.ok (gz (t.rT M)) st:=by
 have:=Ic t.gr0 (by rw[MT.po_len];omega) hM hn st
 rwa[MT.rooms_po]at this
theorem Iz(C:List Fm)(l r:MT)(m:List Nat)(h:#[1].size<=900)(st:List am):o_ [bV #[1].po,.int (pq C l r:Nat)] st=.ok (.tup [bV l.po,bV r.po]) st:=by
 have:=Io #[1].gr0 (by rw[MT.po_len];exact h) (Bt C l r m) st
 rwa[show(List.drop (pq C l r-l.size-r.size) #[1].po).take l.size=l.po from Bu C l r m,show(List.drop (pq C l r-r.size) #[1].po).take r.size=r.po from Bv C l r m]at this
theorem D9(r:List Nat)(st:List am):dG [gz r] st=.ok (.int r.length) st:=by
 have:dG [gz r] st=.ok (.int (r.map fun k=>W.int (k:Nat)).length) st:=CC
 rwa[aD]at this
theorem D_(M:Mc)(C:List Fm)(l r:MT)(o:Nat):fr M C l r o=rA M C++(l.rT M++(r.rT M++([o]++rB M C o))):=by unfold fr;simp only[al]
theorem IA(M:Mc)(C:List Fm)(l r:MT)(o:Nat):(fr M C l r o).take (pA C).length=rA M C:=by rw[D_];exact kJ (nn M C)
theorem IB(M:Mc)(C:List Fm)(l r:MT)(o:Nat):(fr M C l r o).drop ((pA C).length+l.size)=r.rT M++([o]++rB M C o):=by
 rw[D_,<- al];exact gT (by rw[ai,nn,MT.rT_len])
theorem IC(M:Mc)(C:List Fm)(l r:MT)(o:Nat):(fr M C l r o).take ((pA C).length+l.size)=rA M C++l.rT M:=by
 rw[D_,<- al];exact kJ (by rw[ai,nn,MT.rT_len])
theorem ID(M:Mc)(C:List Fm)(l r:MT)(o:Nat):(fr M C l r o).drop (pq C l r)=[o]++rB M C o:=by
 rw[D_,<- al,<- al];exact gT (by rw[ai,ai,nn,MT.rT_len,MT.rT_len];rfl)
theorem IE(M:Mc):∀(D:List Fm) (a b:Nat),(rB M D a).length=(rB M D b).length
 |[],a,b=>rfl
 |.lf y w::D,a,b=>by
  show(y.rT M++[_]++rB M D _).length=(y.rT M++[_]++rB M D _).length
  rw[ai,ai,ai,ai,IE M D _ (sv M w b (y.tR M))];rfl
 |.rg y w::D,a,b=>by
  show([_]++rB M D _).length=([_]++rB M D _).length
  rw[ai,ai,IE M D _ (sv M w (y.tR M) b)];rfl
theorem Pp(M:Mc)(C:List Fm)(l r:MT)(o:Nat)(m:List Nat):(fr M C l r o).length=#[1].size:=by
 rw[<- MT.rT_len M,nj M C (.nd l r m)]
 unfold fr
 simp only[ai,MT.rT_len,IE M C o ((MT.nd l r m).tR M),MT.size_nd,cm]
def dW(C C':List Fm)(l r:MT)(m:List Nat)(l' r':MT)(m':List Nat)(s:W):W:=.tup [bV #[1].po,.int (pq C l r:Nat),bV (a7 C' (.nd l' r' m')).po,.int (pq C' l' r':Nat),s]
theorem Fc(hM:lM M n)(hn:1<=n)(C:List Fm)(l r l' r':MT)(m m':List Nat)(sd:Bool)(h1:#[1].size<=900)(h2:(a7 C (.nd l' r' m')).size<=900)(hl:sd=false->l'=l)(hr:sd=true->r'=r)(o:Nat)(st:List am) :
  x6 [M.w,gz (fr M C l r o),dW C C l r m l' r' m' (sH sd)] st=.ok (.tup [gz (fr M C l' r' o),.int ((if sd then l'.size else r'.size:Nat))]) st:=by
 have z1:=fS C (.nd l r m) (by rw[MT.size_nd];omega)
 have z2:=fS C (.nd l' r' m') (by rw[MT.size_nd];omega)
 rw[MT.size_nd]at z1 z2
 have b1:=Iz C l r m h1 st
 have b2:=Iz C l' r' m' h2 st
 have n1:=gb l.po st
 have n2:=gb r.po st
 rw[MT.po_len]at n1 n2
 have hA:=nn M C
 have hfl:=Pp M C l r o m
 have i3:∀ρ:cM,ρ[2]?=some (some (dW C C l r m l' r' m' (sH sd)))->e2 bj (ag 2) (eI 4) ρ st=.ok (sH sd) st:=fun ρ h=>bw (ju h) bU ox
 have eS:iC (sH sd) (.str [108,101,102,116]) st=.ok (.bl sd) st:=by cases sd<;>exact dC rfl
 have a5:(pq C l r:Int)-(l.size:Nat)-(r.size:Nat)=((pA C).length:Nat):=by unfold pq;omega
 have d3:ba 3 (cq 2 o_ (ah (e2 bj (ag 2) (eI 0)) (ah (e2 bj (ag 2) (eI 1)) aE))) [some M.w,some (gz (fr M C l r o)),some (dW C C l r m l' r' m' (sH sd)),none,none,none,none,none] st=.nx [some M.w,some (gz (fr M C l r o)),some (dW C C l r m l' r' m' (sH sd)),some (.tup [bV l.po,bV r.po]),none,none,none,none] st:=
  a_ (cw (av kx (av kx aY)) b1 rfl)
 refine fE ?_ (by simp[undWs,u7,W.und])
 apply aA
 ·exact d3
 apply aA
 ·exact a_ (cw (av kx (av kx aY)) b2 rfl)
 apply aA
 ·refine a_ (st1:=st) (w:=.int ((pA C).length:Nat)) ?_
  rw[<- a5]
  exact bw (bw kx (cu (av kx aY) n1) rfl) (cu (av kx aY) n2) rfl
 apply aA
 ·refine a_ (st1:=st) (w:=.int ((pA C).length+l.size:Nat)) ?_
  rw[eK]
  exact bw kv (cu (av kx aY) n1) dY
 cases sd with
 |true=>
  obtain rfl:=hr rfl
  have rm:=sg hM hn l' #[0] st
  have nl:=D9 (l'.rT M) st
  rw[MT.rT_len]at nl
  apply eO
  ·exact aZ (bw (i3 _ rfl) bU eS)
  apply pW
  apply aA
  ·exact a_ (cw (av kv (av kx aY)) rm rfl)
  apply dF
  ·refine eX (av (bw (bw (mH kv tt (mG kv) (Bx #[0] st)) kv (sf _ _ ?_ st)) (mH kv (mG kv) tt (By #[0] st)) (sf _ _ ?_ st)) (av (cu kn nl) aY)) (aq rfl)
   ·simp only[ai,aM,MT.rT_len];omega
   ·simp only[ai,aM,cz,MT.rT_len];omega
  ·refine⟨_,_,rfl,?_,[],by simp⟩
   rw[IA,IB]
   unfold fr
   simp only[al];rfl
 |false=>
  obtain rfl:=hl rfl
  have rm:=sg hM hn r' #[0] st
  have nl:=D9 (r'.rT M) st
  rw[MT.rT_len]at nl
  apply bD
  ·exact aZ (bw (i3 _ rfl) bU eS)
  apply b6
  apply aA
  ·exact a_ (cw (av kv (av kx aY)) rm rfl)
  apply bO
  ·refine eX (av (bw (bw (mH kv tt (mG kv) (Bx #[0] st)) kv (sf _ _ ?_ st)) (mH kv (mG kx) tt (By (by unfold pq;omega) st)) (sf _ _ ?_ st)) (av (cu kn nl) aY)) (aq rfl)
   ·simp only[ai,aM,MT.rT_len];omega
   ·simp only[ai,aM,cz,MT.rT_len];omega
  ·refine⟨_,_,rfl,?_,[],by simp⟩
   rw[IC,ID]
   unfold fr
   simp only[al];rfl
end
inductive Dd where
 |mk (C:List Fm) (l r:MT) (m:List Nat) (l' r':MT) (m':List Nat) (sd:Option Bool)
 |wh (t t':MT)
namespace Dd
def a:Dd->MT
 |mk C l r m _ _ _ _=>a7 C (.nd l r m)
 |wh t _=>t
def b:Dd->MT
 |mk C _ _ _ l' r' m' _=>a7 C (.nd l' r' m')
 |wh _ t'=>t'
def sW:Option Bool->W
 |none=>.non
 |some s=>sH s
def w:Dd->W
 |mk C l r m l' r' m' sd=>dW C C l r m l' r' m' (sW sd)
 |wh t t'=>.tup [bV t.po,.non,bV t'.po,.non,.non]
def tn:Dd->Dd
 |mk C l r m l' r' m' sd=>mk C l' r' m' l r m sd
 |wh t t'=>wh t' t
def ok:Dd->Prop
 |mk C l r m l' r' m' sd=>(a7 C (.nd l r m)).size<=100/\(a7 C (.nd l' r' m')).size<=100/\(sd≠some true->l'=l)/\(sd≠some false->r'=r)
 |wh t t'=>t.size<=100/\t'.size<=100
def bc:Option Bool->MT->MT->Nat
 |none,_,_=>0
 |some sd,l,r=>if sd then l.size else r.size
def ct(M:Mc):Dd->Nat
 |mk C l r m l' r' m' sd=>bc sd l' r'+wn M C (sv M m' (l'.tR M) (r'.tR M)) (sv M m (l.tR M) (r.tR M))
 |wh _ t'=>t'.size
theorem tn_a(d:Dd):d.tn.a=d.b:=by cases d<;>rfl
theorem tn_b(d:Dd):d.tn.b=d.a:=by cases d<;>rfl
theorem tn_ok{d:Dd}(h:d.ok):d.tn.ok:=by
 cases d with
 |mk C l r m l' r' m' sd=>exact⟨h.2.1,h.1,fun e=>(h.2.2.1 e).symm,fun e=>(h.2.2.2 e).symm⟩
 |wh t t'=>exact⟨h.2,h.1⟩
theorem ok_a{d:Dd}(h:d.ok):d.a.size<=100:=by
 cases d with
 |mk C l r m l' r' m' sd=>exact h.1
 |wh t t'=>exact h.1
theorem ok_b{d:Dd}(h:d.ok):d.b.size<=100:=by rw[<- tn_a];exact ok_a (tn_ok h)
end Dd
section
variable{c f m:Str}{fs:FA}{z1 z2 z3:List am}{k L:Nat}{fl VG:List (Str×W)}{y w:W}{P:RS->Prop}{iF:FS}
theorem py(h1:fe ρ z=.ok y z1)(h2:fo ρ z1=.ok (.loc n) z2)(h3:z2[n]?=some (.obj c fl))(hl:fl.length<900):oM c f fo fe ρ z=.nx ρ (z2.set n (.obj c (w4 f y fl))):=by
 unfold oM
 rw[h1];simp only[R.stmt_ok];rw[h2];simp only[R.stmt_ok,nJ,h3]
 rw[aF ⟨trivial,hl⟩]
theorem fj(h:fa ρ z=.ok (.loc n) z1)(h3:z1[n]?=some (.obj c fl))(hk:fl.lookup f=some w):ji c f fa ρ z=.ok w z1:=by
 unfold ji
 rw[h];simp only[R.bind_ok,nJ,h3,f7,hk,eV]
theorem ib(h:fo ρ z=.ok (.loc n) z1)(h3:z1[n]?=some (.obj c fl))(hm:fl.lookup m=none)(ha:fs ρ z1=.ok ws z2)(hn:ws.length+1=k)(hF:F (.loc n::ws) z2=.ok w z3):iP c m k F fo fs ρ z=.ok w z3:=by
 unfold iP
 rw[h];simp only[R.bind_ok,nJ,h3]
 rw[aF ⟨trivial,hm⟩,ha];simp only[R.bind_ok]
 rw[aF hn,hF]
theorem Pq(ha:fs ρ z=.ok ws z1)(hn:ws.length+1=k)(hF:F (.loc z1.length::ws) (z1++[.obj c []])=.ok .non z2):DV c k F fs ρ z=.ok (.loc z1.length) z2:=by
 unfold DV
 rw[ha];simp only[R.bind_ok]
 rw[aF hn,hF]
theorem mO(h:bp.length=st.length):h_ st bp ws=bp:=by
 unfold h_
 split
 ·rw[bB #[0]]
 ·rfl
theorem wt(ws:List W)(hL:L<st.length)(h:bp[L]?=some (.obj c fl))(hu:undWs st.length (fl.map fun p=>p.2)=false)(hz:st[L]?≠some (.obj c fl)):h_ st bp ws=bp:=by
 unfold h_
 rw[aO]
 rintro⟨_,_,k⟩
 rcases k L hL with e|⟨c,e,hc⟩
 ·rw[h]at e;exact hz e.symm
 ·rw[h]at e
  cases e
  have hc:undWs st.length (fl.map fun p=>p.2)=true:=hc
  rw[hu]at hc;cases hc
theorem jZ{N:Nat}(h:body #[11] st=.nx ρ bp):c9 N body ws st=.ok .non (h_ st bp []):=by
 unfold c9;rw[h]
end
section
variable{M:Mc}{L a b:Nat}
def kF(M:Mc)(t:MT)(k:Nat)(a b:Nat):List (Str×W):=[("machine",M.w),("tree",bV t.po),("rooms",gz (t.rT M)),("many",.int (k:Nat)),("standing",.loc a),("taken_back",.loc b)]
theorem wu(hM:lM M n)(hn:1<=n){d:Dd}(hd:d.ok){k:Nat}(hz:z[L]?=some (.obj "Kept" (kF M d.a k a b))):dw [.loc L,d.w] z=.ok .non (z.set L (.obj "Kept" (kF M d.b (d.ct M) a b))):=by
 suffices hh:∃ρ,jP ([.loc L,d.w].map some++List.replicate (4-2) none) z=.nx ρ (z.set L (.obj "Kept" (kF M d.b (d.ct M) a b))) by
  obtain⟨ρ,e⟩:=hh
  show c9 4 jP _ _=_
  rw[jZ e,mO #[15]]
 cases d with
 |wh t t'=>
  have hd2:t'.size<=100:=hd.2
  refine⟨[lO L,some (Dd.wh t t').w,none,none],?_⟩
  have e1:oM "Kept" "rooms" (ag 0) (cq 2 nS (ah (ji "Kept" "machine" (ag 0)) (ah (e2 bj (ag 1) (eI 2)) aE))) [lO L,some (Dd.wh t t').w,none,none] z=.nx [lO L,some (Dd.wh t t').w,none,none] (z.set L (.obj "Kept" [("machine",M.w),("tree",bV t.po),("rooms",gz (t'.rT M)),("many",.int (k:Nat)),("standing",.loc a),("taken_back",.loc b)])):=
   py (cw (av (fj kv hz rfl) (av kx aY)) (sg hM hn t' #[0] z) rfl) kv hz (aq rfl)
  have l1:=gb t'.po (z.set L (.obj "Kept" [("machine",M.w),("tree",bV t.po),("rooms",gz (t'.rT M)),("many",.int (k:Nat)),("standing",.loc a),("taken_back",.loc b)]))
  rw[MT.po_len]at l1
  refine bS (cN (aZ (AN kx rfl)) (bS e1 (py (cu (av kx aY) l1) kv (d_ hz) (aq rfl)))) ?_
  rw[nG]
  rw[py (f:="tree") kx kv (d_ hz) (aq rfl),nG]
  rfl
 |mk C l r m l' r' m' sd=>
  obtain⟨h1,h2,h3,h4⟩:=hd
  have z0:z[L]?=some (.obj "Kept" (kF M #[1] k a b)):=hz
  have hrm:#[1].rT M=fr M C l r #[14]:=by rw[nj];rfl
  have ho:=wl hM m (l.tR_lt hM hn) (r.tR_lt hM hn)
  generalize hov:sv M m (l.tR M) (r.tR M)=o at *
  obtain⟨k1,hk1,e2⟩:∃k1,k1=Dd.bc sd l' r'/\fO (eG (gA (e2 bj (ag 1) (eI 4)))) (ba 2 (cq 3 x6 (ah (ji "Kept" "machine" (ag 0)) (ah (ji "Kept" "rooms" (ag 0)) #[21])))) bM [lO L,some (Dd.mk C l r m l' r' m' sd).w,some (.tup [gz (fr M C l r o),.int 0]),none] z=.nx [lO L,some (Dd.mk C l r m l' r' m' sd).w,some (.tup [gz (fr M C l' r' o),.int (k1:Nat)]),none] z:=by
   cases sd with
   |none=>
    obtain rfl:=h3 #[13]
    obtain rfl:=h4 #[13]
    exact⟨_,rfl,cG (aZ (dX kx rfl)) d8⟩
   |some s=>
    have bo:=Fc hM hn C l r l' r' m m' s #[0] #[0] (fun e=>h3 (by rw[e];decide)) (fun e=>h4 (by rw[e];decide)) o z
    refine⟨_,rfl,cN (aZ (dX kx (by cases s<;>rfl))) (a_ (cw (av (fj kv z0 rfl) (av (fj kv z0 ?_) kn)) bo rfl))⟩
    show some (gz (#[1].rT M))=_
    rw[hrm]
  have cl:=C5 hM hn (C:=C) (l:=l') (r:=r') (m:=m') (o:=o) rfl ho #[0] z
  refine⟨[lO L,some (Dd.mk C l r m l' r' m' sd).w,some (.tup [gz (fr M C l' r' o),.int (k1:Nat)]),some (.tup [gz ((a7 C (.nd l' r' m')).rT M),.int (wn M C (sv M m' (l'.tR M) (r'.tR M)) o:Nat)])],?_⟩
  refine bS (cG (aZ (AN kx rfl)) (bS (a_ (w:=.tup [gz (fr M C l r o),.int 0]) (eX (av (fj (w:=gz (fr M C l r o)) kv z0 ?_) (av bU aY)) (aq rfl))) (bS e2 (bS (a_ (cw (av (fj kv z0 rfl) (av kx (av kx (av kx aY)))) cl rfl)) (bS (py kx kv z0 (aq rfl)) (py (bw kx kx dY) kv (d_ z0) (aq rfl))))))) ?_
  ·show some (gz (#[1].rT M))=_
   rw[hrm]
  ·rw[nG]
   rw[py (f:="tree") kx kv (d_ z0) (aq rfl),nG]
   have hct:(Dd.mk C l r m l' r' m' sd).ct M=k1+wn M C (sv M m' (l'.tR M) (r'.tR M)) o:=by rw[hk1,<- hov];rfl
   rw[hct]
   rfl
end
end P
namespace P
open PySem L2
structure n9(M:Mc)(L a b:Nat)(t:MT)(k:Nat)(sd tk:List Dd)(z:List am):Prop where
 ob:z[L]?=some (.obj "Kept" (kF M t k a b))
 s:z[a]?=some (.lst (sd.reverse.map Dd.w))
 u:z[b]?=some (.lst (tk.reverse.map Dd.w))
 la:L≠a
 lb:L≠b
 ab:a≠b
 ls:sd.length<=1000
 lu:tk.length<=1000
def K3(L a b:Nat)(z z':List am):Prop:=z.length<=z'.length/\∀i,i<z.length->i≠L->i≠a->i≠b->z'[i]?=z[i]?
section
variable{M:Mc}{L a b k:Nat}{t:MT}{sd tk:List Dd}{d:Dd}
theorem IF(hM:lM M n)(hn:1<=n)(hd:d.ok)(hz:n9 M L a b d.a k sd tk z)(hs:sd.length<1000):∃z',d9 [.loc L,d.w] z=.ok .non z'/\n9 M L a z.length d.b (d.ct M) (d::sd) [] z'/\K3 L a b z z':=by
 have c1:=wu hM hn hd hz.ob
 have lL:=fP hz.ob
 have lA:=fP hz.s
 have lB:=fP hz.u
 have g1:(z.set L (.obj "Kept" (kF M d.b (d.ct M) a b)))[a]?=some (.lst (sd.reverse.map Dd.w)):=by rw[bI hz.la];exact hz.s
 have g2:((z.set L (.obj "Kept" (kF M d.b (d.ct M) a b))).set a (.lst (sd.reverse.map Dd.w++[d.w])))[L]?=some (.obj "Kept" (kF M d.b (d.ct M) a b)):=by rw[bI (Ne.symm hz.la)];exact d_ hz.ob
 have hl:((z.set L (.obj "Kept" (kF M d.b (d.ct M) a b))).set a (.lst (sd.reverse.map Dd.w++[d.w]))).length=z.length:=by simp
 have e:pc ([.loc L,d.w].map some++List.replicate (2-2) none) z=.nx [lO L,some d.w] ((((z.set L (.obj "Kept" (kF M d.b (d.ct M) a b))).set a (.lst (sd.reverse.map Dd.w++[d.w])))++[am.lst []]).set L (.obj "Kept" (kF M d.b (d.ct M) a z.length))):=by
  refine bS (d7 (ib kv hz.ob rfl kn rfl c1)) (bS (d7 (ik (fj kv (d_ hz.ob) rfl) (du g1) kn (ml g1 (by simp;omega)))) ?_)
  rw[py (f:="taken_back") (nK aY (aq rfl)) kv (cJ g2) (aq rfl),hl]
  rfl
 have e2:=jZ (N:=2) e
 generalize hz':(((z.set L (.obj "Kept" (kF M d.b (d.ct M) a b))).set a (.lst (sd.reverse.map Dd.w++[d.w])))++[am.lst []]).set L (.obj "Kept" (kF M d.b (d.ct M) a z.length))=z' at *
 have oL:z'[L]?=some (.obj "Kept" (kF M d.b (d.ct M) a z.length)):=by rw[<- hz'];exact d_ (cJ g2)
 have oA:z'[a]?=some (.lst ((d::sd).reverse.map Dd.w)):=by
  rw[<- hz',bI hz.la]
  refine cJ ?_
  rw[d_ g1,bA,bb];rfl
 have oB:z'[z.length]?=some (.lst (([]:List Dd).reverse.map Dd.w)):=by
  rw[<- hz',bI #[0],<- hl]
  exact dy
 rw[wt [] lL oL (by simp[kF,undWs,W.und]) (by rw[hz.ob];intro e;injection e with e;injection e with _ e;simp[kF]at e;omega)]at e2
 refine⟨z',e2,⟨oL,oA,oB,hz.la,by omega,by omega,by rw[bh];omega,by simp⟩,by rw[<- hz'];simp,fun i hi h1 h2 h3=>?_⟩
 rw[<- hz',bI (Ne.symm h1),aL (by simpa using hi),bI (Ne.symm h2),bI (Ne.symm h1)]
theorem gp{z':List am}{t':MT}{k':Nat}{Vz PL:List Dd}(ws:List W)(hz:n9 M L a b t k sd tk z)(h:n9 M L a z.length t' k' Vz PL z'):h_ z z' ws=z':=
 wt ws (fP hz.ob) h.ob (by simp[kF,undWs,W.und]) (by
  have:=fP hz.u
  rw[hz.ob];intro e;injection e with e;injection e with _ e;simp[kF]at e;omega)
theorem zH(C:List Fm)(l r:MT)(m m':List Nat)(h:#[1].size<=900)(st:List am):Ba [bV #[1].po,.int (pq C l r:Nat),.str m'] st=.ok (bV (a7 C (.nd l r m')).po) st:=by
 have z1:=fS C (.nd l r m) (by rw[MT.size_nd];omega)
 rw[MT.size_nd]at z1
 have hl:=MT.po_len #[1]
 have hq:pq C l r+1<=#[1].po.length:=by unfold pq;omega
 have e1:#[1].po.take (pq C l r)=pA C++(l.po++r.po):=by
  rw[de,show pA C++(MT.nd l r m).po++pB C=(pA C++(l.po++r.po))++(⟨l.one+2*r.one,m⟩::pB C) by show pA C++(l.po++r.po++[_])++pB C=_;simp only[al];rfl]
  exact kJ (by rw[ai,ai,MT.po_len,MT.po_len];unfold pq;omega)
 have e2:#[1].po.drop (pq C l r+1)=pB C:=by
  rw[de]
  exact gT (by rw[ai,MT.po_len,MT.size_nd];unfold pq;omega)
 have e3:(a7 C (.nd l r m')).po=(pA C++(l.po++r.po))++[⟨l.one+2*r.one,m'⟩]++pB C:=by
  rw[de];show pA C++(l.po++r.po++[_])++pB C=_;simp only[al]
 have hs:(a7 C (.nd l r m')).po.length=#[1].po.length:=by rw[de,de];simp only[ai,MT.po_len,MT.size_nd]
 rw[e3]at hs
 have s1:=wf (a:=#[1].po) (q:=pq C l r) #[0] st
 have s2:=wg (a:=#[1].po) (q:=pq C l r+1) #[0] st
 rw[e1]at s1
 rw[e2]at s2
 rw[ai]at hs
 refine fE ?_ (by simp only[undWs,lj,dM])
 apply bO
 ·exact bw (bw (mH kv tt (mG kv) s1) (eX (av (eX (av (bw (bw kv kv (r9 (nq C l r m) st)) bU (Pc _ st)) kn) (aq rfl)) aY) (aq rfl)) (jx _ [⟨l.one+2*r.one,m'⟩] #[0] st)) (mH kv (mG (bw kv bU dY)) tt s2) (jx _ _ (by rw[ai];omega) st)
 ·exact⟨_,_,rfl,by rw[e3],[],by simp⟩
theorem D'(hM:lM M n)(hn:1<=n){C:List Fm}{l r:MT}{m':List Nat}(hd:(Dd.mk C l r m l r m' none).ok)(hz:n9 M L a b #[1] k sd tk z)(hs:sd.length<1000):∃z',eP [.loc L,.int (pq C l r:Nat),.str m'] z=.ok .non z'/\n9 M L a z.length (a7 C (.nd l r m')) ((Dd.mk C l r m l r m' none).ct M) (Dd.mk C l r m l r m' none::sd) [] z'/\K3 L a b z z':=by
 obtain⟨z',e,h,h3⟩:=IF hM hn (d:=Dd.mk C l r m l r m' none) hd hz hs
 refine⟨z',?_,h,h3⟩
 rw[<- gp [] hz h]
 refine jZ (N:=3) (ρ:=[lO L,iO (pq C l r:Nat),some (.str m')]) (d7 (ib kv hz.ob rfl (av (eX (av (fj kv hz.ob rfl) (av kv (av (cw (av (fj kv hz.ob rfl) (av kv kn)) (zH C l r m m' (by have:=hd.1;omega) z) rfl) (av kv (av bU aY))))) (aq rfl)) aY) rfl e))
def qd(m:List Nat):Prop:=m.Pairwise (· < ·)/\∀c∈m,c∈LL
theorem ww(hM:lM M n)(hn:1<=n){C:List Fm}{l r:MT}{c:Nat}(h1:#[1].size<=100)(h2:(a7 C (.nd l r (gn (m++[c])))).size<=100)(hm:∀d∈m,d∈LL)(Vj:m.length<=60)(hc:c∈LL)(hz:n9 M L a b #[1] k sd tk z)(hs:sd.length<1000) :
  ∃z',jQ [.loc L,.int (pq C l r:Nat),.str [c]] z=.ok .non z'/\n9 M L a z.length (a7 C (.nd l r (gn (m++[c])))) ((Dd.mk C l r m l r (gn (m++[c])) none).ct M) (Dd.mk C l r m l r (gn (m++[c])) none::sd) [] z'/\K3 L a b z z':=by
 obtain⟨z',e,h,h3⟩:=D' hM hn (C:=C) (l:=l) (r:=r) (m:=m) (m':=gn (m++[c])) ⟨h1,h2,fun _=>rfl,fun _=>rfl⟩ hz hs
 refine⟨z',?_,h,h3⟩
 have z1:=fS C (.nd l r m) (by rw[MT.size_nd];omega)
 rw[MT.size_nd]at z1
 have hl:=MT.po_len #[1]
 have hml2:m.length<=mB:=by show _<=1000000;omega
 have hcp:=wj (ps:=#[1].po) (q:=pq C l r) (by unfold pq;omega) z
 have io:=Ii (l:=m++[c]) (by rw[ai,cm];omega) (fun d hd=>by
  rcases aW.mp hd with hd|hd
  ·exact hm d hd
  ·rw[a8.mp hd];exact hc) z
 rw[<- gp [] hz h]
 refine jZ (N:=3) (ρ:=[lO L,iO (pq C l r:Nat),some (.str [c])]) (bS (d7 (cw (av (fj kv hz.ob rfl) kn) hcp rfl)) (d7 (ib kv hz.ob rfl (av kv (av (cw (av (bw (bw (bw (fj kv hz.ob rfl) kv (r9 (nq C l r m) z)) bU (CQ _ z)) kv (CB (by show _<=1000000;simp;omega))) aY) io rfl) aY)) rfl e)))
theorem uu(hM:lM M n)(hn:1<=n){C:List Fm}{l r:MT}{c:Nat}(h1:#[1].size<=100)(h2:(a7 C (.nd l r (m.filter fun d=>d != c))).size<=100)(Vj:m.length<=60)(hz:n9 M L a b #[1] k sd tk z)(hs:sd.length<1000) :
  ∃z',jd [.loc L,.int (pq C l r:Nat),.str [c]] z=.ok .non z'/\n9 M L a z.length (a7 C (.nd l r (m.filter fun d=>d != c))) ((Dd.mk C l r m l r (m.filter fun d=>d != c) none).ct M) (Dd.mk C l r m l r (m.filter fun d=>d != c) none::sd) [] z'/\K3 L a b z z':=by
 obtain⟨z',e,h,h3⟩:=D' hM hn (C:=C) (l:=l) (r:=r) (m:=m) (m':=m.filter fun d=>d != c) ⟨h1,h2,fun _=>rfl,fun _=>rfl⟩ hz hs
 refine⟨z',?_,h,h3⟩
 have z1:=fS C (.nd l r m) (by rw[MT.size_nd];omega)
 rw[MT.size_nd]at z1
 have hl:=MT.po_len #[1]
 have hml2:m.length<=mB:=by show _<=1000000;omega
 have hcp:=wj (ps:=#[1].po) (q:=pq C l r) (by unfold pq;omega) z
 rw[<- gp [] hz h]
 refine jZ (N:=3) (ρ:=[lO L,iO (pq C l r:Nat),some (.str [c])]) (bS (d7 (cw (av (fj kv hz.ob rfl) kn) hcp rfl)) (d7 (ib kv hz.ob rfl (av kv (av (N' (bw (bw (fj kv hz.ob rfl) kv (r9 (nq C l r m) z)) bU (CQ _ z)) kv hml2) aY)) rfl e)))
theorem ym(hM:lM M n)(hn:1<=n){C:List Fm}{l r x:MT}{s:Bool}(h1:#[1].size<=100)(hx:x.size<=100)(h2:(a7 C #[4]).size<=100)(hz:n9 M L a b #[1] k sd tk z)(hs:sd.length<1000) :
  ∃z',gW [.loc L,.int (pq C l r:Nat),sH s,bV x.po] z=.ok .non z'/\n9 M L a z.length (a7 C #[4]) ((Dd.mk C l r m (if s then x else l) (if s then r else x) m (some s)).ct M) (Dd.mk C l r m (if s then x else l) (if s then r else x) m (some s)::sd) [] z'/\K3 L a b z z':=by
 obtain⟨z',e,h,h3⟩:=IF hM hn (d:=Dd.mk C l r m (if s then x else l) (if s then r else x) m (some s)) ⟨h1,h2,fun e=>by cases s<;>first|rfl|exact absurd rfl e,fun e=>by cases s<;>first|rfl|exact absurd rfl e⟩ hz hs
 refine⟨z',?_,h,h3⟩
 have z1:=fS C (.nd l r m) (by rw[MT.size_nd];omega)
 have z2:=fS C #[4] (by rw[MT.size_nd];omega)
 rw[MT.size_nd]at z1 z2
 have hl:=MT.po_len #[1]
 have hl2:=MT.po_len (a7 C #[4])
 have hxl:=MT.po_len x
 have pb:=Pk (oth:=x.po) #[1].gr0 #[0] #[0] (Bt C l r m) s z (by rw[Bw];omega)
 rw[Bw]at pb
 have n1:=gb (a7 C #[4]).po z
 have n2:=gb #[1].po z
 have hq:(pq C l r:Int)+((a7 C #[4]).po.length:Nat)-(#[1].po.length:Nat)=(pq C (if s then x else l) (if s then r else x):Nat):=by
  rw[de,de]
  simp only[ai,MT.po_len,MT.size_nd]
  unfold pq
  omega
 rw[<- gp [] hz h]
 refine jZ (N:=5) (ρ:=[lO L,iO (pq C l r:Nat),some (sH s),some (bV x.po),some (bV (a7 C #[4]).po)]) (bS (a_ (cw (av (fj kv hz.ob rfl) (av kv (av kv kn))) pb rfl)) (d7 (ib (ws:=[(Dd.mk C l r m (if s then x else l) (if s then r else x) m (some s)).w]) kv hz.ob rfl (av ?_ aY) rfl e)))
 show _=R.ok (W.tup [bV #[1].po,.int (pq C l r:Nat),bV (a7 C #[4]).po,.int (pq C (if s then x else l) (if s then r else x):Nat),sH s]) z
 rw[<- hq]
 exact eX (av (fj kv hz.ob rfl) (av kv (av kv (av (bw (bw kv (cu kn n1) dY) (cu (av (fj kv hz.ob rfl) aY) n2) rfl) kn)))) (aq rfl)
theorem Bz(hM:lM M n)(hn:1<=n){x:MT}(h1:t.size<=100)(hx:x.size<=100)(hz:n9 M L a b t k sd tk z)(hs:sd.length<1000) :
  ∃z',il [.loc L,bV x.po] z=.ok .non z'/\n9 M L a z.length x x.size (Dd.wh t x::sd) [] z'/\K3 L a b z z':=by
 obtain⟨z',e,h,h3⟩:=IF hM hn (d:=Dd.wh t x) ⟨h1,hx⟩ hz hs
 refine⟨z',?_,h,h3⟩
 rw[<- gp [] hz h]
 exact jZ (N:=2) (ρ:=[lO L,some (bV x.po)]) (d7 (ib kv hz.ob rfl (av (eX (av (fj kv hz.ob rfl) (av bU (av kv (av bU (av bU aY))))) (aq rfl)) aY) rfl e))
end
section
variable{M:Mc}{L a b k:Nat}{t:MT}{sd tk:List Dd}{d:Dd}
theorem Fd(d:Dd)(st:List am):A' [d.w] st=.ok d.tn.w st:=by
 cases d with
 |mk C l r m l' r' m' s=>
  apply dQ
  apply bO
  ·exact eX (av kx (av kx (av kx (av kx (av kx aY))))) (aq rfl)
  ·exact⟨_,_,rfl,rfl,rfl⟩
 |wh t t'=>
  apply dQ
  apply bO
  ·exact eX (av kx (av kx (av kx (av kx (av kx aY))))) (aq rfl)
  ·exact⟨_,_,rfl,rfl,rfl⟩
theorem K2(hM:lM M n)(hn:1<=n)(hd:d.ok)(hz:n9 M L a b d.b k (d::sd) tk z)(hs:tk.length<1000):∃z',je [.loc L] z=.ok .non z'/\n9 M L a b d.a (d.tn.ct M) sd (d::tk) z'/\K3 L a b z z'/\z'.length=z.length:=by
 have hsr:z[a]?=some (.lst (sd.reverse.map Dd.w++[d.w])):=by rw[hz.s,bA,bb];rfl
 have oL:(z.set a (.lst (sd.reverse.map Dd.w)))[L]?=some (.obj "Kept" (kF M d.tn.a k a b)):=by rw[bI (Ne.symm hz.la),Dd.tn_a];exact hz.ob
 have c1:=wu hM hn (Dd.tn_ok hd) oL
 rw[Dd.tn_b]at c1
 have oB:((z.set a (.lst (sd.reverse.map Dd.w))).set L (.obj "Kept" (kF M d.a (d.tn.ct M) a b)))[b]?=some (.lst (tk.reverse.map Dd.w)):=by rw[bI hz.lb,bI hz.ab];exact hz.u
 have e:uq ([.loc L].map some++List.replicate (2-1) none) z=.nx [lO L,some d.w] (((z.set a (.lst (sd.reverse.map Dd.w))).set L (.obj "Kept" (kF M d.a (d.tn.ct M) a b))).set b (.lst (tk.reverse.map Dd.w++[d.w]))):=
  bS (cG (aZ (bw (cu (av (fj kv hz.ob rfl) aY) (lg (b8 hsr))) bU (fX (by simp;omega)))) d8)
   (bS (a_ (ik (fj kv hz.ob rfl) (du hsr) aY (vM hsr))) (bS (d7 (ib kv oL rfl (av (cw kn (Fd d _) rfl) aY) rfl c1))
    (d7 (ik (fj kv (d_ oL) rfl) (du oB) kn (ml oB (by simp;omega))))))
 have e2:=jZ (N:=2) e
 rw[mO #[15]]at e2
 refine⟨_,e2,⟨?_,?_,?_,hz.la,hz.lb,hz.ab,by have:=hz.ls;rw[bh]at this;omega,by rw[bh];omega⟩,⟨by simp,fun i hi h1 h2 h3=>?_⟩,by simp⟩
 ·rw[bI (Ne.symm hz.lb)];exact d_ oL
 ·rw[bI (Ne.symm hz.ab),bI hz.la];exact d_ hsr
 ·rw[d_ oB,bA,bb];rfl
 ·rw[bI (Ne.symm h3),bI (Ne.symm h1),bI (Ne.symm h2)]
theorem IG(hM:lM M n)(hn:1<=n)(hd:d.ok)(hz:n9 M L a b d.a k sd (d::tk) z)(hs:sd.length<1000):∃z',im [.loc L] z=.ok .non z'/\n9 M L a b d.b (d.ct M) (d::sd) tk z'/\K3 L a b z z'/\z'.length=z.length:=by
 have hsr:z[b]?=some (.lst (tk.reverse.map Dd.w++[d.w])):=by rw[hz.u,bA,bb];rfl
 have oL:(z.set b (.lst (tk.reverse.map Dd.w)))[L]?=some (.obj "Kept" (kF M d.a k a b)):=by rw[bI (Ne.symm hz.lb)];exact hz.ob
 have c1:=wu hM hn hd oL
 have oA:((z.set b (.lst (tk.reverse.map Dd.w))).set L (.obj "Kept" (kF M d.b (d.ct M) a b)))[a]?=some (.lst (sd.reverse.map Dd.w)):=by rw[bI hz.la,bI (Ne.symm hz.ab)];exact hz.s
 have e:rX ([.loc L].map some++List.replicate (2-1) none) z=.nx [lO L,some d.w] (((z.set b (.lst (tk.reverse.map Dd.w))).set L (.obj "Kept" (kF M d.b (d.ct M) a b))).set a (.lst (sd.reverse.map Dd.w++[d.w]))):=
  bS (cG (aZ (bw (cu (av (fj kv hz.ob rfl) aY) (lg (b8 hsr))) bU (fX (by simp;omega)))) d8)
   (bS (a_ (ik (fj kv hz.ob rfl) (du hsr) aY (vM hsr))) (bS (d7 (ib kv oL rfl kn rfl c1))
    (d7 (ik (fj kv (d_ oL) rfl) (du oA) kn (ml oA (by simp;omega))))))
 have e2:=jZ (N:=2) e
 rw[mO #[15]]at e2
 refine⟨_,e2,⟨?_,?_,?_,hz.la,hz.lb,hz.ab,by rw[bh];omega,by have:=hz.lu;rw[bh]at this;omega⟩,⟨by simp,fun i hi h1 h2 h3=>?_⟩,by simp⟩
 ·rw[bI (Ne.symm hz.la)];exact d_ oL
 ·rw[d_ oA,bA,bb];rfl
 ·rw[bI hz.ab,bI hz.lb];exact d_ hsr
 ·rw[bI (Ne.symm h2),bI (Ne.symm h1),bI (Ne.symm h3)]
theorem n9.app{x:List am}(h:n9 M L a b t k sd tk z):n9 M L a b t k sd tk (z++x):=⟨cJ h.ob,cJ h.s,cJ h.u,h.la,h.lb,h.ab,h.ls,h.lu⟩
theorem K4(hM:lM M n)(hn:1<=n)(ht:t.size<=900)(z:List am):∃z',gP [.loc z.length,M.w,bV t.po] (z++[.obj "Kept" []])=.ok .non z'/\n9 M z.length (z.length+1) (z.length+2) t t.size [] [] z'/\z <+: z':=by
 have rm:=sg hM hn t ht
 have ln:=gb t.po
 rw[MT.po_len]at ln
 have sx:∀(c:am) (y:List am),(z++c::y)[z.length]?=some c:=fun c y=>by rw[dB];rfl
 have ss:∀(c d:am) (y:List am),(z++c::y).set z.length d=z++d::y:=fun c d y=>by rw[fx];rfl
 have e:nT ([.loc z.length,M.w,bV t.po].map some++List.replicate (3-3) none) (z++[.obj "Kept" []])=.nx [lO z.length,some M.w,some (bV t.po)] (z++[.obj "Kept" (kF M t t.size (z.length+1) (z.length+2)),.lst [],.lst []]):=by
  have F:∀{f:Str} {fe:FE} {ρ:cM} {fl:List (Str×W)} {y:List am} {w:W} {y':List am},ρ[0]?=some (lO z.length)->fl.length<900->fe ρ (z++.obj "Kept" fl::y)=.ok w (z++.obj "Kept" fl::y')->oM "Kept" f (ag 0) fe ρ (z++.obj "Kept" fl::y)=.nx ρ (z++.obj "Kept" (w4 f w fl)::y'):=fun h hl h1=>by
   rw[py h1 (ju h) (sx _ _) hl,ss]
  refine bS (F rfl (aq rfl) kv) (bS (F rfl (aq rfl) kv) (bS (F rfl (aq rfl) (cw (av kv kn) (rm _) rfl)) (bS (F rfl (aq rfl) (cu kn (ln _))) (bS (F (w:=.loc (z.length+1)) (y':=[.lst []]) rfl (aq rfl) ?_) ?_))))
  ·rw[nK aY (aq rfl),al];simp
  ·rw[F (w:=.loc (z.length+2)) (y':=[.lst [],.lst []]) rfl (aq rfl) (by rw[nK aY (aq rfl),al];simp)]
   rfl
 have e2:=jZ (N:=3) e
 have oL:(z++[.obj "Kept" (kF M t t.size (z.length+1) (z.length+2)),.lst [],.lst []])[z.length]?=some (.obj "Kept" (kF M t t.size (z.length+1) (z.length+2))):=sx _ _
 rw[wt (L:=z.length) [] #[15] oL (by simp[kF,undWs,W.und]) (by rw[sx];intro e;injection e with e;injection e with _ e;simp[kF]at e)]at e2
 exact⟨_,e2,⟨oL,by rw[hG];rfl,by rw[hG];rfl,by omega,by omega,by omega,by simp,by simp⟩,be _ _⟩
theorem C6(hz:n9 M L a b t k sd tk z):gQ [.loc L] z=.ok (bV t.po) z:=by
 apply dQ
 apply bO
 ·exact fj kv hz.ob rfl
 ·exact⟨_,_,rfl,rfl,rfl⟩
theorem Tq(M:Mc)(t:MT):KR M t.po (t.lkT 0)=M.gd.getD (t.tR M) false:=by
 unfold KR Bq
 rw[MT.rooms_po,MT.po_len]
 by_cases h:0<t.size
 ·rw[aF h,MT.rT_top M t h]
 ·rw[aO h]
  cases t with
  |nil=>rfl
  |nd l r m=>rw[MT.size_nd]at h;omega
theorem Sv(t:MT)(h:t.size<=1000):Sm (bV t.po):=fun st=>wc (k:=39) (by rw[aD,MT.po_len];exact h) fun w hw=>by
 obtain⟨p,_,rfl⟩:=c5.mp hw
 refine wc (k:=38) #[15] fun w hw=>?_
 simp only[aT,gu,pJ]at hw
 rcases hw with rfl|rfl
 ·exact we _ 37 _
 ·exact Ie _ 37 _
end
def Jy(sz:List Nat):Option Nat->Nat
 |none=>0
 |some j=>sz.getD j 0
section
variable{ps:List Pl}{sz:List Nat}{lk:List #[6]}
theorem Gr.szl(h:Gr ps S sz lk)(hi:i<ps.length):∃x,lk[i]?=some x/\H_ i x/\sz[i]?=some (1+Jy (sz.take i) x.1+Jy (sz.take i) x.2):=by
 obtain⟨S1,S2,p,k,x,g1,q1,q2,q3,hs,g2⟩:=h.step i hi
 obtain⟨lz,ll,ha⟩:=g1.ok
 rw[show(ps.take i).length=i by rw[aM];omega]at ha
 refine⟨x,q3,h.lk q3,?_⟩
 rw[q2]
 congr 1
 have g:∀{j a:Nat},(sz.take i)[j]?=some a->Jy (sz.take i) (some j)=a:=fun e=>by show List.getD _ _ _=_;rw[aH,e];rfl
 obtain⟨b,m⟩:=p
 cases hs with
 |z=>rfl
 |l=>rw[g ha.1];rfl
 |r=>rw[g ha.1];show _=1+0+_;omega
 |b=>
  have:=ha.2.2.2.1
  rw[g ha.1,show ∀c,i-1-c=i-c-1 by omega,g this];omega
theorem Fe(h:Gr ps S sz lk)(hn:ps.length<=900){p:Nat}(hp:st[p]?=some (.lst (lk.map gH))):Bh [.loc p] st=.ok #[5] (st++[.lst (cV sz)]):=by
 obtain⟨l1,l2,_⟩:=h.ok
 have hh:j8 (zZ fun w bp=>∃j x,w=.loc (st.length+j)/\bp=st++x/\j=0/\x=[.lst (cV sz)]) (Mp ([W.loc p].map some++List.replicate (5-1) none) st):=by
  apply aA
  ·exact a_ (nK aY (aq rfl))
  refine gi (fun i ρ bp=>∃(o2 o3 o4:Option W),ρ=[lO p,lO st.length,o2,o3,o4]/\bp=st++[.lst (cV (sz.take i))]) (y9 kv (b8 (cJ hp))) ⟨none,none,none,rfl,rfl⟩ (fun i ρ bp hI=>?_) ?_ ?_
  ·obtain⟨o2,o3,o4,rfl,rfl⟩:=hI
   exact b8 (cJ hp)
  ·rintro i w ρ bp hw ⟨o2,o3,o4,rfl,rfl⟩
   have hw:(lk.map gH)[i]?=some w:=hw
   obtain⟨x0,hx0,rfl⟩:=by rw[aI]at hw;exact fm.mp hw
   have hil:i<lk.length:=(au.mp hx0).1
   obtain⟨x,hx,lkx,hz⟩:=h.szl (show i<ps.length by omega)
   rw[hx0]at hx;cases hx
   have ht:(sz.take i).length=i:=by rw[aM];omega
   have get:∀k:Nat,k<i->bj #[5] (.int k) #[18]=.ok (.int ((sz.take i).getD k 0:Nat)) #[18]:=fun k hk=>yj [] (lq 0 #[0])
   have ap:=Ik (st:=st) (z:=sz.take i) (1+Jy (sz.take i) x0.1+Jy (sz.take i) x0.2) #[0]
   rw[<- U' hz]at ap
   have isl:k8 #[18] #[5]=true:=du dy
   refine⟨[lO p,lO st.length,some (oW x0.1),some (oW x0.2),o4],rfl,?_⟩
   apply aA
   ·exact a_ bU
   have e1:fO (eG (gA (ag 2))) (ba 4 (e2 cQ (ag 4) (e2 bj (ag 1) (ag 2)))) bM [lO p,lO st.length,some (oW x0.1),some (oW x0.2),iO 1] #[18]=.nx [lO p,lO st.length,some (oW x0.1),some (oW x0.2),iO (1+Jy (sz.take i) x0.1:Nat)] #[18]:=by
    obtain⟨a,b⟩:=x0
    cases a with
    |none=>exact cG (aZ (dX kv rfl)) rfl
    |some j=>rw[eK];exact cN (aZ (dX kv rfl)) (a_ (bw kv (bw kv kv (get j (lkx.1 j rfl))) dY))
   apply aA
   ·exact e1
   have e2:fO (eG (gA (ag 3))) (ba 4 (e2 cQ (ag 4) (e2 bj (ag 1) (ag 3)))) bM [lO p,lO st.length,some (oW x0.1),some (oW x0.2),iO (1+Jy (sz.take i) x0.1:Nat)] #[18]=.nx [lO p,lO st.length,some (oW x0.1),some (oW x0.2),iO (1+Jy (sz.take i) x0.1+Jy (sz.take i) x0.2:Nat)] #[18]:=by
    obtain⟨a,b⟩:=x0
    cases b with
    |none=>exact cG (aZ (dX kv rfl)) rfl
    |some j=>rw[eK _ (Jy _ _)];exact cN (aZ (dX kv rfl)) (a_ (bw kv (bw kv kv (get j (lkx.2 j rfl))) dY))
   apply aA
   ·exact e2
   apply dv
   ·exact d7 (ik kv isl kn ap)
   ·exact⟨_,_,rfl,_,_,_,rfl,rfl⟩
  ·rintro ρ bp ⟨o2,o3,o4,rfl,rfl⟩
   apply bO
   ·exact ju rfl
   ·refine⟨_,_,rfl,0,_,rfl,rfl,rfl,?_⟩
    rw[show((lk.map gH,some (p,lk.map gH)):List W×Option (Nat×List W)).1.length=sz.length by show(lk.map gH).length=_;rw[aD];omega,bB (az _)]
 obtain⟨j,x,⟨rfl,rfl⟩,e⟩:=rJ hh
 exact e
end
theorem MT.sz_top:∀t:MT,0<t.size->t.szT[t.size-1]?=some t.size
 |.nil,h=>absurd h (by decide)
 |.nd l r m,_=>by
  rw[MT.size_nd]
  show(l.szT++r.szT++[_])[_]?=_
  rw[aX (by rw[ai,MT.sz_len,MT.sz_len];omega),ai,MT.sz_len,MT.sz_len,show l.size+r.size+1-1-(l.size+r.size)=0 by omega];rfl
section
theorem Pr{C:List Fm}{l r:MT}{m:List Nat}:(0<l.size->#[1].szT[(pA C).length+l.size-1]?=some l.size)/\(0<r.size->#[1].szT[(pA C).length+l.size+r.size-1]?=some r.size):=by
 obtain⟨u,w,e,hu⟩:=u9 C (.nd l r m)
 have e2:#[1].szT=u++(l.szT++(r.szT++([l.size+r.size+1]++w))):=by rw[e];show u++(l.szT++r.szT++[_])++w=_;simp only[al]
 rw[e2]
 refine⟨fun h=>?_,fun h=>?_⟩
 ·rw[aX #[0],aL (by rw[MT.sz_len];omega),hu,show(pA C).length+l.size-1-(pA C).length=l.size-1 by omega,MT.sz_top l h]
 ·rw[aX #[0],aX (by rw[MT.sz_len];omega),aL (by rw[MT.sz_len,MT.sz_len];omega),hu,MT.sz_len,show(pA C).length+l.size+r.size-1-(pA C).length-l.size=r.size-1 by omega,MT.sz_top r h]
theorem yn(C:List Fm)(l r:MT)(m:List Nat)(h:#[1].size<=900)(st:List am):v_ [bV #[1].po,.int (pq C l r:Nat)] st=.ok (.tup [.int ((pA C).length:Nat),.int ((pA C).length+l.size:Nat)]) st:=by
 have hg:=#[1].gr0
 have hl:=MT.po_len #[1]
 obtain⟨x,⟨A,rfl⟩,el⟩:=yc hg #[0] st
 have c1:(st++[am.lst A,.lst ((#[1].lkT 0).map gH)])[st.length+1]?=some (.lst ((#[1].lkT 0).map gH)):=by rw[hG];rfl
 have es:=Fe hg #[0] c1
 generalize hs1:st++[am.lst A,.lst ((#[1].lkT 0).map gH)]=s1 at *
 have hx:=qc C l r m
 obtain⟨zl,zr⟩:=Pr (C:=C) (l:=l) (r:=r) (m:=m)
 have lx:∀(s:List am),s[st.length+1]?=some (.lst ((#[1].lkT 0).map gH))->bj (.loc (st.length+1)) (.int (pq C l r:Nat)) s=.ok (gH (l.tp (pA C).length,r.tp ((pA C).length+l.size))) s:=fun s hs=>jG (b8 hs) (ga (by rw[aI];unfold pq;rw[hx];rfl))
 have c2:(s1++[.lst (cV #[1].szT)])[st.length+1]?=some (.lst ((#[1].lkT 0).map gH)):=cJ c1
 have lx2:=lx _ c2
 have sx:∀{j a:Nat},#[1].szT[j]?=some a->bj (.loc s1.length) (.int j) (s1++[.lst (cV #[1].szT)])=.ok (.int a) (s1++[.lst (cV #[1].szT)]):=fun e=>yj [] e
 have x0:bj (gH (l.tp (pA C).length,r.tp ((pA C).length+l.size))) (.int 0) (s1++[.lst (cV #[1].szT)])=.ok (oW (l.tp (pA C).length)) (s1++[.lst (cV #[1].szT)]):=rfl
 have x1:bj (gH (l.tp (pA C).length,r.tp ((pA C).length+l.size))) (.int 1) (s1++[.lst (cV #[1].szT)])=.ok (oW (r.tp ((pA C).length+l.size))) (s1++[.lst (cV #[1].szT)]):=rfl
 generalize tX:s1++[am.lst (cV #[1].szT)]=s2 at *
 generalize hT:bV #[1].po=T at *
 have tpn:∀(t:MT) (o:Nat),(t.size=0/\t.tp o=none)\/(0<t.size/\t.tp o=some (o+t.size-1)):=fun t o=>by
  cases t with
  |nil=>exact .inl ⟨rfl,rfl⟩
  |nd a b c=>exact .inr ⟨by rw[MT.size_nd];omega,MT.tp_nd a b c o⟩
 have e4:fO (eG (gA (e2 bj (e2 bj (ag 2) (ag 1)) (eI 1)))) (ba 4 (e2 kQ (ag 1) (e2 bj (ag 3) (e2 bj (e2 bj (ag 2) (ag 1)) (eI 1))))) bM [some T,iO (pq C l r:Nat),lO (st.length+1),lO s1.length,iO (pq C l r:Nat),none] s2=.nx [some T,iO (pq C l r:Nat),lO (st.length+1),lO s1.length,iO ((pA C).length+l.size:Nat),none] s2:=by
  rcases tpn r ((pA C).length+l.size)with⟨h0,e⟩|⟨h0,e⟩
  ·rw[e]at x1 lx2
   rw[show pq C l r=(pA C).length+l.size by unfold pq;omega]at lx2 ⊢
   exact cG (aZ (dX (bw (bw kv kv lx2) bU x1) rfl)) rfl
  ·rw[e]at x1 lx2
   have:((pA C).length+l.size:Nat)=((pq C l r:Nat):Int)-(r.size:Nat):=by unfold pq;omega
   rw[this]
   exact cN (aZ (dX (bw (bw kv kv lx2) bU x1) rfl)) (a_ (bw kv (bw kv (bw (bw kv kv lx2) bU x1) (sx (zr h0))) rfl))
 have e5:fO (eG (gA (e2 bj (e2 bj (ag 2) (ag 1)) (eI 0)))) (ba 5 (e2 kQ (ag 4) (e2 bj (ag 3) (e2 bj (e2 bj (ag 2) (ag 1)) (eI 0))))) bM [some T,iO (pq C l r:Nat),lO (st.length+1),lO s1.length,iO ((pA C).length+l.size:Nat),iO ((pA C).length+l.size:Nat)] s2=.nx [some T,iO (pq C l r:Nat),lO (st.length+1),lO s1.length,iO ((pA C).length+l.size:Nat),iO ((pA C).length:Nat)] s2:=by
  rcases tpn l (pA C).length with⟨h0,e⟩|⟨h0,e⟩
  ·rw[e]at x0 lx2
   rw[show(pA C).length+l.size=(pA C).length by omega]at lx2 x0 ⊢
   exact cG (aZ (dX (bw (bw kv kv lx2) bU x0) rfl)) rfl
  ·rw[e]at x0 lx2
   have:((pA C).length:Nat)=(((pA C).length+l.size:Nat):Int)-(l.size:Nat):=by omega
   refine(cN (aZ (dX (bw (bw kv kv lx2) bU x0) rfl)) (a_ (bw kv (bw kv (bw (bw kv kv lx2) bU x0) (sx (zl h0))) rfl))).trans ?_
   rw[this];rfl
 refine fE ?_ rfl
 apply aA
 ·exact a_ (cw kn el rfl)
 apply aA
 ·exact a_ (cw kn es rfl)
 apply aA
 ·exact a_ kv
 apply aA
 ·exact e4
 apply aA
 ·exact a_ kv
 apply aA
 ·exact e5
 apply bO
 ·exact eX (av kv kn) (aq rfl)
 ·exact⟨_,_,rfl,rfl,_,by rw[<- tX,<- hs1,al]⟩
theorem Sw(a:List Pl)(st:List am):EW [.bl (decide ((0:Int)<(a.length:Int)))] st=.ok (.int (pZ a:Nat)) st:=by
 by_cases h:0<a.length
 ·rw[bn #[0]];unfold pZ;rw[aF h];rfl
 ·rw[aV #[0]];unfold pZ;rw[aO h];rfl
theorem BA(C:List Fm)(l r x:MT)(m:List Nat)(s:Bool)(h:#[1].size<=900)(hx:x.size<=900)(st:List am):Bi [bV #[1].po,.int (pq C l r:Nat),sH s,bV x.po] st=.ok (bV (a7 C #[4]).po) st:=by
 have z1:=fS C (.nd l r m) (by rw[MT.size_nd];omega)
 rw[MT.size_nd]at z1
 have hl:=MT.po_len #[1]
 have hxl:=MT.po_len x
 have b:=yn C l r m h st
 have c1:=CW (a:=#[1].po) (i:=(pA C).length) (j:=(pA C).length+l.size) #[0] #[0] st
 have c2:=CW (a:=#[1].po) (i:=(pA C).length+l.size) (j:=pq C l r) (by unfold pq;omega) (by unfold pq;omega) st
 have d1:(#[1].po.drop (pA C).length).take ((pA C).length+l.size-(pA C).length)=l.po:=by
  rw[de,show(MT.nd l r m).po=l.po++(r.po++[⟨l.one+2*r.one,m⟩])from al _ _ _]
  exact u_ (q:=0) rfl (by rw[MT.po_len];omega)
 have d2:(#[1].po.drop ((pA C).length+l.size)).take (pq C l r-((pA C).length+l.size))=r.po:=by
  rw[de,show pA C++(MT.nd l r m).po++pB C=(pA C++l.po)++(r.po++[⟨l.one+2*r.one,m⟩])++pB C by show pA C++(l.po++r.po++_)++_=_;simp only[al]]
  exact u_ (q:=0) (by rw[ai,MT.po_len]) (by rw[MT.po_len];unfold pq;omega)
 rw[d1]at c1
 rw[d2]at c2
 have w1:#[1].po.take (pA C).length=pA C:=by rw[de,al,gy]
 have w2:#[1].po.drop (pq C l r+1)=pB C:=by
  rw[de]
  exact gT (by rw[ai,MT.po_len,MT.size_nd];unfold pq;omega)
 have s1:=wf (a:=#[1].po) (q:=(pA C).length) #[0] st
 have s2:=wg (a:=#[1].po) (q:=pq C l r+1) (by unfold pq;omega) st
 rw[w1]at s1
 rw[w2]at s2
 have s2:wP (bV #[1].po) (some ((pq C l r:Int)+1)) none st=.ok (bV (pB C)) st:=s2
 have hB:(pB C).length<=900:=by rw[<- w2,cz];omega
 have hA:(pA C).length<=900:=by omega
 have eS:iC (sH s) (.str [108,101,102,116]) st=.ok (.bl s) st:=by cases s<;>exact dC rfl
 have e7:fO (eG (e2 iC (ag 2) (eC (.str [108,101,102,116])))) (ba 6 (ag 3)) (ba 7 (ag 3)) [some (bV #[1].po),iO (pq C l r:Nat),some (sH s),some (bV x.po),iO ((pA C).length:Nat),iO ((pA C).length+l.size:Nat),some (bV l.po),some (bV r.po),none] st=.nx [some (bV #[1].po),iO (pq C l r:Nat),some (sH s),some (bV x.po),iO ((pA C).length:Nat),iO ((pA C).length+l.size:Nat),some (bV (MT.po (if s then x else l))),some (bV (MT.po (if s then r else x))),none] st:=by
  cases s
  ·exact cG (aZ (bw kv bU eS)) (a_ kv)
  ·exact cN (aZ (bw kv bU eS)) (a_ kv)
 have hl2:(MT.po (if s then x else l)).length<=900:=by cases s<;>simp only[f7,fJ,ke,MT.po_len]<;>omega
 have hr2:(MT.po (if s then r else x)).length<=900:=by cases s<;>simp only[f7,fJ,ke,MT.po_len]<;>omega
 generalize (if s then x else l)=l' at *
 generalize (if s then r else x)=r' at *
 have t1:=Sw l'.po st
 have t2:=Sw r'.po st
 rw[MT.one_bit]at t1 t2
 refine fE ?_ (by simp only[undWs,lj,dM])
 apply aA
 ·exact wb (cw (av kv kn) b rfl) rfl
 apply aA
 ·exact a_ (mH kv (mG kv) (mG kv) c1)
 apply aA
 ·exact a_ (mH kv (mG kv) (mG kv) c2)
 apply aA
 ·exact e7
 apply aA
 ·refine a_ (w:=.tup [.int (l'.one+2*r'.one:Nat),.str m]) (eX (av ?_ (av (bw (bw kv kv (r9 (nq C l r m) st)) bU (CQ _ st)) aY)) (aq rfl))
  rw[show((l'.one+2*r'.one:Nat):Int)=(l'.one:Int)+2*(r'.one:Int) by omega]
  exact bw (cu (av (bw (cu kn (gb l'.po st)) bU (nL rfl)) aY) t1) (bw bU (cu (av (bw (cu kn (gb r'.po st)) bU (nL rfl)) aY) t2) (qI (.inl #[13]))) dY
 apply bO
 ·refine bw (bw (bw (bw (mH kv tt (mG kv) s1) kv (jx _ _ ?_ st)) kv (jx _ _ ?_ st)) (eX kn (aq rfl)) (jx _ [⟨l'.one+2*r'.one,m⟩] ?_ st)) (mH kv (mG (bw kv bU dY)) tt s2) (jx _ _ ?_ st)
  ·rw[ai];omega
  ·rw[ai,ai];omega
  ·rw[ai,ai,ai,cm];omega
  ·rw[ai,ai,ai,ai,cm];omega
 ·refine⟨_,_,rfl,?_,[],by simp⟩
  rw[de]
  show _=bV (pA C++(l'.po++r'.po++[⟨l'.one+2*r'.one,m⟩])++pB C)
  simp only[al]
end
theorem C7(h:l.Pairwise (· < ·)):gn l=l:=yW (jr l) h fun _=>jb
def xj(t:MT):Prop:=∀p∈t.po,qd p.m
theorem xj.plg{C:List Fm}{l r l' r':MT}{m':List Nat}(h:xj #[1])(hl:xj l')(hr:xj r')(hm:qd m'):xj (a7 C (.nd l' r' m')):=fun p hp=>by
 rw[de]at hp
 rcases aW.mp hp with hp|hp
 ·rcases aW.mp hp with hp|hp
  ·exact h p (by rw[de];exact b7 _ (b7 _ hp))
  ·rcases aW.mp hp with hp|hp
   ·rcases aW.mp hp with hp|hp
    ·exact hl p hp
    ·exact hr p hp
   ·rw[a8.mp hp];exact hm
 ·exact h p (by rw[de];exact aR _ hp)
theorem xj.at{C:List Fm}{l r:MT}(h:xj #[1]):xj l/\xj r/\qd m:=
  ⟨fun p hp=>h p (by rw[de];exact b7 _ (aR _ (b7 _ (b7 _ hp)))),
   fun p hp=>h p (by rw[de];exact b7 _ (aR _ (b7 _ (aR _ hp)))),
   h ⟨_,m⟩ (by rw[de];exact b7 _ (aR _ (aR _ (a8.mpr rfl))))⟩
theorem qd.ln(h:qd m):m.length<=52:=mf (h.1.imp fun h=>bf h) h.2
theorem qd.take(h:qd m)(c:Nat):qd (m.filter fun d=>d != c):=⟨h.1.sublist List.filter_sublist,fun d hd=>h.2 d (iU.mp hd).1⟩
theorem qd.put(h:qd m){c:Nat}(hc:c∈LL):qd (gn (m++[c])):=⟨jr _,fun d hd=>by
 rcases aW.mp (jb.mp hd)with hd|hd
 ·exact h.2 d hd
 ·rw[a8.mp hd];exact hc⟩
theorem qd.srt_take(h:qd m)(c:Nat):CS (m.filter fun d=>d != c)=m.filter fun d=>d != c:=by
 rw[tP ((h.take c).1.imp fun h=>bf h),C7 (h.take c).1]
theorem qd.srt_put(h:qd m)(c:Nat):CS ((m.filter fun d=>d != c)++[c])=gn (m++[c]):=by
 rw[tP]
 ·refine yW (jr _) (jr _) fun d=>?_
  rw[jb,jb,aW,aW,iU,a8,bne_iff_ne]
  by_cases e:d=c
  ·simp[e]
  ·simp[e]
 ·refine l8.mpr ⟨(h.take c).1.imp fun h=>bf h,by simp,fun d hd e he=>?_⟩
  rw[a8.mp he]
  exact bne_iff_ne.mp (iU.mp hd).2
theorem IH{p q:List Nat}{k:Bool}(h:(!(p==q))=k):Jv (.str p) (.str q) st=.ok (.bl k) st:=by rw[<- h];rfl
theorem K5{fe:FE}(T:Nat->Bool)(h:fe ρ st=.ok (.str l) st1)(hl:l.length<=10000)(h0:0<cap.length)
  (ht:∀c∈l,t ((s_ cap ρ).set 0 (some (.str [c]))) st1=.ok (T c) st1) :
  j6 cap (gB fe) (jD 0) t (ag 0) ρ st=.ok (.loc st1.length) (st1++[.lst (((l.filter T).map fun c=>[c]).map W.str)]):=by
 have cg:=CF (cap:=cap) (ρ:=ρ) (st:=st) (st1:=st1) (f:=jD 0) (t:=t) (el:=ag 0) (fun w=>match w with|.str [c]=>T c|_=>false) id (zB h) (by rw[tO];show _<=1000000;omega) trivial fun w hw=>by
  obtain⟨c,hc,rfl⟩:=c5.mp hw
  exact⟨_,rfl,ht c hc,fun _=>ju (by rw[cv (by simp[s_];exact h0)];rfl)⟩
 have e:((iG l).filter (fun w=>match w with|.str [c]=>T c|_=>false)).map id=((l.filter T).map fun c=>[c]).map W.str:=by
  rw[jh]
  unfold iG
  rw[List.filter_map,cf];rfl
 rwa[e]at cg
inductive Pn where
 |back|again
 |wh (x:MT)
 |mk (b:Bool) (q c:Nat)
 |br (q:Nat) (s:Bool) (x:MT)
def Va(b:Bool):W:=.str (if b then[112,117,116]else[116,97,107,101])
def Pn.w:Pn->W
 |back=>.tup [.str [98,97,99,107]]
 |again=>.tup [.str [97,103,97,105,110]]
 |wh x=>.tup [.str [119,104,111,108,101],bV x.po]
 |mk b q c=>.tup [Va b,.int (q:Nat),.str [c]]
 |br q s x=>.tup [.str [98,114,97,110,99,104],.int (q:Nat),sH s,bV x.po]
def Pn.ok(n:Nat):Pn->Prop
 |back=>True
 |again=>True
 |wh x=>x.size<=10/\xj x
 |mk _ q c=>q<n/\c∈LL
 |br q _ x=>q<n/\x.size<=10/\xj x
theorem wz(T:W)(x:MT)(st:List am):pd [T,(Pn.wh x).w] st=.ok (bV x.po) st:=by
 apply dQ
 apply eO
 ·exact aZ (bw kx bU (dC rfl))
 apply dF
 ·exact bw kv bU ox
 ·exact⟨_,_,rfl,rfl,rfl⟩
theorem wA(C:List Fm)(l r x:MT)(m:List Nat)(s:Bool)(h:#[1].size<=900)(hx:x.size<=900)(st:List am):pd [bV #[1].po,(Pn.br (pq C l r) s x).w] st=.ok (bV (a7 C #[4]).po) st:=by
 apply dQ
 apply bD
 ·exact aZ (bw kx bU (dC rfl))
 apply b6
 apply eO
 ·exact aZ (bw kx bU (dC rfl))
 apply dF
 ·exact cw (av kv (av kx (av kx (av kx aY)))) (BA C l r x m s h hx st) rfl
 ·exact⟨_,_,rfl,rfl,rfl⟩
def Ps(b:Bool)(m:List Nat)(c:Nat):List Nat:=if b then gn (m++[c])else m.filter fun d=>d != c
theorem wB(C:List Fm)(l r:MT)(m:List Nat)(b:Bool)(c:Nat)(h:#[1].size<=900)(hm:qd m)(st:List am):pd [bV #[1].po,(Pn.mk b (pq C l r) c).w] st=.ok (bV (a7 C (.nd l r (Ps b m c))).po) st:=by
 have Vj:=hm.ln
 have z1:=fS C (.nd l r m) (by rw[MT.size_nd];omega)
 rw[MT.size_nd]at z1
 have hl:=MT.po_len #[1]
 have w1:#[1].po.take (pq C l r)=pA C++(l.po++r.po):=by
  rw[de,show pA C++(MT.nd l r m).po++pB C=(pA C++(l.po++r.po))++(⟨l.one+2*r.one,m⟩::pB C) by show pA C++(l.po++r.po++[_])++pB C=_;simp only[al];rfl]
  exact kJ (by rw[ai,ai,MT.po_len,MT.po_len];unfold pq;omega)
 have w2:#[1].po.drop (pq C l r+1)=pB C:=by
  rw[de]
  exact gT (by rw[ai,MT.po_len,MT.size_nd];unfold pq;omega)
 have w3:∀m',(a7 C (.nd l r m')).po=(pA C++(l.po++r.po))++[⟨l.one+2*r.one,m'⟩]++pB C:=fun m'=>by
  rw[de];show pA C++(l.po++r.po++[_])++pB C=_;simp only[al]
 have hs:=ic List.length (w3 m)
 rw[ai,ai,cm]at hs
 have s1:∀st,wP (bV #[1].po) none (some (pq C l r:Int)) st=.ok (bV (pA C++(l.po++r.po))) st:=fun st=>by
  have:=wf (a:=#[1].po) (q:=pq C l r) (by unfold pq;omega) st
  rwa[w1]at this
 have s2:∀st,wP (bV #[1].po) (some ((pq C l r:Int)+1)) none st=.ok (bV (pB C)) st:=fun st=>by
  have:=wg (a:=#[1].po) (q:=pq C l r+1) (by unfold pq;omega) st
  rwa[w2]at this
 have pk:=K5 (fe:=ag 3) (t:=eG (e2 Jv (ag 0) (e2 bj (ag 1) (eI 2)))) (cap:=[none,some 1]) (ρ:=[some (bV #[1].po),some (Pn.mk b (pq C l r) c).w,iO (l.one+2*r.one:Nat),some (.str m)]) (st:=st) (st1:=st) (l:=m) (fun d=>d != c) kv #[0] #[13] fun d _=>aZ (bw kv kx (IH (by simp[bne])))
 have c1:(st++[am.lst (((m.filter fun d=>d != c).map fun c=>[c]).map W.str)])[st.length]?=some (.lst (((m.filter fun d=>d != c).map fun c=>[c]).map W.str)):=dy
 have hfl:=jK (fun d=>d != c) m
 have ap:=ml (y:=.str [c]) c1 (by rw[aD,aD];omega)
 have kL:∀(l2:List Nat) (s:List am) (x:List am),s=st++x->CS l2=Ps b m c->l2.length<64->s[st.length]?=some (.lst ((l2.map fun c=>[c]).map W.str)) ->
   j8 (zZ fun w' bp=>w'=bV (a7 C (.nd l r (Ps b m c))).po/\∃x,bp=st++x) (cS (e2 cQ (e2 cQ (qD (ag 0) gO (eW (e2 bj (ag 1) (eI 1)))) (gg (ah (gg (ah (ag 2) (ah (Jw nI (eC (.str [])) (ah (bG kj (ah (ag 3) aE)) aE)) aE))) aE))) (qD (ag 0) (eW (e2 cQ (e2 bj (ag 1) (eI 1)) (eI 1))) gO)) [some (bV #[1].po),some (Pn.mk b (pq C l r) c).w,iO (l.one+2*r.one:Nat),lO st.length] s):=fun l2 s x tX hsr hl2 hc=>by
  have sj:=D3 (fe:=ag 3) (ρ:=[some (bV #[1].po),some (Pn.mk b (pq C l r) c).w,iO (l.one+2*r.one:Nat),lO st.length]) (st:=s) kv (b8 hc) hl2
  rw[hsr]at sj
  apply bO
  ·exact bw (bw (mH kv tt (mG kx) (s1 _)) (eX (av (eX (av kv (av sj aY)) (aq rfl)) aY) (aq rfl)) (jx _ [⟨l.one+2*r.one,Ps b m c⟩] (by rw[ai,cm];omega) _)) (mH kv (mG (bw kx bU dY)) tt (s2 _)) (jx _ _ (by rw[ai,ai,cm];omega) _)
  ·exact⟨_,_,rfl,by rw[w3],_,by rw[tX,al]⟩
 refine fE ?_ (by simp only[undWs,lj,dM])
 apply bD
 ·exact aZ (bw kx bU (dC (by cases b<;>rfl)))
 apply b6
 apply bD
 ·exact aZ (bw kx bU (dC (by cases b<;>rfl)))
 apply b6
 apply aA
 ·exact wb (bw kv kx (r9 (nq C l r m) st)) rfl
 apply aA
 ·exact wb pk rfl
 cases b with
 |true=>
  apply eO
  ·exact aZ (bw kx bU (dC rfl))
  apply aA
  ·exact d7 (ik kv (du c1) (av kx aY) ap)
  ·rw[fx]
   refine kL ((m.filter fun d=>d != c)++[c]) _ _ rfl (hm.srt_put c) (by rw[ai,cm];omega) ?_
   rw[dB,bb,bb];rfl
 |false=>
  apply bD
  ·exact aZ (bw kx bU (dC rfl))
  apply b6
  exact kL (m.filter fun d=>d != c) _ _ rfl (hm.srt_take c) #[0] c1
theorem Mx{ps:List Pl}{sz:List Nat}{lk:List #[6]}(hp:pool.Nodup)(hL:∀d∈pool,d∈LL)(h:Gr ps S sz lk)(h1:S.length<=1)(hm:∀p∈ps,Fb pool p.m):∃t:MT,ps=t.po/\xj t:=by
 obtain⟨t,rfl⟩:=h.mt h1
 exact⟨t,rfl,fun p JA=>⟨(hm p JA).2.2 hp,fun d hd=>hL d ((hm p JA).2.1 d hd)⟩⟩
theorem K6(h:l.length<64):kj [.str l] st=.ok #[5] (st++[.lst ((jc (l.map fun c=>[c])).map W.str)]):=by
 unfold kj;simp only;rw[aF h]
theorem K7{s1:List am}(h:fe ρ st=.ok (.str l) s1)(hl:l.length<64) :
  Jw nI (eC (.str [])) (ah (bG kj (ah fe aE)) aE) ρ st=.ok (.str (CS l)) (s1++[.lst ((jc (l.map fun c=>[c])).map W.str)]):=by
 have hcell2:lstOf (s1++[am.lst ((jc (l.map fun c=>[c])).map W.str)]) s1.length=some ((jc (l.map fun c=>[c])).map W.str):=b8 dy
 have hj:=CD (sep:=[]) hcell2 (by rw[wa (gG _),se];show _<=1000000;simp;omega)
 exact KH bU rfl (av (cu (av h aY) (K6 hl)) aY) hj
theorem II{a b:Nat}(h:a<1000000):iE (.int (a:Nat)) (.int (b:Nat)) st=.ok (.int ((a*b:Nat):Int)) st:=by
 rw[qI (.inl ⟨by omega,by omega⟩),iX]
theorem IJ(h0:st[n]?=some (.ro (ns.map W.int))):∃(M:Mc) (r:Nat) (t:MT) (pool:List Nat),lM M r/\1<=r/\t.size<=80/\xj t/\pool.length=4/\(∀d∈pool,d∈LL)/\pool.Nodup/\Bj [.loc n] st=.ok (.tup [M.w,bV t.po,.str pool]) st:=by
 suffices hh:j8 (zZ fun w bp=>(∃x,bp=st++x)/\undWs st.length [w]=true/\∃(M:Mc) (r:Nat) (t:MT) (pool:List Nat),w=.tup [M.w,bV t.po,.str pool]/\lM M r/\1<=r/\t.size<=80/\xj t/\pool.length=4/\(∀d∈pool,d∈LL)/\pool.Nodup) (Mq ([W.loc n].map some++List.replicate (8-1) none) st) by
  obtain⟨w,⟨M,r,t,pool,rfl,h1,h2,h3,h4,h5,h6,h7⟩,e⟩:=rH hh
  exact⟨M,r,t,pool,h1,h2,h3,h4,h5,h6,h7,e⟩
 obtain⟨c0,e0⟩:=rZ h0 0
 obtain⟨ds,Vf,hdp,e1⟩:=ph c0 100003 4 #[0] st
 have e1:li [.int c0,.int 4,.int 100003] st=_:=e1
 have hsh:(st++[am.lst (ds.map W.int)])[st.length]?=some (.lst (zA ds)):=dy
 have ish:∀(i:Nat),i<4->∃d:Int,∀x:List am,bj #[5] (.int (i:Nat)) (st++[am.lst (ds.map W.int)]++x)=.ok (.int d) (st++[am.lst (ds.map W.int)]++x):=fun i hi=>by
  obtain⟨d,hd⟩:∃d,ds[i]?=some d:=⟨_,aj #[0]⟩
  exact⟨d,fun x=>u6 (cJ hsh) hd⟩
 obtain⟨d0,i0⟩:=ish 0 #[0]
 obtain⟨d1,i1⟩:=ish 1 #[0]
 obtain⟨d2,i2⟩:=ish 2 #[0]
 obtain⟨d3,i3⟩:=ish 3 #[0]
 have h1:∀x:List am,(st++[am.lst (ds.map W.int)]++x)[n]?=some (.ro (ns.map W.int)):=fun x=>cJ (cJ h0)
 generalize hs1:st++[am.lst (ds.map W.int)]=s1 at *
 have j0:bj #[5] (.int 0) s1=.ok (.int d0) s1:=by have:=i0 [];rwa[bv]at this
 have j1:bj #[5] (.int 1) s1=.ok (.int d1) s1:=by have:=i1 [];rwa[bv]at this
 have g1:s1[n]?=some (.ro (ns.map W.int)):=by have:=h1 [];rwa[bv]at this
 obtain⟨c1,e2'⟩:=rZ g1 1
 obtain⟨pool,qe,MF,z_,ep⟩:=KM c1 200017 4 #[0] s1
 have ep:x9 [.int c1,.int 4,.int 200017] s1=_:=ep
 obtain⟨a,ha,ea⟩:=iR (q:=d0) (n:=4) #[0]
 have ea:d0%4=(a:Int):=ea
 obtain⟨b,hb,eb⟩:=iR (q:=d1) (n:=3) #[0]
 have eb:d1%3=(b:Int):=eb
 apply aA
 ·exact a_ (cw (av (cw (av kv (av bU aY)) e0 rfl) (av bU (av bU aY))) e1 rfl)
 apply aA
 ·exact a_ (cw (av (cw (av kv (av bU aY)) e2' rfl) (av bU (av bU aY))) ep rfl)
 apply aA
 ·exact a_ (bw bU (bw (bw kv bU j0) bU (jv #[13])) dY)
 rw[show(1:Int)+d0%4=((1+a:Nat):Int) by rw[ea,eK];rfl]
 have hpt:(pool.take b).length<=2:=by rw[aM];omega
 have esl:qD (ag 2) gO (eW (e2 i7 (e2 bj (ag 1) (eI 1)) (eI 3))) [lO n,lO st.length,some (.str pool),iO (1+a:Nat),none,none,none,none] s1=.ok (.str (pool.take b)) s1:=by
  have c:jp pool none (some (b:Int))=pool.take b:=mY #[0]
  rw[<- c,<- eb]
  exact mH kv tt (mG (bw (bw kv bU j1) bU (jv #[13]))) (GY (by show _<=1000000;omega))
 apply aA
 ·exact a_ (K7 esl #[0])
 generalize hN:CS (pool.take b)=nm
 have hnl:nm.length<=2:=by rw[<- hN,D2];exact hpt
 generalize tX:s1++[am.lst ((jc ((pool.take b).map fun c=>[c])).map W.str)]=s2
 have i2':∀x,bj #[5] (.int 2) (s2++x)=.ok (.int d2) (s2++x):=fun x=>by rw[<- tX,al];exact i2 _
 have i3':∀x,bj #[5] (.int 3) (s2++x)=.ok (.int d3) (s2++x):=fun x=>by rw[<- tX,al];exact i3 _
 have g2:s2[n]?=some (.ro (ns.map W.int)):=by rw[<- tX];exact cJ g1
 obtain⟨nm2,SV,e4⟩:∃nm2:List Nat,((1+a)*(1+a)*2^nm2.length+(1+a)<=68/\nm2.length<=2)/\fO (eG (e2 iC (ag 3) (eI 4))) (ba 4 (qD (ag 4) gO (eW (eI 1)))) bM [lO n,lO st.length,some (.str pool),iO (1+a:Nat),some (.str nm),none,none,none] s2=.nx [lO n,lO st.length,some (.str pool),iO (1+a:Nat),some (.str nm2),none,none,none] s2:=by
  by_cases h:a=3
  ·subst h
   refine⟨jp nm none (some 1),?_,cN (aZ (bw kv bU (fX rfl))) (a_ (mH kv tt (mG bU) (GY (by show _<=1000000;omega))))⟩
   have hc:(jp nm none (some 1)).length<=1:=by
    by_cases h1:1<=nm.length
    ·rw[show jp nm none (some 1)=nm.take 1 from mY (q:=1) h1,aM];omega
    ·match nm,h1 with
     |[],_=>exact cx 1
     |_::_,h=>simp at h
   have h1:(jp nm none (some 1)).length=0\/(jp nm none (some 1)).length=1:=by omega
   rcases h1 with e|e<;>rw[e]<;>decide
  ·refine⟨nm,?_,cG (aZ (bw kv bU (fX (by rw[bz];omega)))) rfl⟩
   have h1:nm.length=0\/nm.length=1\/nm.length=2:=by omega
   have h2:a=0\/a=1\/a=2:=by omega
   rcases h1 with e|e|e<;>rw[e]<;>rcases h2 with rfl|rfl|rfl<;>decide
 apply aA
 ·exact e4
 have sh:AB (.int 1) (.int nm2.length) s2=.ok (.int (2^nm2.length:Nat)) s2:=Gi #[0]
 have x2:(1+a)*(1+a)<=4*4:=Nat.mul_le_mul #[0] #[0]
 have eE:e2 cQ (ag 3) (e2 iE (e2 iE (ag 3) (ag 3)) (e2 AB (eI 1) (bG dG (ah (ag 4) aE)))) [lO n,lO st.length,some (.str pool),iO (1+a:Nat),some (.str nm2),none,none,none] s2=.ok (.int (((1+a)+(1+a)*(1+a)*2^nm2.length:Nat):Int)) s2:=by
  rw[show(((1+a)+(1+a)*(1+a)*2^nm2.length:Nat):Int)=((1+a:Nat):Int)+(((1+a)*(1+a)*2^nm2.length:Nat):Int) by omega]
  exact bw kv (bw (bw kv kv (II #[0])) (bw bU (cu kn (y8 (by show _<=1000000;omega))) sh) (II #[0])) dY
 apply aA
 ·exact a_ eE
 generalize hE:(1+a)+(1+a)*(1+a)*2^nm2.length=E
 obtain⟨c2,e5⟩:=rZ g2 2
 obtain⟨ds2,hdl2,_,e6⟩:=ph c2 300007 E #[0] s2
 have hd2:(s2++[am.lst (ds2.map W.int)])[s2.length]?=some (.lst (zA ds2)):=dy
 obtain⟨M,hMn,hM,e7⟩:=C0 nm2 (1+a) (1+a) s2.length ds2 _ #[0] #[0] #[0] #[0] (az _) hd2 (by rw[hdl2,<- hE,Nat.mul_comm (2^_)];omega)
 have e5:nU [.loc n,.int 2] s2=_:=e5
 have e6:li [.int c2,.int E,.int 300007] s2=_:=e6
 apply aA
 ·exact a_ (cw (av kv (av kv (av kv (av (cw (av (cw (av kv (av bU aY)) e5 rfl) (av kv (av bU aY))) e6 rfl) aY)))) e7 rfl)
 generalize hs3:s2++[am.lst (ds2.map W.int)]=s3
 have i2'':bj #[5] (.int 2) s3=.ok (.int d2) s3:=by rw[<- hs3];exact i2' _
 have i3'':bj #[5] (.int 3) s3=.ok (.int d3) s3:=by rw[<- hs3];exact i3' _
 have g3:s3[n]?=some (.ro (ns.map W.int)):=by rw[<- hs3];exact cJ g2
 obtain⟨q,hq,eq⟩:=iR (q:=d2) (n:=8) #[0]
 have eq:d2%8=(q:Int):=eq
 apply aA
 ·exact a_ (bw (bw kv bU i2'') bU (jv #[13]))
 rw[eq]
 obtain⟨hi,hh,e8⟩:∃hi:Nat,hi<=40/\fO (eG (e2 iC (e2 i7 (e2 bj (ag 1) (eI 3)) (eI 4)) (eI 1))) (ba 7 (e2 i7 (e2 bj (ag 1) (eI 2)) (eI 41))) bM [lO n,lO st.length,some (.str pool),iO (1+a:Nat),some (.str nm2),iO E,some M.w,iO q] s3=.nx [lO n,lO st.length,some (.str pool),iO (1+a:Nat),some (.str nm2),iO E,some M.w,iO hi] s3:=by
  by_cases h:d3%4=1
  ·obtain⟨q2,hq2,eq2⟩:=iR (q:=d2) (n:=41) #[0]
   have eq2:d2%41=(q2:Int):=eq2
   refine⟨q2,by omega,?_⟩
   rw[<- eq2]
   exact cN (aZ (bw (bw (bw kv bU i3'') bU (jv #[13])) bU (fX (by rw[c_];exact h)))) (a_ (bw (bw kv bU i2'') bU (jv #[13])))
  ·exact⟨q,by omega,cG (aZ (bw (bw (bw kv bU i3'') bU (jv #[13])) bU (fX (by rw[bz];exact h)))) rfl⟩
 apply aA
 ·exact e8
 obtain⟨c3,e9⟩:=rZ g3 3
 obtain⟨ds3,hdl3,_,e10⟩:=ph c3 400009 hi #[0] s3
 have hd3:(s3++[am.lst (ds3.map W.int)])[s3.length]?=some (.lst (zA ds3)):=dy
 obtain⟨ps,S,sz,lk,hg,hS,hpsl,hpm,e11⟩:=D6 (pool:=pool) hd3 #[0] #[0]
 obtain⟨t,rfl,ht⟩:=Mx MF z_ hg hS hpm
 have e9:nU [.loc n,.int 3] s3=_:=e9
 have e10:li [.int c3,.int hi,.int 400009] s3=_:=e10
 rw[MT.po_len]at hpsl
 apply bO
 ·exact eX (av kv (av (cw (av (cw (av (cw (av kv (av bU aY)) e9 rfl) (av kv (av bU aY))) e10 rfl) kn) e11 rfl) kn)) (aq rfl)
 ·exact⟨_,_,rfl,⟨_,by rw[<- hs3,<- tX,<- hs1,al,al,al]⟩,by simp[undWs,HX,lj,W.und],M,1+a,t,pool,rfl,hM,by omega,by omega,ht,qe,z_,MF⟩
theorem C8(h0:st[n]?=some (.ro (ns.map W.int)))(k:Int){t:MT}(qe:pool.length=4)(z_:∀d∈pool,d∈LL)(MF:pool.Nodup)(mo:Nat)(VB:0<mo) :
  ∃p:Pn,p.ok t.size/\(p=.back\/p=.again->8<mo)/\mL [.loc n,.int k,.int (mo:Nat),bV t.po,.str pool] st=.ok p.w st:=by
 suffices hh:j8 (zZ fun w bp=>(∃x,bp=st++x)/\undWs st.length [w]=true/\∃p:Pn,w=p.w/\p.ok t.size/\(p=.back\/p=.again->8<mo)) (Mr ([W.loc n,.int k,.int (mo:Nat),bV t.po,.str pool].map some++List.replicate (9-5) none) st) by
  obtain⟨w,⟨p,rfl,h1,h2⟩,e⟩:=rH hh
  exact⟨p,h1,h2,e⟩
 obtain⟨c0,e0⟩:=rZ h0 (4+k)
 obtain⟨ds,Vf,hdp,e1⟩:=ph c0 (500009+101*k) 12 #[0] st
 have e1:li [.int c0,.int 12,.int (500009+101*k)] st=_:=e1
 have hsh:(st++[am.lst (ds.map W.int)])[st.length]?=some (.lst (zA ds)):=dy
 have ish:∀(i:Nat),i<12->∃d:Int,∀x:List am,bj #[5] (.int (i:Nat)) (st++[am.lst (ds.map W.int)]++x)=.ok (.int d) (st++[am.lst (ds.map W.int)]++x):=fun i hi=>by
  obtain⟨d,hd⟩:∃d,ds[i]?=some d:=⟨_,aj #[0]⟩
  exact⟨d,fun x=>u6 (cJ hsh) hd⟩
 obtain⟨d0,i0⟩:=ish 0 #[0]
 obtain⟨d1,i1⟩:=ish 1 #[0]
 obtain⟨d2,i2⟩:=ish 2 #[0]
 obtain⟨d3,i3⟩:=ish 3 #[0]
 obtain⟨d4,i4⟩:=ish 4 #[0]
 obtain⟨d5,i5⟩:=ish 5 #[0]
 generalize hs1:st++[am.lst (ds.map W.int)]=s1 at *
 have j5:bj #[5] (.int 5) s1=.ok (.int d5) s1:=by have:=i5 [];rwa[bv]at this
 obtain⟨m,hm,em⟩:=iR (q:=d5) (n:=6) #[0]
 have em:d5%6=(m:Int):=em
 apply aA
 ·exact a_ (cw (av (cw (av kv (av (bw bU kv dY) aY)) e0 rfl) (av bU (av (bw bU (bw bU kv (qI (.inl #[13]))) dY) aY))) e1 rfl)
 have hsl:wP #[5] (some 6) (some ((6:Int)+d5%6)) s1=.ok (.loc s1.length) (s1++[.lst (zA ((ds.drop 6).take m))]):=by
  rw[Rx (b8 hsh),em,show((6:Int)+(m:Int))=((6+m:Nat):Int)from rfl,show(6:Int)=((6:Nat):Int)from rfl,G1 (by unfold zA;rw[aD];omega) #[0]]
  unfold zA
  rw[<- my,<- mx,show 6+m-6=m by omega]
 obtain⟨ps,S,sz,lk,hg,hS,hpsl,hpm,e2'⟩:=D6 (st:=s1++[.lst (zA ((ds.drop 6).take m))]) (nd:=s1.length) (ds:=(ds.drop 6).take m) (pool:=pool) dy (by rw[aM,cz];omega) #[0]
 obtain⟨x,rfl,hx⟩:=Mx MF z_ hg hS hpm
 have hxs:x.size<=10:=by rw[MT.po_len,aM,cz]at hpsl;omega
 generalize tX:s1++[am.lst (zA ((ds.drop 6).take m))]=s2 at *
 have i0':bj #[5] (.int 0) s2=.ok (.int d0) s2:=by rw[<- tX];exact i0 _
 have i1':bj #[5] (.int 1) s2=.ok (.int d1) s2:=by rw[<- tX];exact i1 _
 have i2':bj #[5] (.int 2) s2=.ok (.int d2) s2:=by rw[<- tX];exact i2 _
 have i3':∀y,bj #[5] (.int 3) (s2++y)=.ok (.int d3) (s2++y):=fun y=>by rw[<- tX,al];exact i3 _
 have i4':∀y,bj #[5] (.int 4) (s2++y)=.ok (.int d4) (s2++y):=fun y=>by rw[<- tX,al];exact i4 _
 have hs:s2=st++([am.lst (ds.map W.int)]++[.lst (zA ((ds.drop 6).take m))]):=by rw[<- tX,<- hs1,al]
 apply aA
 ·exact a_ (cw (av (mH kv (mG bU) (mG (bw bU (bw (bw kv bU j5) bU (jv #[13])) dY)) hsl) kn) e2' rfl)
 obtain⟨kd,hkd,ek⟩:=iR (q:=d0) (n:=mo) VB
 apply aA
 ·exact a_ (bw (bw kv bU i0') kv (jv #[0]))
 rw[ek]
 have hln:dG [bV t.po] s2=.ok (.int (t.size:Nat)) s2:=by have:=gb t.po s2;rwa[MT.po_len]at this
 by_cases h8:kd=8
 ·subst h8
  apply eO
  ·exact aZ (bw kv bU (fX rfl))
  apply dF
  ·exact eX (av bU aY) (aq rfl)
  ·exact⟨_,_,rfl,⟨_,hs⟩,rfl,.back,rfl,trivial,fun _=>by omega⟩
 apply bD
 ·exact aZ (bw kv bU (fX (by rw[bz];omega)))
 apply b6
 by_cases h9:kd=9
 ·subst h9
  apply eO
  ·exact aZ (bw kv bU (fX rfl))
  apply dF
  ·exact eX (av bU aY) (aq rfl)
  ·exact⟨_,_,rfl,⟨_,hs⟩,rfl,.again,rfl,trivial,fun _=>by omega⟩
 apply bD
 ·exact aZ (bw kv bU (fX (by rw[bz];omega)))
 apply b6
 by_cases h7:kd=7\/t.size=0
 ·apply eO
  ·refine GZ (a:=decide (kd=7)) (b:=decide (t.size=0)) (aZ (bw kv bU (fX ?_))) (aZ (bw (cu kn hln) bU (fX ?_)))|>.trans ?_
   ·rw[iZ,c_,gM];omega
   ·rw[iZ,c_,gM];omega
   ·rcases h7 with h|h
    ·rw[bn h];rfl
    ·rw[bn h,Bool.or_true]
  apply dF
  ·exact eX (av bU kn) (aq rfl)
  ·exact⟨_,_,rfl,⟨_,hs⟩,by simp[undWs,lj,W.und],.wh x,rfl,⟨hxs,hx⟩,fun e=>by rcases e with e|e<;>cases e⟩
 apply bD
 ·refine mX (aZ (bw kv bU (fX ?_))) (aZ (bw (cu kn hln) bU (fX ?_)))
  ·rw[bz];omega
  ·rw[bz];omega
 apply b6
 have ht0:0<t.size:=by omega
 obtain⟨q,hq,eq⟩:=iR (q:=64*d1+d2) (n:=t.size) ht0
 apply aA
 ·exact a_ (bw (bw (bw bU (bw kv bU i1') (qI (.inl #[13]))) (bw kv bU i2') dY) (cu kn hln) (jv #[0]))
 rw[eq]
 by_cases h4:kd<4
 ·obtain⟨m3,hm3,em3⟩:=iR (q:=d3) (n:=4) #[0]
  have em3:d3%4=(m3:Int):=em3
  obtain⟨c,hc⟩:∃c,pool[m3]?=some c:=⟨_,aj #[0]⟩
  have hcL:=z_ c (cy hc)
  have hix:∀s,bj (.str pool) (.int (d3%4)) s=.ok (.str [c]) s:=fun s=>by rw[em3];exact GX (by show _<=1000000;omega) (ga hc)
  have hk2:∃b:Bool,∀s:List am,s[s2.length]?=some (.lst [.str [112,117,116],.str [116,97,107,101]])->bj (.loc s2.length) (.int ((kd:Int)/2)) s=.ok (Va b) s:=by
   obtain rfl|rfl|rfl|rfl:kd=0\/kd=1\/kd=2\/kd=3:=by omega
   ·exact⟨true,fun s hs=>jG (b8 hs) rfl⟩
   ·exact⟨true,fun s hs=>jG (b8 hs) rfl⟩
   ·exact⟨false,fun s hs=>jG (b8 hs) rfl⟩
   ·exact⟨false,fun s hs=>jG (b8 hs) rfl⟩
  obtain⟨b,hb⟩:=hk2
  apply eO
  ·exact aZ (bw kv bU (nL (bn #[0])))
  apply dF
  ·exact eX (av (bw (nK (av bU (av bU aY)) (aq rfl)) (bw kv bU (jv #[13])) (hb _ dy)) (av kv (av (bw kv (bw (bw kv bU (i3' _)) bU (jv #[13])) (hix _)) aY))) (aq rfl)
  ·exact⟨_,_,rfl,⟨_,by rw[hs,al]⟩,by cases b<;>rfl,.mk b q c,rfl,⟨hq,hcL⟩,fun e=>by rcases e with e|e<;>cases e⟩
 apply bD
 ·exact aZ (bw kv bU (nL (aV #[0])))
 apply b6
 have hk2:∃b:Bool,∀s:List am,s[s2.length]?=some (.lst [.str [108,101,102,116],.str [114,105,103,104,116]])->bj (.loc s2.length) (.int (d4%2)) s=.ok (sH b) s:=by
  obtain⟨m4,hm4,em4⟩:=iR (q:=d4) (n:=2) #[0]
  have em4:d4%2=(m4:Int):=em4
  rw[em4]
  obtain rfl|rfl:m4=0\/m4=1:=by omega
  ·exact⟨true,fun s hs=>jG (b8 hs) rfl⟩
  ·exact⟨false,fun s hs=>jG (b8 hs) rfl⟩
 obtain⟨b,hb⟩:=hk2
 apply bO
 ·exact eX (av bU (av kv (av (bw (nK (av bU (av bU aY)) (aq rfl)) (bw (bw kv bU (i4' _)) bU (jv #[13])) (hb _ dy)) kn))) (aq rfl)
 ·exact⟨_,_,rfl,⟨_,by rw[hs,al]⟩,by cases b<;>simp[undWs,lj,W.und,sH],.br q b x,rfl,⟨hq,hxs,hx⟩,fun e=>by rcases e with e|e<;>cases e⟩
section
variable{M:Mc}{z':List am}{L a b k:Nat}{t:MT}{sd tk:List Dd}{d:Dd}
theorem Ea{c:Nat}{B:Bool}(hm:(if B then jQ else jd) [.loc L,.int (q:Nat),.str [c]] z=.ok .non z')(hz:z[L]?=some (.obj "Kept" (kF M t k a b)))(ht:h_ z z' [.non]=z'):lY [.loc L,(Pn.mk B q c).w] z=.ok .non z':=by
 rw[<- ht]
 cases B with
 |true=>exact jt (mh (cN (aZ (bw kx bU (dC rfl))) (oN (ib kv hz rfl (av kx (av kx aY)) rfl hm))))
 |false=>exact jt (bS (cG (aZ (bw kx bU (dC rfl))) d8) (mh (cN (aZ (bw kx bU (dC rfl))) (oN (ib kv hz rfl (av kx (av kx aY)) rfl hm)))))
theorem My{s:Bool}{x:MT}(hm:gW [.loc L,.int (q:Nat),sH s,bV x.po] z=.ok .non z')(hz:z[L]?=some (.obj "Kept" (kF M t k a b)))(ht:h_ z z' [.non]=z'):lY [.loc L,(Pn.br q s x).w] z=.ok .non z':=by
 rw[<- ht]
 exact jt (bS (cG #[17] d8) (bS (cG #[17] d8) (mh (cN #[17] (oN (ib kv hz rfl (av kx (av kx (av kx aY))) rfl hm))))))
theorem Mz{x:MT}(hm:il [.loc L,bV x.po] z=.ok .non z')(hz:z[L]?=some (.obj "Kept" (kF M t k a b)))(ht:h_ z z' [.non]=z'):lY [.loc L,(Pn.wh x).w] z=.ok .non z':=by
 rw[<- ht]
 exact jt (bS (cG #[17] d8) (bS (cG #[17] d8) (bS (cG #[17] d8) (mh (cN #[17] (oN (ib kv hz rfl (av kx aY) rfl hm)))))))
theorem K8(hm:je [.loc L] z=.ok .non z')(hz:z[L]?=some (.obj "Kept" (kF M t k a b)))(ht:h_ z z' [.non]=z'):lY [.loc L,Pn.back.w] z=.ok .non z':=by
 rw[<- ht]
 exact jt (bS (cG #[17] d8) (bS (cG #[17] d8) (bS (cG #[17] d8) (bS (cG #[17] d8) (mh (cN #[17] (oN (ib kv hz rfl aY rfl hm))))))))
theorem IK(hm:im [.loc L] z=.ok .non z')(hz:z[L]?=some (.obj "Kept" (kF M t k a b)))(ht:h_ z z' [.non]=z'):lY [.loc L,Pn.again.w] z=.ok .non z':=by
 rw[<- ht]
 exact jt (bS (cG #[17] d8) (bS (cG #[17] d8) (bS (cG #[17] d8) (bS (cG #[17] d8) (bS (cG #[17] d8) (oN (ib kv hz rfl aY rfl hm)))))))
theorem n9.fr(h:n9 M L a b t k sd tk z)(hL:z'[L]?=z[L]?)(ha:z'[a]?=z[a]?)(hb:z'[b]?=z[b]?):n9 M L a b t k sd tk z':=⟨hL.trans h.ob,ha.trans h.s,hb.trans h.u,h.la,h.lb,h.ab,h.ls,h.lu⟩
theorem Vb(hM:lM M n)(hn:1<=n){p:Pn}(hp:p.ok t.size)(hb:p≠.back)(hA:p≠.again)(hsz:t.size<=100)(Ld:xj t):∃(t2:MT) (s:List Nat) (ws:List W),xj t2/\p.w=.tup (.str s::ws)/\0<ws.length/\(s==[98,97,99,107])=false/\(s==[97,103,97,105,110])=false/\(∀z,pd [bV t.po,p.w] z=.ok (bV t2.po) z) /\
  (t2.size<=100->∃d:Dd,d.ok/\d.a=t/\d.b=t2/\∀{L a b k:Nat} {sd tk:List Dd} {z1:List am},n9 M L a b t k sd tk z1->sd.length<1000->∃z2,lY [.loc L,p.w] z1=.ok .non z2/\n9 M L a z1.length t2 (d.ct M) (d::sd) [] z2/\K3 L a b z1 z2):=by
 cases p with
 |back=>exact absurd rfl hb
 |again=>exact absurd rfl hA
 |wh x=>
  exact⟨x,[119,104,111,108,101],_,hp.2,rfl,mT 0,rfl,rfl,fun z=>wz _ x z,fun h=>⟨.wh t x,⟨hsz,h⟩,rfl,rfl,fun hk1 hl=>by
   obtain⟨z2,e2',hk2,h3⟩:=Bz hM hn hsz h hk1 hl
   exact⟨z2,Mz e2' hk1.ob (gp _ hk1 hk2),hk2,h3⟩⟩⟩
 |mk B q c=>
  obtain⟨hq,hcL⟩:=hp
  obtain⟨C,l,r,m,rfl,rfl⟩:=p_ t q hq
  obtain⟨g1,g2,gm⟩:=Ld.at
  refine⟨a7 C (.nd l r (Ps B m c)),if B then[112,117,116]else[116,97,107,101],_,Ld.plg g1 g2 (by cases B;exact gm.take c;exact gm.put hcL),rfl,mT 1,by cases B<;>rfl,by cases B<;>rfl,fun z=>wB C l r m B c #[0] gm z,fun h=>?_⟩
  cases B with
  |true=>
   exact⟨.mk C l r m l r (gn (m++[c])) none,⟨hsz,h,fun _=>rfl,fun _=>rfl⟩,rfl,rfl,fun hk1 hl=>by
    obtain⟨z2,e2',hk2,h3⟩:=ww hM hn hsz h gm.2 (by have:=gm.ln;omega) hcL hk1 hl
    exact⟨z2,Ea (B:=true) e2' hk1.ob (gp _ hk1 hk2),hk2,h3⟩⟩
  |false=>
   exact⟨.mk C l r m l r (m.filter fun d=>d != c) none,⟨hsz,h,fun _=>rfl,fun _=>rfl⟩,rfl,rfl,fun hk1 hl=>by
    obtain⟨z2,e2',hk2,h3⟩:=uu hM hn hsz h (by have:=gm.ln;omega) hk1 hl
    exact⟨z2,Ea (B:=false) e2' hk1.ob (gp _ hk1 hk2),hk2,h3⟩⟩
 |br q s x=>
  obtain⟨hq,hx,IT⟩:=hp
  obtain⟨C,l,r,m,rfl,rfl⟩:=p_ t q hq
  obtain⟨g1,g2,gm⟩:=Ld.at
  exact⟨a7 C #[4],[98,114,97,110,99,104],_,Ld.plg (by cases s;exact g1;exact IT) (by cases s;exact IT;exact g2) gm,rfl,mT 2,rfl,rfl,fun z=>wA C l r x m s #[0] #[0] z,fun h=>⟨.mk C l r m (if s then x else l) (if s then r else x) m (some s),⟨hsz,h,fun e=>by cases s<;>first|rfl|exact absurd rfl e,fun e=>by cases s<;>first|rfl|exact absurd rfl e⟩,rfl,rfl,fun hk1 hl=>by
   obtain⟨z2,e2',hk2,h3⟩:=ym hM hn hsz #[0] h hk1 hl
   exact⟨z2,My e2' hk1.ob (gp _ hk1 hk2),hk2,h3⟩⟩⟩
end
theorem IL{k k':DK}{v:W}(h:k'≠k):j7 (kvs.map fun p=>if p.1=k then(p.1,v)else p) k'=j7 kvs k':=by
 unfold j7
 induction kvs with
 |nil=>rfl
 |cons p r ih=>
  rw[a9,fU,fU]
  by_cases e:p.1=k
  ·rw[aF e,aV (fun z=>h (by rw[<- z,e]))]
   exact ih
  ·rw[aO e]
   by_cases e2:p.1=k'
   ·rw[bn e2]
   ·rw[aV e2];exact ih
theorem IM{k k':DK}{v:W}:j7 (uF kvs k v) k'=if k'=k then some v else j7 kvs k':=by
 by_cases e:k'=k
 ·subst e
  rw[aF rfl]
  unfold uF
  by_cases h:(kvs.any fun p=>decide (p.1=k'))=true
  ·rw[aF h]
   unfold j7
   induction kvs with
   |nil=>simp at h
   |cons p r ih=>
    rw[a9,fU]
    by_cases e:p.1=k'
    ·rw[aF e,bn e];rfl
    ·rw[aO e,aV e]
     refine ih ?_
     rw[List.any_cons,aV e,Bool.false_or]at h
     exact h
  ·rw[aO h]
   unfold j7
   rw[List.find?_append]
   have:kvs.find? (fun p=>decide (p.1=k'))=none:=by
    rw[List.find?_eq_none]
    intro p hp z
    exact h (List.any_eq_true.mpr ⟨p,hp,z⟩)
   rw[this]
   simp
 ·rw[aO e]
  unfold uF
  split
  ·exact IL e
  ·unfold j7
   rw[List.find?_append]
   cases hf:kvs.find? (fun p=>decide (p.1=k'))with
   |some p=>rfl
   |none=>simp[Ne.symm e]
section
theorem Eb(h:st[n]?=some (.dct kvs)):ui st (.loc n)=some (n,kvs):=by simp only[ui,h]
theorem Pt(h:st[n]?=some (.dct kvs)):EZ st (.loc n)=some (n,kvs):=by simp only[EZ,h]
theorem Pu{v:W}(h:st[n]?=some (.dct kvs))(hl:kvs.length<mB):xU (.loc n) (.int q) v st=some (st.set n (.dct (uF kvs (.i q) v))):=by
 simp only[xU,Pt h,uh];rw[aF hl]
end
theorem BB(kvs:List (DK×W))(k:DK)(v:W):(uF kvs k v).length<=kvs.length+1:=by
 unfold uF
 split
 ·rw[aD];omega
 ·rw[ai];exact az _
def pO(kvs:List (DK×W))(k:Nat):Option Nat->List (DK×W)
 |none=>kvs
 |some j=>uF kvs (.i (j:Nat)) (.int (k:Nat))
theorem zI(kvs:List (DK×W))(k:Nat)(o:Option Nat)(j:Nat):j7 (pO kvs k o) (.i (j:Nat))=if o=some j then some (.int (k:Nat))else j7 kvs (.i (j:Nat)):=by
 cases o with
 |none=>rfl
 |some q=>
  show j7 (uF _ _ _) _=_
  rw[IM]
  by_cases h:j=q
  ·subst h;rw[aF rfl,aF rfl]
  ·rw[aO (fun e=>h (by injection e with e;omega)),aO (fun e=>h (bu e).symm)]
structure Od(lk:List #[6])(i:Nat)(kvs:List (DK×W)):Prop where
 a:∀(j:Nat) (w:W),j7 kvs (.i (j:Nat))=some w->∃(u:Nat) (x:Option Nat×Option Nat),w=.int (u:Nat)/\lk[u]?=some x/\KZ x j
 b:∀(u:Nat) (x:Option Nat×Option Nat) (j:Nat),u<i->lk[u]?=some x->KZ x j->∃w,j7 kvs (.i (j:Nat))=some w
 l:kvs.length<=2*i
theorem Od.step{lk:List #[6]}(h:Od lk i kvs)(hx:lk[i]?=some x):Od lk (i+1) (pO (pO kvs i x.1) i x.2):=by
 refine⟨fun j w e=>?_,fun u y j hu hy hk=>?_,?_⟩
 ·rw[zI,zI]at e
  by_cases h1:x.2=some j
  ·rw[aF h1]at e;cases e;exact⟨i,x,rfl,hx,.inr h1⟩
  ·rw[aO h1]at e
   by_cases h2:x.1=some j
   ·rw[aF h2]at e;cases e;exact⟨i,x,rfl,hx,.inl h2⟩
   ·rw[aO h2]at e;exact h.a j w e
 ·rw[zI,zI]
  by_cases h1:x.2=some j
  ·exact⟨_,aF h1⟩
  ·rw[aO h1]
   by_cases h2:x.1=some j
   ·exact⟨_,aF h2⟩
   ·rw[aO h2]
    by_cases hu2:u=i
    ·subst hu2;rw[hx]at hy;cases hy
     rcases hk with hk|hk
     ·exact absurd hk h2
     ·exact absurd hk h1
    ·exact h.b u y j #[0] hy hk
 ·have hl:=h.l
  have p1:∀(kvs:List (DK×W)) (k:Nat) (o:Option Nat),(pO kvs k o).length<=kvs.length+1:=fun kvs k o=>by
   cases o with
   |none=>show kvs.length<=_;omega
   |some q=>exact BB _ _ _
  have:=p1 kvs i x.1
  have:=p1 (pO kvs i x.1) i x.2
  omega
theorem Od.is{t:MT}(h:Od (t.lkT 0) t.size kvs){p:Nat}(hx:(t.lkT 0)[p]?=some x)(hk:KZ x j):j7 kvs (.i (j:Nat))=some (.int (p:Nat)):=by
 have hp:p<t.size:=by have:=(au.mp hx).1;rwa[MT.lk_len]at this
 obtain⟨w,hw⟩:=h.b p x j hp hx hk
 obtain⟨u,y,rfl,hy,hk2⟩:=h.a j w hw
 rw[hw,MT.par_one t hy hx hk2 hk]
theorem Od.top{t:MT}(h:Od (t.lkT 0) t.size kvs)(h0:0<t.size):j7 kvs (.i ((t.size-1:Nat):Int))=none:=by
 cases e:j7 kvs (.i ((t.size-1:Nat):Int))with
 |none=>rfl
 |some w=>
  obtain⟨u,y,rfl,hy,hk⟩:=h.a _ w e
  have:=MT.kid_lt t hy hk
  have hp:=(au.mp hy).1
  rw[MT.lk_len]at hp
  omega
theorem UD{f:FG}{w1 w2:W}{ρ1 ρ2 ρ3 ρ4:cM}{cZ:List am}(a1:f w1 ρ=some ρ1)(b1:body ρ1 st=.nx ρ2 st1)(a2:f w2 ρ2=some ρ3)(b2:body ρ3 st1=.nx ρ4 cZ):n6 f body none [w1,w2] ρ st=.nx ρ4 cZ:=by
 unfold n6
 rw[aF (show jq st none from trivial),a1]
 simp only[b1]
 unfold n6
 rw[aF (show jq st1 none from trivial),a2]
 simp only[b2]
 unfold n6
 rw[aF (show jq cZ none from trivial)]
theorem Ec(t:MT)(ht:t.size<=900)(st:List am):∃(kvs:List (DK×W)) (x:List am),Od (t.lkT 0) t.size kvs/\x[0]?=some (.dct kvs)/\ya [bV t.po] st=.ok #[5] (st++x):=by
 suffices hh:j8 (zZ fun w bp=>∃j x,w=.loc (st.length+j)/\bp=st++x/\j=0/\∃kvs,Od (t.lkT 0) t.size kvs/\x[0]?=some (.dct kvs)) (Ms ([bV t.po].map some++List.replicate (5-1) none) st) by
  obtain⟨j,x,⟨rfl,kvs,h1,h2⟩,e⟩:=rJ hh
  exact⟨kvs,x,h1,h2,e⟩
 obtain⟨y,⟨A,rfl⟩,el⟩:=yc t.gr0 (by rw[MT.po_len];omega) (st++[am.dct []])
 have hl:(st++[am.dct []]).length+1=st.length+2:=by simp
 rw[hl,al]at el
 apply aA
 ·exact a_ (w:=.loc st.length) rfl
 apply aA
 ·exact a_ (cw kn el rfl)
 have cl:∀c:am,(st++([c]++[am.lst A,.lst ((t.lkT 0).map gH)]))[st.length+2]?=some (.lst ((t.lkT 0).map gH)):=fun c=>by rw[hG];rfl
 have c0:∀c:am,(st++([c]++[am.lst A,.lst ((t.lkT 0).map gH)]))[st.length]?=some c:=fun c=>by rw[dB];rfl
 have cs:∀c d:am,(st++([c]++[am.lst A,.lst ((t.lkT 0).map gH)])).set st.length d=st++([d]++[am.lst A,.lst ((t.lkT 0).map gH)]):=fun c d=>by rw[fx];rfl
 have fY:dG [.loc (st.length+2)] (st++([am.dct []]++[am.lst A,.lst ((t.lkT 0).map gH)]))=.ok (.int (t.size:Nat)) (st++([am.dct []]++[am.lst A,.lst ((t.lkT 0).map gH)])):=by
  have:=lg (b8 (cl (.dct [])))
  rwa[aD,MT.lk_len]at this
 refine gi (fun i ρ bp=>∃(o3 o4:Option W) (kvs:List (DK×W)),ρ=[some (bV t.po),lO st.length,lO (st.length+2),o3,o4]/\bp=st++([am.dct kvs]++[am.lst A,.lst ((t.lkT 0).map gH)])/\Od (t.lkT 0) i kvs) (jw (av (cu kn fY) aY) #[0]) ⟨none,none,[],rfl,rfl,⟨fun j w e=>(by cases e),fun u x j h=>absurd h (iW _),az _⟩⟩ (fun _ _ _ _=>trivial) ?_ ?_
 ·rintro i w ρ bp hw ⟨o3,o4,kvs,rfl,rfl,hO⟩
  obtain⟨hi,rfl⟩:=jM hw
  rw[bX]at hi
  obtain⟨x,hx⟩:∃x,(t.lkT 0)[i]?=some x:=⟨_,aj (by rw[MT.lk_len];exact hi)⟩
  have ix:∀c,bj (.loc (st.length+2)) (.int (0+(i:Int))) (st++([c]++[am.lst A,.lst ((t.lkT 0).map gH)]))=.ok (gH x) (st++([c]++[am.lst A,.lst ((t.lkT 0).map gH)])):=fun c=>by
   rw[kW];exact jG (b8 (cl c)) (ga (by rw[aI,hx];rfl))
  have one:∀(o:Option Nat) (s:Int) (kw:List (DK×W)) ,bj (gH x) (.int s) (st++([am.dct kw]++[am.lst A,.lst ((t.lkT 0).map gH)]))=.ok (oW o) (st++([am.dct kw]++[am.lst A,.lst ((t.lkT 0).map gH)]))->kw.length<=10000 ->
    fO (eG (gA (e2 bj (e2 bj (ag 2) (ag 3)) (ag 4)))) (wY (ag 1) (e2 bj (e2 bj (ag 2) (ag 3)) (ag 4)) (ag 3) xU) bM [some (bV t.po),lO st.length,lO (st.length+2),some (.int (0+(i:Int))),iO s] (st++([am.dct kw]++[am.lst A,.lst ((t.lkT 0).map gH)]))=.nx [some (bV t.po),lO st.length,lO (st.length+2),some (.int (0+(i:Int))),iO s] (st++([am.dct (pO kw i o)]++[am.lst A,.lst ((t.lkT 0).map gH)])):=fun o s kw hs hkl=>by
   cases o with
   |none=>exact cG (aZ (dX (bw (bw kv kv (ix _)) kv hs) rfl)) d8
   |some j=>
    refine cN (aZ (dX (bw (bw kv kv (ix _)) kv hs) rfl)) ((AO kv kv (bw (bw kv kv (ix _)) kv hs) (Pu (c0 _) (by show _<1000000;omega))).trans ?_)
    rw[cs,kW];rfl
  have hl1:=hO.l
  have hl2:(pO kvs i x.1).length<=kvs.length+1:=by
   cases x.1 with
   |none=>show kvs.length<=_;omega
   |some q=>exact BB _ _ _
  refine⟨_,rfl,_,_,(y6 (u4 (eX (av bU (av bU aY)) (aq rfl)))).trans (UD (ρ1:=[some (bV t.po),lO st.length,lO (st.length+2),some (.int (0+(i:Int))),iO 0]) rfl (one x.1 0 kvs rfl #[0]) rfl (one x.2 1 _ rfl #[0])),_,_,_,rfl,rfl,hO.step hx⟩
 ·rintro ρ bp ⟨o3,o4,kvs,rfl,rfl,hO⟩
  apply bO
  ·exact ju rfl
  ·exact⟨_,_,rfl,0,_,rfl,rfl,rfl,kvs,by rw[fD,bX]at hO;exact hO,rfl⟩
section
variable{M:Mc}
theorem va{fo fk:FE}(h1:fo ρ st=.ok (.loc n) st)(h2:fk ρ st=.ok (.int (q:Nat)) st)(h:st[n]?=some (.dct kvs)):qH fo fk ρ st=.ok ((j7 kvs (.i (q:Nat))).getD .non) st:=by
 unfold qH
 rw[h1];simp only[R.bind_ok,Eb h]
 rw[h2];simp only[R.bind_ok,uh,Eb h]
theorem BC{g:FS}{k:Nat}{w:W}(h:t ρ st=.ok true st)(e:g ρ st=.rt w bp):dD t g (k+1) ρ st=.rt w bp:=by unfold dD;rw[h];simp only[R.stmt_ok,f7,e]
theorem wC(M:Mc):∀(C:List Fm) (v o:Nat),wn M C v o=wn M C o v
 |[],_,_=>rfl
 |f::C,v,o=>by
  show(if v=o then 1 else 1+_)=(if o=v then 1 else 1+_)
  by_cases h:v=o
  ·rw[aF h,aF h.symm]
  ·rw[aO h,aO (Ne.symm h),wC M C]
abbrev Tr:FT:=eG (gA (ag 2))
abbrev Ts:FS:=(aK (ba 9 (e2 cQ (ag 9) (eI 1))) (aK (fO (eG (e2 iC (e2 bj (ag 5) (ag 2)) (e2 bj (ag 6) (ag 4)))) (cS (ag 9)) bM) (aK (ba 2 (qH (ag 7) (ag 2))) (ba 4 (qH (ag 8) (ag 4))))))
abbrev C9(M:Mc)(t t':MT)(ra rb da db:Nat)(o2 o4:Option W)(c:Nat):cM:=[some M.w,some (bV t.po),o2,some (bV t'.po),o4,lO ra,lO rb,lO da,lO db,iO (c:Nat)]
theorem si(C:List Fm)(l r:MT)(m:List Nat):(#[1].rT M)[pq C l r]?=some #[14]:=by
 rw[nj]
 exact wm (rA M C) (l.rT M) (r.rT M) (rB M C _) _ (Iy M C l r)
theorem Od.par{t:MT}(h:Od (t.lkT 0) t.size kvs){f:Fm}{C:List Fm}{l r:MT}(ht:t=a7 (f::C) (.nd l r m)):∃(l2 r2:MT) (m2:List Nat),f.ap (.nd l r m)=.nd l2 r2 m2/\j7 kvs (.i ((pq (f::C) l r:Nat):Int))=some (.int (pq C l2 r2:Nat))/\sv M m2 (l2.tR M) (r2.tR M)=f.rm M #[14]:=by
 cases f with
 |lf y w=>
  refine⟨.nd l r m,y,w,rfl,?_,rfl⟩
  have hx:=qc C (.nd l r m) y w
  rw[show a7 C (.nd (.nd l r m) y w)=t from ht.symm]at hx
  exact h.is hx (.inl (by rw[MT.tp_nd,MT.size_nd];show some _=some ((pA C).length+_+_);congr 1;omega))
 |rg y w=>
  refine⟨y,.nd l r m,w,rfl,?_,rfl⟩
  have hx:=qc C y (.nd l r m) w
  rw[show a7 C (.nd y (.nd l r m) w)=t from ht.symm]at hx
  exact h.is hx (.inr (by rw[MT.tp_nd,MT.size_nd];show some _=some ((pA C++y.po).length+_+_);rw[ai,MT.po_len];congr 1;omega))
theorem Od.end{t:MT}(h:Od (t.lkT 0) t.size kvs){l r:MT}(ht:t=a7 [] (.nd l r m)):j7 kvs (.i ((pq [] l r:Nat):Int))=none:=by
 have e:pq [] l r=t.size-1:=by rw[ht];show 0+_+_=(MT.nd l r m).size-1;rw[MT.size_nd];omega
 rw[e]
 exact h.top (by rw[ht];show 0<(MT.nd l r m).size;rw[MT.size_nd];omega)
theorem BD{t t':MT}{kw Tz:List (DK×W)}{ra rb da db:Nat}(hO:Od (t.lkT 0) t.size kw)(TB:Od (t'.lkT 0) t'.size Tz)(ca:st[ra]?=some (.lst (nW (t.rT M))))(cb:st[rb]?=some (.lst (nW (t'.rT M))))(cd:st[da]?=some (.dct kw))(ce:st[db]?=some (.dct Tz)) :
  ∀(C:List Fm) (l r l' r':MT) (m m':List Nat) (c:Nat),t=a7 C (.nd l r m)->t'=a7 C (.nd l' r' m') ->
   dD Tr Ts (C.length+2) (C9 M t t' ra rb da db (iO (pq C l r:Nat)) (iO (pq C l' r':Nat)) c) st=.rt (.int ((c+wn M C (sv M m' (l'.tR M) (r'.tR M)) #[14]:Nat):Int)) st \/
   ∃o2 o4,dD Tr Ts (C.length+2) (C9 M t t' ra rb da db (iO (pq C l r:Nat)) (iO (pq C l' r':Nat)) c) st=.nx (C9 M t t' ra rb da db o2 o4 (c+wn M C (sv M m' (l'.tR M) (r'.tR M)) #[14])) st:=by
 intro C
 induction C with
 |nil=>
  intro l r l' r' m m' c ht ht'
  have a1:=si (M:=M) [] l r m
  have a2:=si (M:=M) [] l' r' m'
  rw[<- ht]at a1
  rw[<- ht']at a2
  have e9:ba 9 (e2 cQ (ag 9) (eI 1)) (C9 M t t' ra rb da db (iO (pq [] l r:Nat)) (iO (pq [] l' r':Nat)) c) st=.nx (C9 M t t' ra rb da db (iO (pq [] l r:Nat)) (iO (pq [] l' r':Nat)) (c+1)) st:=a_ (bw kv bU dY)
  have eq:∀b,decide (sv M m (l.tR M) (r.tR M)=sv M m' (l'.tR M) (r'.tR M))=b->eG (e2 iC (e2 bj (ag 5) (ag 2)) (e2 bj (ag 6) (ag 4))) (C9 M t t' ra rb da db (iO (pq [] l r:Nat)) (iO (pq [] l' r':Nat)) (c+1)) st=.ok b st:=fun b hb=>aZ (bw (bw kv kv (yd ca a1)) (bw kv kv (yd cb a2)) (fX (by rw[<- hb,iZ,c_,gM];omega)))
  by_cases h:sv M m (l.tR M) (r.tR M)=sv M m' (l'.tR M) (r'.tR M)
  ·exact .inl (BC (aZ (dX kv rfl)) (bS e9 (mh (cN (eq true (bn h)) (oN kv)))))
  ·have g1:=va (fo:=ag 7) (fk:=ag 2) (ρ:=C9 M t t' ra rb da db (iO (pq [] l r:Nat)) (iO (pq [] l' r':Nat)) (c+1)) kv kv cd
   rw[hO.end ht]at g1
   have g2:=va (fo:=ag 8) (fk:=ag 4) (ρ:=C9 M t t' ra rb da db (some .non) (iO (pq [] l' r':Nat)) (c+1)) kv kv ce
   rw[TB.end ht']at g2
   exact .inr ⟨some .non,some .non,pw (aZ (dX kv rfl)) (bS e9 (bS (cG (eq false (aV h)) d8) (bS (a_ g1) (a_ g2)))) (yl (aZ (dX kv rfl)))⟩
 |cons f C ih=>
  intro l r l' r' m m' c ht ht'
  have a1:=si (M:=M) (f::C) l r m
  have a2:=si (M:=M) (f::C) l' r' m'
  rw[<- ht]at a1
  rw[<- ht']at a2
  have e9:ba 9 (e2 cQ (ag 9) (eI 1)) (C9 M t t' ra rb da db (iO (pq (f::C) l r:Nat)) (iO (pq (f::C) l' r':Nat)) c) st=.nx (C9 M t t' ra rb da db (iO (pq (f::C) l r:Nat)) (iO (pq (f::C) l' r':Nat)) (c+1)) st:=a_ (bw kv bU dY)
  have eq:∀b,decide (sv M m (l.tR M) (r.tR M)=sv M m' (l'.tR M) (r'.tR M))=b->eG (e2 iC (e2 bj (ag 5) (ag 2)) (e2 bj (ag 6) (ag 4))) (C9 M t t' ra rb da db (iO (pq (f::C) l r:Nat)) (iO (pq (f::C) l' r':Nat)) (c+1)) st=.ok b st:=fun b hb=>aZ (bw (bw kv kv (yd ca a1)) (bw kv kv (yd cb a2)) (fX (by rw[<- hb,iZ,c_,gM];omega)))
  by_cases h:sv M m (l.tR M) (r.tR M)=sv M m' (l'.tR M) (r'.tR M)
  ·rw[show wn M (f::C) (sv M m' (l'.tR M) (r'.tR M)) #[14]=1 from aF h.symm]
   exact .inl (BC (aZ (dX kv rfl)) (bS e9 (mh (cN (eq true (bn h)) (oN kv)))))
  ·rw[show wn M (f::C) (sv M m' (l'.tR M) (r'.tR M)) #[14]=1+wn M C (f.rm M (sv M m' (l'.tR M) (r'.tR M))) (f.rm M #[14])from aO (Ne.symm h),<- j3]
   obtain⟨l2,r2,m2,p1,p2,p3⟩:=hO.par (M:=M) ht
   obtain⟨l3,r3,m3,p4,p5,p6⟩:=TB.par (M:=M) ht'
   have g1:=va (fo:=ag 7) (fk:=ag 2) (ρ:=C9 M t t' ra rb da db (iO (pq (f::C) l r:Nat)) (iO (pq (f::C) l' r':Nat)) (c+1)) kv kv cd
   rw[p2]at g1
   have g2:=va (fo:=ag 8) (fk:=ag 4) (ρ:=C9 M t t' ra rb da db (iO (pq C l2 r2:Nat)) (iO (pq (f::C) l' r':Nat)) (c+1)) kv kv ce
   rw[p5]at g2
   have cZ:=fun{rs:RS} (e:dD Tr Ts (C.length+2) (C9 M t t' ra rb da db (iO (pq C l2 r2:Nat)) (iO (pq C l3 r3:Nat)) (c+1)) st=rs)=>pw (k:=C.length+2) (t:=Tr) (g:=Ts) (ρ:=C9 M t t' ra rb da db (iO (pq (f::C) l r:Nat)) (iO (pq (f::C) l' r':Nat)) c) (aZ (dX kv rfl)) (bS e9 (bS (cG (eq false (aV h)) d8) (bS (a_ g1) (a_ g2)))) e
   have hi:=ih l2 r2 l3 r3 m2 m3 (c+1) (by rw[<- p1];exact ht) (by rw[<- p4];exact ht')
   rw[p3,p6]at hi
   rcases hi with hi|⟨o2,o4,hi⟩
   ·exact .inl (cZ hi)
   ·exact .inr ⟨o2,o4,cZ hi⟩
theorem uv(hM:lM M n)(hn:1<=n)(C:List Fm)(l r l' r':MT)(m m':List Nat)(h1:#[1].size<=900)(h2:(a7 C (.nd l' r' m')).size<=900)(st:List am) :
  yb [M.w,bV #[1].po,.int (pq C l r:Nat),bV (a7 C (.nd l' r' m')).po,.int (pq C l' r':Nat)] st=.ok (.int (wn M C (sv M m' (l'.tR M) (r'.tR M)) #[14]:Nat)) st:=by
 obtain⟨t,ht⟩:∃t,t=a7 C (.nd l r m):=⟨_,rfl⟩
 obtain⟨t',ht'⟩:∃t',t'=a7 C (.nd l' r' m'):=⟨_,rfl⟩
 rw[<- ht]at h1 ⊢
 rw[<- ht']at h2 ⊢
 obtain⟨x1,e1,y1⟩:=zE t.gr0 (by rw[MT.po_len];omega) hM hn st
 obtain⟨x2,e2',y2⟩:=zE t'.gr0 (by rw[MT.po_len];omega) hM hn (st++x1)
 obtain⟨kw,x3,hO,y3,e3⟩:=Ec t h1 (st++x1++x2)
 obtain⟨Tz,x4,TB,y4,e4⟩:=Ec t' h2 (st++x1++x2++x3)
 rw[MT.rooms_po]at y1 y2
 have ca:(st++x1++x2++x3++x4)[st.length+1]?=some (.lst (nW (t.rT M))):=cJ (cJ (cJ (by rw[hG];exact y1)))
 have cb:(st++x1++x2++x3++x4)[(st++x1).length+1]?=some (.lst (nW (t'.rT M))):=cJ (cJ (by rw[hG];exact y2))
 have cd:(st++x1++x2++x3++x4)[(st++x1++x2).length]?=some (.dct kw):=cJ (by rw[dB];exact y3)
 have ce:(st++x1++x2++x3++x4)[(st++x1++x2++x3).length]?=some (.dct Tz):=by rw[dB];exact y4
 have lp:=BD hO TB ca cb cd ce C l r l' r' m m' 0 ht ht'
 rw[iz]at lp
 have hs:st++x1++x2++x3++x4=st++(x1++(x2++(x3++x4))):=by simp only[al]
 refine fE ?_ rfl
 apply aA
 ·exact a_ (cw (av kv kn) e1 rfl)
 apply aA
 ·exact a_ (cw (av kv kn) e2' rfl)
 apply aA
 ·exact a_ (cw kn e3 rfl)
 apply aA
 ·exact a_ (cw kn e4 rfl)
 apply aA
 ·exact a_ bU
 rcases lp with lp|⟨o2,o4,lp⟩
 ·exact⟨_,_,mh (pT lp #[15]),rfl,_,hs⟩
 ·apply aA
  ·exact pT lp #[15]
  apply bO
  ·exact ju rfl
  ·exact⟨_,_,rfl,rfl,_,hs⟩
end
def rW(M:Mc)(d:Dd):W:=.tup [bV d.a.po,bV d.b.po,.int (d.ct M:Nat),.int (d.tn.ct M:Nat)]
section
variable{M:Mc}{z':List am}{L a b k:Nat}{t:MT}{sd tk:List Dd}{d:Dd}
theorem UE{p q:List Nat}{k:Bool}(h:(!(p==q))=k):Jv (.str p) (.str q) st=.ok (.bl k) st:=by rw[<- h];rfl
theorem wD(t:MT)(st:List am):dG [bV t.po] st=.ok (.int (t.size:Nat)) st:=by have:=gb t.po st;rwa[MT.po_len]at this
theorem Pv(M:Mc)(t x:MT)(st:List am):rY [M.w,bV t.po,bV x.po,(Pn.wh x).w] st=.ok (rW M (.wh t x)) st:=by
 apply dQ
 apply eO
 ·exact aZ (bw kx bU (dC rfl))
 apply dF
 ·exact eX (av kv (av kv (av (cu kn (wD x st)) (av (cu kn (wD t st)) aY)))) (aq rfl)
 ·exact⟨_,_,rfl,rfl,rfl⟩
theorem Pw(hM:lM M n)(hn:1<=n)(C:List Fm)(l r:MT)(m m':List Nat)(B:Bool)(c:Nat)(h1:#[1].size<=900)(h2:(a7 C (.nd l r m')).size<=900)(st:List am):rY [M.w,bV #[1].po,bV (a7 C (.nd l r m')).po,(Pn.mk B (pq C l r) c).w] st=.ok (rW M (.mk C l r m l r m' none)) st:=by
 have cl:=uv hM hn C l r l r m m' h1 h2 st
 have e1:(Dd.mk C l r m l r m' none).ct M=wn M C (sv M m' (l.tR M) (r.tR M)) #[14]:=iz _
 have e2':(Dd.mk C l r m l r m' none).tn.ct M=wn M C (sv M m' (l.tR M) (r.tR M)) #[14]:=(iz _).trans (wC M C _ _)
 unfold rW
 rw[e1,e2']
 apply dQ
 apply bD
 ·exact aZ (bw kx bU (dC (by cases B<;>rfl)))
 apply b6
 apply aA
 ·exact a_ kx
 apply eO
 ·exact aZ (bw kx bU (IH (by cases B<;>rfl)))
 apply pW
 apply aA
 ·exact a_ (cw (av kv (av kv (av kv (av kv kn)))) cl rfl)
 apply dF
 ·exact eX (av kv (av kv (av kv kn))) (aq rfl)
 ·exact⟨_,_,rfl,rfl,rfl⟩
theorem Px(hM:lM M n)(hn:1<=n)(C:List Fm)(l r x:MT)(m:List Nat)(s:Bool)(h1:#[1].size<=900)(h2:(a7 C #[4]).size<=900)(st:List am):rY [M.w,bV #[1].po,bV (a7 C #[4]).po,(Pn.br (pq C l r) s x).w] st=.ok (rW M (.mk C l r m (if s then x else l) (if s then r else x) m (some s))) st:=by
 have bo:=yn C l r m h1 st
 have cl:=uv hM hn C l r (if s then x else l) (if s then r else x) m m h1 h2 st
 have hq:((pq C (if s then x else l) (if s then r else x):Nat):Int)=(pq C l r:Int)+(x.size:Nat)-((if s then l.size else r.size:Nat):Int):=by
  cases s
  ·show(((pA C).length+l.size+x.size:Nat):Int)=(((pA C).length+l.size+r.size:Nat):Int)+(x.size:Nat)-(r.size:Nat);omega
  ·show(((pA C).length+x.size+r.size:Nat):Int)=(((pA C).length+l.size+r.size:Nat):Int)+(x.size:Nat)-(l.size:Nat);omega
 rw[hq]at cl
 have e1:(Dd.mk C l r m (if s then x else l) (if s then r else x) m (some s)).ct M=wn M C (sv M m ((if s then x else l).tR M) ((if s then r else x).tR M)) #[14]+x.size:=by
  have hb:Dd.bc (some s) (if s then x else l) (if s then r else x)=x.size:=by cases s<;>rfl
  show Dd.bc (some s) (if s then x else l) (if s then r else x)+_=_
  rw[hb,Nat.add_comm]
 have e2':(Dd.mk C l r m (if s then x else l) (if s then r else x) m (some s)).tn.ct M=wn M C (sv M m ((if s then x else l).tR M) ((if s then r else x).tR M)) #[14]+(if s then l.size else r.size):=by
  show(if s then l.size else r.size)+wn M C #[14] _=_
  rw[Nat.add_comm,wC]
 unfold rW
 rw[e1,e2',eK,eK]
 generalize wn M C (sv M m ((if s then x else l).tR M) ((if s then r else x).tR M)) #[14]=N at *
 have e8:fO (eG (e2 iC (e2 bj (ag 3) (eI 2)) (eC (.str [114,105,103,104,116])))) (ba 8 (e2 kQ (ag 4) (ag 7))) bM [some M.w,some (bV #[1].po),some (bV (a7 C #[4]).po),some (Pn.br (pq C l r) s x).w,iO (pq C l r:Nat),none,iO ((pA C).length:Nat),iO ((pA C).length+l.size:Nat),iO (l.size:Nat),none] st=.nx [some M.w,some (bV #[1].po),some (bV (a7 C #[4]).po),some (Pn.br (pq C l r) s x).w,iO (pq C l r:Nat),none,iO ((pA C).length:Nat),iO ((pA C).length+l.size:Nat),iO (if s then l.size else r.size:Nat),none] st:=by
  cases s with
  |true=>exact cG (aZ (bw kx bU (dC rfl))) d8
  |false=>
   have:((if false=true then l.size else r.size:Nat):Int)=(pq C l r:Int)-((pA C).length+l.size:Nat):=by show(r.size:Int)=_;unfold pq;omega
   rw[this]
   exact cN #[17] (a_ (bw kv kv rfl))
 have e7:ba 8 (e2 kQ (ag 7) (ag 6)) [some M.w,some (bV #[1].po),some (bV (a7 C #[4]).po),some (Pn.br (pq C l r) s x).w,iO (pq C l r:Nat),none,iO ((pA C).length:Nat),iO ((pA C).length+l.size:Nat),none,none] st=.nx [some M.w,some (bV #[1].po),some (bV (a7 C #[4]).po),some (Pn.br (pq C l r) s x).w,iO (pq C l r:Nat),none,iO ((pA C).length:Nat),iO ((pA C).length+l.size:Nat),iO (l.size:Nat),none] st:=by
  have:((l.size:Nat):Int)=((pA C).length+l.size:Nat)-((pA C).length:Int):=by omega
  rw[this]
  exact a_ (bw kv kv rfl)
 apply dQ
 apply bD
 ·exact aZ (bw kx bU (dC rfl))
 apply b6
 apply aA
 ·exact a_ kx
 apply bD
 ·exact aZ (bw kx bU (IH rfl))
 apply b6
 apply aA
 ·exact wb (cw (av kv kn) bo rfl) rfl
 apply aA
 ·exact e7
 apply aA
 ·exact e8
 apply aA
 ·exact a_ (cu (av kx aY) (wD x st))
 apply aA
 ·exact a_ (cw (av kv (av kv (av kv (av kv (av (bw (bw kv kv dY) kv rfl) aY))))) cl rfl)
 apply bO
 ·exact eX (av kv (av kv (av (bw kv kv dY) (av (bw kv kv dY) aY)))) (aq rfl)
 ·exact⟨_,_,rfl,rfl,rfl⟩
theorem Py(hM:lM M n)(hn:1<=n){p:Pn}(hp:p.ok t.size)(hb:p≠.back)(hA:p≠.again)(hsz:t.size<=100)(Ld:xj t):∃(t2:MT) (s:List Nat) (ws:List W),xj t2/\p.w=.tup (.str s::ws)/\(s==[98,97,99,107])=false/\(s==[97,103,97,105,110])=false/\(∀z,pd [bV t.po,p.w] z=.ok (bV t2.po) z) /\
  (t2.size<=100->∃d:Dd,d.ok/\d.a=t/\d.b=t2/\(∀z,rY [M.w,bV t.po,bV t2.po,p.w] z=.ok (rW M d) z)/\∀{L a b k:Nat} {sd tk:List Dd} {z1:List am},n9 M L a b t k sd tk z1->sd.length<1000->∃z2,lY [.loc L,p.w] z1=.ok .non z2/\n9 M L a z1.length t2 (d.ct M) (d::sd) [] z2/\K3 L a b z1 z2):=by
 cases p with
 |back=>exact absurd rfl hb
 |again=>exact absurd rfl hA
 |wh x=>
  exact⟨x,[119,104,111,108,101],_,hp.2,rfl,rfl,rfl,fun z=>wz _ x z,fun h=>⟨.wh t x,⟨hsz,h⟩,rfl,rfl,fun z=>Pv M t x z,fun hk1 hl=>by
   obtain⟨z2,e2',hk2,h3⟩:=Bz hM hn hsz h hk1 hl
   exact⟨z2,Mz e2' hk1.ob (gp _ hk1 hk2),hk2,h3⟩⟩⟩
 |mk B q c=>
  obtain⟨hq,hcL⟩:=hp
  obtain⟨C,l,r,m,rfl,rfl⟩:=p_ t q hq
  obtain⟨g1,g2,gm⟩:=Ld.at
  refine⟨a7 C (.nd l r (Ps B m c)),if B then[112,117,116]else[116,97,107,101],_,Ld.plg g1 g2 (by cases B;exact gm.take c;exact gm.put hcL),rfl,by cases B<;>rfl,by cases B<;>rfl,fun z=>wB C l r m B c #[0] gm z,fun h=>?_⟩
  have hr:=fun z=>Pw hM hn C l r m (Ps B m c) B c #[0] #[0] z
  cases B with
  |true=>
   exact⟨.mk C l r m l r (gn (m++[c])) none,⟨hsz,h,fun _=>rfl,fun _=>rfl⟩,rfl,rfl,hr,fun hk1 hl=>by
    obtain⟨z2,e2',hk2,h3⟩:=ww hM hn hsz h gm.2 (by have:=gm.ln;omega) hcL hk1 hl
    exact⟨z2,Ea (B:=true) e2' hk1.ob (gp _ hk1 hk2),hk2,h3⟩⟩
  |false=>
   exact⟨.mk C l r m l r (m.filter fun d=>d != c) none,⟨hsz,h,fun _=>rfl,fun _=>rfl⟩,rfl,rfl,hr,fun hk1 hl=>by
    obtain⟨z2,e2',hk2,h3⟩:=uu hM hn hsz h (by have:=gm.ln;omega) hk1 hl
    exact⟨z2,Ea (B:=false) e2' hk1.ob (gp _ hk1 hk2),hk2,h3⟩⟩
 |br q s x=>
  obtain⟨hq,hx,IT⟩:=hp
  obtain⟨C,l,r,m,rfl,rfl⟩:=p_ t q hq
  obtain⟨g1,g2,gm⟩:=Ld.at
  exact⟨a7 C #[4],[98,114,97,110,99,104],_,Ld.plg (by cases s;exact g1;exact IT) (by cases s;exact IT;exact g2) gm,rfl,rfl,rfl,fun z=>wA C l r x m s #[0] #[0] z,fun h=>⟨.mk C l r m (if s then x else l) (if s then r else x) m (some s),⟨hsz,h,fun e=>by cases s<;>first|rfl|exact absurd rfl e,fun e=>by cases s<;>first|rfl|exact absurd rfl e⟩,rfl,rfl,fun z=>Px hM hn C l r x m s #[0] #[0] z,fun hk1 hl=>by
   obtain⟨z2,e2',hk2,h3⟩:=ym hM hn hsz #[0] h hk1 hl
   exact⟨z2,My e2' hk1.ob (gp _ hk1 hk2),hk2,h3⟩⟩⟩
theorem uw(hz:n9 M L a b t k sd tk z):fR [.loc L] z=.ok (.int (k:Nat)) z:=by
 apply dQ
 apply bO
 ·exact fj kv hz.ob rfl
 ·exact⟨_,_,rfl,rfl,rfl⟩
theorem wE(ht:t.size<=900)(hz:n9 M L a b t k sd tk z):ut [.loc L,bV t.po,.int (k:Nat)] z=.ok (.bl true) z:=by
 apply dQ
 apply bD
 ·exact mX (xW (aZ (cw (av (ib kv hz.ob rfl aY rfl (uw hz)) kn) (Ig _ z) rfl)) rfl) (xW (aZ (cw (av (ib kv hz.ob rfl aY rfl (C6 hz)) kn) (Sv t #[0] z) rfl)) rfl)
 apply b6
 apply bO
 ·exact cw (av (ib kv hz.ob rfl aY rfl (uw hz)) kn) (Ig _ z) rfl
 ·exact⟨_,_,rfl,rfl,rfl⟩
def Vc:List Dd->MT->Prop
 |[],_=>True
 |d::sd,t=>d.b=t/\Vc sd d.a
def Vd:List Dd->MT->Prop
 |[],_=>True
 |d::tk,t=>d.a=t/\Vd tk d.b
def Ve(d:Dd):Prop:=d.ok/\xj d.a/\xj d.b
structure Lv(M:Mc)(ns:List Int)(L a b P Q:Nat)(t:MT)(k:Nat)(sd tk:List Dd)(i:Nat)(z:List am):Prop where
 ks:n9 M L a b t k sd tk z
 r0:z[0]?=some (.ro (ns.map W.int))
 pP:z[P]?=some (.lst (sd.reverse.map (rW M)))
 pQ:z[Q]?=some (.lst (tk.reverse.map (rW M)))
 cs:Vc sd t
 ct:Vd tk t
 gd:xj t
 sz:t.size<=100
 os:∀d∈sd,Ve d
 ot:∀d∈tk,Ve d
 ln:sd.length+tk.length<=i
 n0:0≠L/\0≠a/\0≠b/\0≠P/\0≠Q
 nP:P≠L/\P≠a/\P≠b/\P≠Q
 nQ:Q≠L/\Q≠a/\Q≠b
abbrev lR(M:Mc)(t:MT)(pool:List Nat)(L P Q:Nat)(o7 o8 o9 o10:Option W):cM:=[lO 0,some M.w,some (bV t.po),some (.str pool),lO L,lO P,lO Q,o7,o8,o9,o10]
theorem yo{f:FG}{body:FS}(I:Nat->cM->List am->Prop):∀{ws:List W} {ρ:cM} {st:List am} (i0:Nat),I i0 ρ st ->
  (∀i w ρ st,ws[i]?=some w->I (i0+i) ρ st->∃ρ' ρ2 cZ,f w ρ=some ρ'/\(body ρ' st=.nx ρ2 cZ\/body ρ' st=.ct ρ2 cZ)/\I (i0+i+1) ρ2 cZ) ->
  ∃ρ2 cZ,n6 f body none ws ρ st=.nx ρ2 cZ/\I (i0+ws.length) ρ2 cZ
 |[],ρ,st,i0,h0,hs=>⟨ρ,st,by unfold n6;rw[aF (show jq st none from trivial)],h0⟩
 |w::ws,ρ,st,i0,h0,hs=>by
  obtain⟨ρ',ρ2,cZ,e1,e2,h1⟩:=hs 0 w ρ st rfl h0
  obtain⟨ρ3,lZ,e3,h3⟩:=yo I (ws:=ws) (ρ:=ρ2) (st:=cZ) (i0+1) h1 fun i w ρ st hw hI=>by
   obtain⟨a,b,c,d,e,g⟩:=hs (i+1) w ρ st (by simpa using hw) (by rw[show i0+(i+1)=i0+1+i by omega];exact hI)
   exact⟨a,b,c,d,e,by rw[show i0+1+i+1=i0+(i+1)+1 by omega];exact g⟩
  refine⟨ρ3,lZ,?_,by rw[bh,show i0+(ws.length+1)=i0+1+ws.length by omega];exact h3⟩
  unfold n6
  rw[aF (show jq st none from trivial),e1]
  rcases e2 with e2|e2<;>simp only[e2]<;>exact e3
theorem tU{g g':FS}{ρ':cM}(h:g ρ st=.ct ρ' st1):aK g g' ρ st=.ct ρ' st1:=by unfold aK;rw[h]
abbrev lB:FS:=(aK (ba 8 (cq 5 mL (ah (ag 0) (ah (ag 7) (ah (eI 10) (ah (ag 2) (ah (ag 3) aE))))))) (aK (fO (eG (e2 iC (e2 bj (ag 8) (eI 0)) (eC (.str [98,97,99,107])))) (aK (fO (eG (e2 iC (bG dG (ah (ag 5) aE)) (eI 0))) vy bM) (aK (c6 (k9 bW (ag 6) (ah (k9 mE (ag 5) aE) aE))) (aK (ba 2 (e2 bj (e2 bj (ag 6) (oK (eI 1))) (eI 0))) (ba 9 (e2 bj (e2 bj (ag 6) (oK (eI 1))) (eI 3)))))) (fO (eG (e2 iC (e2 bj (ag 8) (eI 0)) (eC (.str [97,103,97,105,110])))) (aK (fO (eG (e2 iC (bG dG (ah (ag 6) aE)) (eI 0))) vy bM) (aK (c6 (k9 bW (ag 5) (ah (k9 mE (ag 6) aE) aE))) (aK (ba 2 (e2 bj (e2 bj (ag 5) (oK (eI 1))) (eI 1))) (ba 9 (e2 bj (e2 bj (ag 5) (oK (eI 1))) (eI 2)))))) (aK (ba 10 (cq 2 pd (ah (ag 2) (ah (ag 8) aE)))) (aK (fO (eG (e2 Fx (bG dG (ah (ag 10) aE)) (eI 100))) vy bM) (aK (c6 (k9 bW (ag 5) (ah (cq 4 rY (ah (ag 1) (ah (ag 2) (ah (ag 10) (ah (ag 8) aE))))) aE))) (aK (ba 6 (ki aE)) (aK (ba 2 (ag 10)) (ba 9 (e2 bj (e2 bj (ag 5) (oK (eI 1))) (eI 2)))))))))) (aK (c6 (cq 2 lY (ah (ag 4) (ah (ag 8) aE)))) (fO (Fw (eG (cq 3 ut (ah (ag 4) (ah (ag 2) (ah (ag 9) aE)))))) (cS (eC (.bl false))) bM))))
theorem C_{pool:List Nat}{P Q i:Nat}{p:Pn}{o10:Option W}(ht:t.size<=100)(hd:lY [.loc L,p.w] z=.ok .non z')(hk:n9 M L a b t k sd tk z') :
  (aK (c6 (cq 2 lY (ah (ag 4) (ah (ag 8) aE)))) (fO (Fw (eG (cq 3 ut (ah (ag 4) (ah (ag 2) (ah (ag 9) aE)))))) (cS (eC (.bl false))) bM)) (lR M t pool L P Q (iO (i:Nat)) (some p.w) (iO (k:Nat)) o10) z=.nx (lR M t pool L P Q (iO (i:Nat)) (some p.w) (iO (k:Nat)) o10) z':=
 bS (d7 (cw (av kv kn) hd rfl)) (cG (xW (aZ (cw (av kv (av kv kn)) (wE #[0] hk) rfl)) rfl) d8)
def Go(M:Mc)(ns:List Int)(pool:List Nat)(L P i:Nat)(r:RS):Prop:=
 ∃(t:MT) (a b Q k:Nat) (sd tk:List Dd) (o7 o8 o9 o10:Option W) (z2:List am),(r=.nx (lR M t pool L P Q o7 o8 o9 o10) z2\/r=.ct (lR M t pool L P Q o7 o8 o9 o10) z2)/\Lv M ns L a b P Q t k sd tk i z2
theorem Lv.up{P Q:Nat}(h:Lv M ns L a b P Q t k sd tk i z)(hj:i<=j):Lv M ns L a b P Q t k sd tk j z:={ h with ln:=aN h.ln hj }
theorem sk{w:W}(h:z[n]?=some (.lst (ws++[w]))):bj (.loc n) (.int (-1)) z=.ok w z:=by
 refine jG (b8 h) (q:=-(((0:Nat):Int)+1)) (y_ ?_)
 rw[List.reverse_append];rfl
theorem Ff(hM:lM M n)(hn:1<=n){P Q:Nat}{o8 o9 o10:Option W}(hv:Lv M ns L a b P Q t k sd tk i z)(hi:i<100)(hp:mL [.loc 0,.int (i:Nat),.int 10,bV t.po,.str pool] z=.ok Pn.back.w z):Go M ns pool L P (i+1) (lB #[23] z):=by
 have e1:ba 8 (cq 5 mL (ah (ag 0) (ah (ag 7) (ah (eI 10) (ah (ag 2) (ah (ag 3) aE)))))) #[23] z=.nx (lR M t pool L P Q (iO (i:Nat)) (some Pn.back.w) o9 o10) z:=a_ (cw (av kv (av kv (av bU (av kv kn)))) hp rfl)
 have pP:=hv.pP
 have pQ:=hv.pQ
 have hln:=hv.ln
 cases sd with
 |nil=>exact⟨t,a,b,Q,k,[],tk,_,_,_,_,z,.inr (bS e1 (tU (cN (aZ (bw kx bU (dC rfl))) (tU (cN (aZ (bw (cu kn (lg (b8 pP))) bU (fX rfl))) rfl))))),hv.up (by omega)⟩
 |cons d sd=>
  rw[bh]at hln
  obtain⟨c1,c2⟩:=hv.cs
  subst c1
  rw[bA,bb]at pP
  have pQ2:(z.set P (.lst (sd.reverse.map (rW M))))[Q]?=some (.lst (tk.reverse.map (rW M))):=by rw[bI hv.nP.2.2.2];exact pQ
  have hl0:∀x:List W,x.length=sd.length+1->((x.length:Int)==0)=false:=fun x hx=>by rw[bz];omega
  have hk1:n9 M L a b d.b k (d::sd) tk ((z.set P (.lst (sd.reverse.map (rW M)))).set Q (.lst (tk.reverse.map (rW M)++[rW M d]))):=hv.ks.fr (by rw[bI hv.nQ.1,bI hv.nP.1]) (by rw[bI hv.nQ.2.1,bI hv.nP.2.1]) (by rw[bI hv.nQ.2.2,bI hv.nP.2.2.1])
  obtain⟨z2,e2',hk2,h3,hzl⟩:=K2 hM hn (hv.os d bC).1 hk1 #[0]
  have oD:=hv.os d bC
  have qb:((z.set P (.lst (sd.reverse.map (rW M)))).set Q (.lst (tk.reverse.map (rW M)++[rW M d])))[Q]?=some (.lst (tk.reverse.map (rW M)++[rW M d])):=d_ pQ2
  have qa:((z.set P (.lst (sd.reverse.map (rW M)))).set Q (.lst (tk.reverse.map (rW M)++[rW M d])))[P]?=some (.lst (sd.reverse.map (rW M))):=by rw[bI (Ne.symm hv.nP.2.2.2)];exact d_ pP
  have q0:((z.set P (.lst (sd.reverse.map (rW M)))).set Q (.lst (tk.reverse.map (rW M)++[rW M d])))[0]?=some (.ro (ns.map W.int)):=by rw[bI (Ne.symm hv.n0.2.2.2.2),bI (Ne.symm hv.n0.2.2.2.1)];exact hv.r0
  have f:=C_ (pool:=pool) (P:=P) (Q:=Q) (i:=i) (o10:=o10) (Dd.ok_a oD.1) (K8 e2' hk1.ob (mO hzl)) hk2
  have eB:lB (lR M d.b pool L P Q (iO (i:Nat)) o8 o9 o10) z=.nx (lR M d.a pool L P Q (iO (i:Nat)) (some Pn.back.w) (iO (d.tn.ct M:Nat)) o10) z2:=bS e1 (bS (cN #[17] (bS (cG (aZ (bw (cu kn (lg (b8 pP))) bU (fX (hl0 _ #[15])))) d8) (bS (d7 (ik kv (du pQ) (av (ik kv (du pP) aY (vM pP)) aY) (ml pQ2 (by simp;omega)))) (bS (a_ (bw (bw kv (rF bU) (sk qb)) bU ox)) (a_ (bw (bw kv (rF bU) (sk qb)) bU ox)))))) f)
  refine⟨d.a,a,b,Q,d.tn.ct M,sd,d::tk,_,_,_,_,z2,.inl eB,?_⟩
  exact⟨hk2,(h3.2 0 (fP q0) hv.n0.1 hv.n0.2.1 hv.n0.2.2.1).trans q0,(h3.2 P (fP qa) hv.nP.1 hv.nP.2.1 hv.nP.2.2.1).trans qa,(h3.2 Q (fP qb) hv.nQ.1 hv.nQ.2.1 hv.nQ.2.2).trans (qb.trans (by rw[bA,bb];rfl)),c2,⟨rfl,hv.ct⟩,oD.2.1,Dd.ok_a oD.1,fun x hx=>hv.os x (aS _ hx),fun x hx=>by
   rcases aT.mp hx with rfl|hx
   ·exact oD
   ·exact hv.ot x hx,by rw[bh];omega,hv.n0,hv.nP,hv.nQ⟩
theorem Da(hM:lM M n)(hn:1<=n){P Q:Nat}{o8 o9 o10:Option W}(hv:Lv M ns L a b P Q t k sd tk i z)(hi:i<100)(hp:mL [.loc 0,.int (i:Nat),.int 10,bV t.po,.str pool] z=.ok Pn.again.w z):Go M ns pool L P (i+1) (lB #[23] z):=by
 have e1:ba 8 (cq 5 mL (ah (ag 0) (ah (ag 7) (ah (eI 10) (ah (ag 2) (ah (ag 3) aE)))))) #[23] z=.nx (lR M t pool L P Q (iO (i:Nat)) (some Pn.again.w) o9 o10) z:=a_ (cw (av kv (av kv (av bU (av kv kn)))) hp rfl)
 have pP:=hv.pP
 have pQ:=hv.pQ
 have hln:=hv.ln
 cases tk with
 |nil=>exact⟨t,a,b,Q,k,sd,[],_,_,_,_,z,.inr (bS e1 (tU (cG (aZ (bw kx bU (dC rfl))) (cN (aZ (bw kx bU (dC rfl))) (tU (cN (aZ (bw (cu kn (lg (b8 pQ))) bU (fX rfl))) rfl)))))),hv.up (by omega)⟩
 |cons d tk=>
  rw[bh]at hln
  obtain⟨c1,c2⟩:=hv.ct
  subst c1
  rw[bA,bb]at pQ
  have pP2:(z.set Q (.lst (tk.reverse.map (rW M))))[P]?=some (.lst (sd.reverse.map (rW M))):=by rw[bI (Ne.symm hv.nP.2.2.2)];exact pP
  have hl0:∀x:List W,x.length=tk.length+1->((x.length:Int)==0)=false:=fun x hx=>by rw[bz];omega
  have hk1:n9 M L a b d.a k sd (d::tk) ((z.set Q (.lst (tk.reverse.map (rW M)))).set P #[16]):=hv.ks.fr (by rw[bI hv.nP.1,bI hv.nQ.1]) (by rw[bI hv.nP.2.1,bI hv.nQ.2.1]) (by rw[bI hv.nP.2.2.1,bI hv.nQ.2.2])
  have oD:=hv.ot d bC
  obtain⟨z2,e2',hk2,h3,hzl⟩:=IG hM hn oD.1 hk1 #[0]
  have qb:((z.set Q (.lst (tk.reverse.map (rW M)))).set P #[16])[P]?=some #[16]:=d_ pP2
  have qa:((z.set Q (.lst (tk.reverse.map (rW M)))).set P #[16])[Q]?=some (.lst (tk.reverse.map (rW M))):=by rw[bI hv.nP.2.2.2];exact d_ pQ
  have q0:((z.set Q (.lst (tk.reverse.map (rW M)))).set P #[16])[0]?=some (.ro (ns.map W.int)):=by rw[bI (Ne.symm hv.n0.2.2.2.1),bI (Ne.symm hv.n0.2.2.2.2)];exact hv.r0
  have f:=C_ (pool:=pool) (P:=P) (Q:=Q) (i:=i) (o10:=o10) (Dd.ok_b oD.1) (IK e2' hk1.ob (mO hzl)) hk2
  have eB:lB (lR M d.a pool L P Q (iO (i:Nat)) o8 o9 o10) z=.nx (lR M d.b pool L P Q (iO (i:Nat)) (some Pn.again.w) (iO (d.ct M:Nat)) o10) z2:=bS e1 (bS (cG #[17] (cN #[17] (bS (cG (aZ (bw (cu kn (lg (b8 pQ))) bU (fX (hl0 _ #[15])))) d8) (bS (d7 (ik kv (du pP) (av (ik kv (du pQ) aY (vM pQ)) aY) (ml pP2 (by simp;omega)))) (bS (a_ (bw (bw kv (rF bU) (sk qb)) bU ox)) (a_ (bw (bw kv (rF bU) (sk qb)) bU ox))))))) f)
  refine⟨d.b,a,b,Q,d.ct M,d::sd,tk,_,_,_,_,z2,.inl eB,?_⟩
  exact⟨hk2,(h3.2 0 (fP q0) hv.n0.1 hv.n0.2.1 hv.n0.2.2.1).trans q0,(h3.2 P (fP qb) hv.nP.1 hv.nP.2.1 hv.nP.2.2.1).trans (qb.trans (by rw[bA,bb];rfl)),(h3.2 Q (fP qa) hv.nQ.1 hv.nQ.2.1 hv.nQ.2.2).trans qa,⟨rfl,hv.cs⟩,c2,oD.2.2,Dd.ok_b oD.1,fun x hx=>by
   rcases aT.mp hx with rfl|hx
   ·exact oD
   ·exact hv.os x hx,fun x hx=>hv.ot x (aS _ hx),by rw[bh];omega,hv.n0,hv.nP,hv.nQ⟩
theorem Fg(hM:lM M n)(hn:1<=n){P Q:Nat}{o8 o9 o10:Option W}(hv:Lv M ns L a b P Q t k sd tk i z)(hi:i<100){p:Pn}(hp:p.ok t.size)(hb:p≠.back)(hA:p≠.again)(ep:mL [.loc 0,.int (i:Nat),.int 10,bV t.po,.str pool] z=.ok p.w z):Go M ns pool L P (i+1) (lB #[23] z):=by
 obtain⟨t2,s,ws,g2,hw,n1,n2,hc,hd⟩:=Py hM hn hp hb hA hv.sz hv.gd
 have e1:ba 8 (cq 5 mL (ah (ag 0) (ah (ag 7) (ah (eI 10) (ah (ag 2) (ah (ag 3) aE)))))) #[23] z=.nx (lR M t pool L P Q (iO (i:Nat)) (some p.w) o9 o10) z:=a_ (cw (av kv (av kv (av bU (av kv kn)))) ep rfl)
 have pP:=hv.pP
 have pQ:=hv.pQ
 have hln:=hv.ln
 have ix:∀z:List am,bj p.w (.int 0) z=.ok (.str s) z:=fun z=>by rw[hw];exact mI (ga (q:=0) rfl)
 have e10:ba 10 (cq 2 pd (ah (ag 2) (ah (ag 8) aE))) (lR M t pool L P Q (iO (i:Nat)) (some p.w) o9 o10) z=.nx (lR M t pool L P Q (iO (i:Nat)) (some p.w) o9 (some (bV t2.po))) z:=a_ (cw (av kv kn) (hc z) rfl)
 have hl2:=wD t2 z
 by_cases h:t2.size<=100
 ·obtain⟨d,dk,da,db,hr,hdo⟩:=hd h
  have lP:=fP pP
  have lQ:=fP pQ
  have lL:=fP hv.ks.ob
  have lA:=fP hv.ks.s
  have lB':=fP hv.ks.u
  have l0:=fP hv.r0
  have zl:(z.set P #[16]).length=z.length:=by simp
  have hk1:n9 M L a b t k sd tk ((z.set P #[16])++[.lst []]):=hv.ks.fr (by rw[aL #[0],bI hv.nP.1]) (by rw[aL #[0],bI hv.nP.2.1]) (by rw[aL #[0],bI hv.nP.2.2.1])
  obtain⟨z2,ed,hk2,h3⟩:=hdo hk1 #[0]
  have f:=C_ (pool:=pool) (P:=P) (Q:=z.length) (i:=i) (o10:=some (bV t2.po)) h ed hk2
  have q0:((z.set P #[16])++[.lst []])[0]?=some (.ro (ns.map W.int)):=by rw[aL #[0],bI (Ne.symm hv.n0.2.2.2.1)];exact hv.r0
  have qP:((z.set P #[16])++[.lst []])[P]?=some #[16]:=by rw[aL #[0]];exact d_ pP
  have qQ:((z.set P #[16])++[.lst []])[z.length]?=some (.lst []):=by rw[<- zl];exact dy
  have eB:lB #[23] z=.nx (lR M t2 pool L P z.length (iO (i:Nat)) (some p.w) (iO (d.ct M:Nat)) (some (bV t2.po))) z2:=by
   refine bS e1 (bS (cG (aZ (bw (bw kv bU (ix _)) bU (dC n1))) (cG (aZ (bw (bw kv bU (ix _)) bU (dC n2))) (bS e10 (bS (cG (aZ (bw (cu kn hl2) bU (nL (aV #[0])))) d8) (bS (d7 (ik kv (du pP) (av (cw (av kv (av kv (av kv kn))) (hr z) rfl) aY) (ml pP (by simp;omega)))) (bS (a_ (nK aY (aq rfl))) (bS (a_ kv) (a_ (bw (bw kv (rF bU) (sk qP)) bU ox))))))))) ?_)
   rw[zl]
   exact f
  have zl2:((z.set P #[16])++[am.lst []]).length=z.length+1:=by simp
  rw[zl2]at hk2
  refine⟨t2,a,z.length+1,z.length,d.ct M,d::sd,[],_,_,_,_,z2,.inl eB,?_⟩
  exact⟨hk2,(h3.2 0 (fP q0) hv.n0.1 hv.n0.2.1 hv.n0.2.2.1).trans q0,(h3.2 P (fP qP) hv.nP.1 hv.nP.2.1 hv.nP.2.2.1).trans (qP.trans (by rw[bA,bb];rfl)),(h3.2 z.length #[0] #[0] #[0] #[0]).trans qQ,⟨db,by rw[da];exact hv.cs⟩,trivial,g2,h,fun x hx=>by
   rcases aT.mp hx with rfl|hx
   ·exact⟨dk,by rw[da];exact hv.gd,by rw[db];exact g2⟩
   ·exact hv.os x hx,fun x hx=>(by cases hx),by rw[bh,kG];omega,⟨hv.n0.1,hv.n0.2.1,by omega,hv.n0.2.2.2.1,by omega⟩,⟨hv.nP.1,hv.nP.2.1,by omega,by omega⟩,⟨by omega,by omega,by omega⟩⟩
 ·have eB:lB #[23] z=.ct (lR M t pool L P Q (iO (i:Nat)) (some p.w) o9 (some (bV t2.po))) z:=bS e1 (tU (cG (aZ (bw (bw kv bU (ix _)) bU (dC n1))) (cG (aZ (bw (bw kv bU (ix _)) bU (dC n2))) (bS e10 (tU (cN (aZ (bw (cu kn hl2) bU (nL (bn #[0])))) rfl))))))
  exact⟨t,a,b,Q,k,sd,tk,_,_,_,_,z,.inr eB,hv.up #[0]⟩
theorem K9(hM:lM M n)(hn:1<=n)(qe:pool.length=4)(z_:∀d∈pool,d∈LL)(MF:pool.Nodup){P Q:Nat}{o8 o9 o10:Option W}(hv:Lv M ns L a b P Q t k sd tk i z)(hi:i<100):Go M ns pool L P (i+1) (lB #[23] z):=by
 obtain⟨p,hp,_,e⟩:=C8 hv.r0 (i:Nat) (t:=t) qe z_ MF 10 #[13]
 have e:mL [.loc 0,.int (i:Nat),.int 10,bV t.po,.str pool] z=.ok p.w z:=e
 by_cases hb:p=.back
 ·subst hb;exact Ff hM hn hv hi e
 ·by_cases hA:p=.again
  ·subst hA;exact Da hM hn hv hi e
  ·exact Fg hM hn hv hi hp hb hA e
end
theorem law_ok:Ly f_q45:=by
 intro ns UF
 suffices hh:j8 (zZ fun w bp=>w=.bl true) (Mt ([W.loc 0].map some++List.replicate (11-1) none) [.ro (ns.map W.int)]) by
  obtain⟨w,bp,e,rfl⟩:=hh
  exact⟨_,jt e⟩
 have h0:([am.ro (ns.map W.int)]:List am)[0]?=some (.ro (ns.map W.int)):=rfl
 have hl0:([am.ro (ns.map W.int)]:List am).length=1:=rfl
 generalize hs0:([am.ro (ns.map W.int)]:List am)=s0 at h0 hl0
 obtain⟨M,n,t,pool,hM,hn,hts,htg,qe,z_,MF,es⟩:=IJ h0
 apply aA
 ·exact wb (cw kn es rfl) rfl
 obtain⟨z1,ei,hk,BH⟩:=K4 hM hn (t:=t) #[0] s0
 rw[hl0]at hk
 apply aA
 ·exact a_ (Pq (av kv kn) rfl ei)
 rw[hl0]
 have r0:z1[0]?=some (.ro (ns.map W.int)):=pre_get BH h0
 apply bD
 ·exact xW (aZ (cw (av kv (av kv (av (cu kn (wD t z1)) aY))) (wE #[0] hk) rfl)) rfl
 apply b6
 apply aA
 ·exact a_ (nK aY (aq rfl))
 apply aA
 ·exact a_ (nK aY (aq rfl))
 have l1:=fP hk.u
 have pP:(z1++[am.lst []]++[.lst []])[z1.length]?=some (.lst []):=cJ dy
 have pQ:(z1++[am.lst []]++[.lst []])[(z1++[am.lst []]).length]?=some (.lst []):=dy
 have lQ:(z1++[am.lst []]).length=z1.length+1:=by simp
 have r0':(z1++[am.lst []]++[.lst []])[0]?=some (.ro (ns.map W.int)):=cJ (cJ r0)
 rw[lQ]at pQ ⊢
 have hv:Lv M ns 1 2 3 z1.length (z1.length+1) t t.size [] [] 0 (z1++[am.lst []]++[.lst []]):=⟨hk.app.app,r0',pP,pQ,trivial,trivial,htg,by omega,fun _ h=>(by cases h),fun _ h=>(by cases h),az _,⟨by omega,by omega,by omega,by omega,by omega⟩,⟨by omega,by omega,by omega,by omega⟩,⟨by omega,by omega,by omega⟩⟩
 generalize z1.length=P at *
 generalize z1++[am.lst []]++[.lst []]=z at *
 have hrange:∃m:Nat,m<=59/\dP (ah (bG EV (ah (eI 59) (ah (bG Cr (ah (eI 3) (ah (e2 kQ (bG dG (ah (ag 0) aE)) (eI 4)) aE))) aE))) aE) (lR M t pool 1 P (P+1) none none none none) z=.ok (gF 0 m,none) z:=by
  have hln:=lg (rG r0')
  have a1:ah (bG EV (ah (eI 59) (ah (bG Cr (ah (eI 3) (ah (e2 kQ (bG dG (ah (ag 0) aE)) (eI 4)) aE))) aE))) aE (lR M t pool 1 P (P+1) none none none none) z=.ok [.int (if (if ((ns.map W.int).length:Int)-4>3 then((ns.map W.int).length:Int)-4 else 3)<59 then(if ((ns.map W.int).length:Int)-4>3 then((ns.map W.int).length:Int)-4 else 3)else 59)] z:=
   av (cu (av bU (av (cu (av bU (av (bw (cu kn hln) bU rfl) aY)) Rz) aY)) rfl) aY
  generalize hq:(if (if ((ns.map W.int).length:Int)-4>3 then((ns.map W.int).length:Int)-4 else 3)<59 then(if ((ns.map W.int).length:Int)-4>3 then((ns.map W.int).length:Int)-4 else 3)else 59)=q at a1
  have hq1:0<=q/\q<=59:=by rw[<- hq];split<;>split<;>omega
  exact⟨q.toNat,by omega,jw a1 #[0]⟩
 obtain⟨m,hm,er⟩:=hrange
 obtain⟨ρ2,cZ,e2',t',a,b,Q,k,sd,tk,o7,o8,o9,o10,rfl,hv2⟩:=yo (f:=jD 7) (body:=lB) (fun i ρ st=>∃t a b Q k sd tk o7 o8 o9 o10,ρ=lR M t pool 1 P Q o7 o8 o9 o10/\Lv M ns 1 a b P Q t k sd tk i st) (ws:=gF 0 m) (ρ:=lR M t pool 1 P (P+1) none none none none) (st:=z) 0 ⟨t,2,3,P+1,t.size,[],[],none,none,none,none,rfl,hv⟩ fun i w ρ st hw hI=>by
  obtain⟨t',a,b,Q,k,sd,tk,o7,o8,o9,o10,rfl,Tw⟩:=hI
  obtain⟨hi,rfl⟩:=jM hw
  rw[iz]at Tw ⊢
  obtain⟨t2,a2,b2,Q2,k2,sd2,tb2,p7,p8,p9,p10,z2,er2,hv2⟩:=K9 (o8:=o8) (o9:=o9) (o10:=o10) hM hn qe z_ MF Tw #[0]
  refine⟨lR M t' pool 1 P Q (iO (i:Nat)) o8 o9 o10,lR M t2 pool 1 P Q2 p7 p8 p9 p10,z2,by rw[kW];rfl,er2,t2,a2,b2,Q2,k2,sd2,tb2,p7,p8,p9,p10,rfl,hv2⟩
 apply aA
 ·exact(y6 er).trans e2'
 apply bO
 ·exact bU
 ·exact⟨_,_,rfl,rfl⟩
theorem all_mk{l:PySem.W.OpenLaw}{w:World}{fa:Addr}(X:K.In h)(G:h.Ns mainGlobals mg)(VD:mg "law"=some (.ref fa))
  {Df:Addr} {PH Jc:Option Addr} {PU:Array (Option Value)} {PM IP Jo Jh Dn IX:Value} {fF:Addr} {tW:Addr} {qS:Addr} {ms:Addr} {xo:Tok}
  (Dm:DefIn K "in_order" Oa)
  (BG:DefIn K "letter_of" Ob)
  (De:DefIn K "has_left" Oc)
  (BS:DefIn K "has_right" Oe)
  (Dj:DefIn K "links_of" Of)
  (Jf:DefIn K "ups_of" Og)
  (Fs:DefIn K "up_from" Oh)
  (Do:DefIn K "sizes_of" Oi)
  (xq:DefIn K "check_place" Oj)
  (zT:DefIn K "check_size" G6)
  (Fp:DefIn K "part_at" G7)
  (xp:DefIn K "branches_at" G8)
  (Dp:DefIn K "with_top" G9)
  (zK:DefIn K "branch_put" G_)
  (zR:DefIn K "room_below" G')
  (Fq:DefIn K "room_at" Ha)
  (Db:DefIn K "rooms_of" Hc)
  (IQ:DefIn K "turned" Hd)
  (zQ:DefIn K "with_marks" Hf)
  (wJ:DefIn K "branch_rooms" Hg)
  (Ft:DefIn K "climbed" Hh)
  (BL:DefIn K "_law_cell" Hi)
  (zM:DefIn K "_law_mixed" Hj)
  (zW:DefIn K "_law_draws" Hl)
  (BP:DefIn K "_law_same" Hm)
  (BQ:DefIn K "_law_pool" Hr)
  (zX:DefIn K "_law_marks" Hs)
  (BR:DefIn K "_law_tree" Ht)
  (zL:DefIn K "_law_links" Hu)
  (wH:DefIn K "_law_machine" Hv)
  (xl:DefIn K "_law_letter" Hw)
  (Dk:DefIn K "_law_run" Hy)
  (zV:DefIn K "_law_sizes" Hz)
  (xk:DefIn K "_law_bounds" HA)
  (uP:DefIn K "_law_branched" HB)
  (zJ:DefIn K "_law_start" HC)
  (wK:DefIn K "_law_planned" HD)
  (wN:DefIn K "_law_changed" HE)
  (zO:DefIn K "_law_doing" HF)
  (BJ:DefIn K "_law_over" HG)
  (wM:DefIn K "_law_climbed" HH)
  (uT:DefIn K "_law_deed_row" HI)
  (wO:DefIn K "_law_counted" HJ)
  (MA:nsIn K mainGlobals "law"=some (some (.ref Df)))
  (Sz:K.lookup Df=some ⟨PM,PH,.func (fnOf "law" "law" (ii rQ) (gE rQ) (aQ rQ) .none IP Jo Jh Jc Dn IX),PU⟩)
  (Fk:codeIn K Dn "law"=true)
  (S6:keepIn K (.ref Df)=true)
  (jR:nsIn K mainGlobals "Kept"=some (some (.ref fF)))
  (cl_Kept:L2.Cls K fF)
  (uU:findIn K (.ref fF) "machine"=some none)
  (zY:findIn K (.ref fF) "many"=some none)
  (xr:findIn K (.ref fF) "rooms"=some none)
  (tV:findIn K (.ref fF) "standing"=some none)
  (qW:findIn K (.ref fF) "taken_back"=some none)
  (zN:findIn K (.ref fF) "tree"=some none)
  (Lc:makesIn K fF=true)
  (La:keepIn K (.ref fF)=true)
  (dm_Kept___init__:DefM K fF "Kept.__init__" "__init__" kr)
  (dm_Kept_carry_out:DefM K fF "Kept.carry_out" "carry_out" jN)
  (dm_Kept_do_deed:DefM K fF "Kept.do_deed" "do_deed" lh)
  (dm_Kept_mark_deed:DefM K fF "Kept.mark_deed" "mark_deed" jO)
  (dm_Kept_put:DefM K fF "Kept.put" "put" qK)
  (dm_Kept_take:DefM K fF "Kept.take" "take" oS)
  (dm_Kept_branch:DefM K fF "Kept.branch" "branch" mi)
  (dm_Kept_whole:DefM K fF "Kept.whole" "whole" m6)
  (dm_Kept_back:DefM K fF "Kept.back" "back" oU)
  (dm_Kept_again:DefM K fF "Kept.again" "again" m7)
  (dm_Kept_tree_now:DefM K fF "Kept.tree_now" "tree_now" ku)
  (dm_Kept_reckoned:DefM K fF "Kept.reckoned" "reckoned" ky)
  (Fj:nsIn K mainGlobals "NoPlace"=some (some (.ref tW)))
  (Dl:nsIn K mainGlobals "TooGreat"=some (some (.ref qS)))
  (xn:nsIn K mainGlobals "NothingDone"=some (some (.ref ms)))
  (x_NoPlace:excIn K tW Kt DS=true)
  (x_TooGreat:excIn K qS Kt DS=true)
  (x_NothingDone:excIn K ms Kt DS=true)
  (PQ:nsIn K mainGlobals "bool"=some none)
  (BE:nsIn K mainGlobals "enumerate"=some none)
  (SY:nsIn K mainGlobals "int"=some none)
  (zP:nsIn K mainGlobals "isinstance"=some none)
  (SJ:nsIn K mainGlobals "len"=some none)
  (PD:nsIn K mainGlobals "list"=some none)
  (SF:nsIn K mainGlobals "max"=some none)
  (SH:nsIn K mainGlobals "min"=some none)
  (K':nsIn K mainGlobals "range"=some none)
  (SZ:nsIn K mainGlobals "set"=some none)
  (I_:nsIn K mainGlobals "sorted"=some none)
  (SD:nsIn K mainGlobals "str"=some none)
  (K_:nsIn K mainGlobals "tuple"=some none)
  (SC:nsIn K mainGlobals "zip"=some none)
  (xu:nsIn K mainGlobals "MOST_PLACES"=some (some (.int 100 xo))) :
  ∃fd:FuncData,fd.scope.names.lookup ("_law_script":Str)=some .local/\(∀(s:Shared) (v:Value),BindsTo s fd ⟨[v],[]⟩ [("_law_script",v)])/\∀base:Heap,K.In base->base.Ns mainGlobals mg->c7 l.prog w K mg base (hZ l.prog w) 42 fa fd HK (iD K mg 1 f_q45):=by
 have e:=VD.symm.trans (mg_of X G MA)
 cases e
 obtain⟨_,_,F_q1,m_q1⟩:=Dm.fn X G
 obtain⟨_,_,F_q2,m_q2⟩:=BG.fn X G
 obtain⟨_,_,F_q3,m_q3⟩:=De.fn X G
 obtain⟨_,_,F_q4,m_q4⟩:=BS.fn X G
 obtain⟨_,_,F_q5,m_q5⟩:=Dj.fn X G
 obtain⟨_,_,F_q6,m_q6⟩:=Jf.fn X G
 obtain⟨_,_,F_q7,m_q7⟩:=Fs.fn X G
 obtain⟨_,_,F_q8,m_q8⟩:=Do.fn X G
 obtain⟨_,_,F_q9,m_q9⟩:=xq.fn X G
 obtain⟨_,_,F_q10,m_q10⟩:=zT.fn X G
 obtain⟨_,_,F_q11,m_q11⟩:=Fp.fn X G
 obtain⟨_,_,F_q12,m_q12⟩:=xp.fn X G
 obtain⟨_,_,F_q13,m_q13⟩:=Dp.fn X G
 obtain⟨_,_,F_q14,m_q14⟩:=zK.fn X G
 obtain⟨_,_,F_q15,m_q15⟩:=zR.fn X G
 obtain⟨_,_,F_q16,m_q16⟩:=Fq.fn X G
 obtain⟨_,_,F_q17,m_q17⟩:=Db.fn X G
 obtain⟨_,_,F_q18,m_q18⟩:=IQ.fn X G
 obtain⟨_,_,F_q19,m_q19⟩:=zQ.fn X G
 obtain⟨_,_,F_q20,m_q20⟩:=wJ.fn X G
 obtain⟨_,_,F_q21,m_q21⟩:=Ft.fn X G
 obtain⟨_,_,F_q22,m_q22⟩:=BL.fn X G
 obtain⟨_,_,F_q23,m_q23⟩:=zM.fn X G
 obtain⟨_,_,F_q24,m_q24⟩:=zW.fn X G
 obtain⟨_,_,yp,BM⟩:=BP.fn X G
 obtain⟨_,_,F_q26,m_q26⟩:=BQ.fn X G
 obtain⟨_,_,F_q27,m_q27⟩:=zX.fn X G
 obtain⟨_,_,F_q28,m_q28⟩:=BR.fn X G
 obtain⟨_,_,F_q29,m_q29⟩:=zL.fn X G
 obtain⟨_,_,F_q30,m_q30⟩:=wH.fn X G
 obtain⟨_,_,F_q31,m_q31⟩:=xl.fn X G
 obtain⟨_,_,F_q32,m_q32⟩:=Dk.fn X G
 obtain⟨_,_,F_q34,m_q34⟩:=zV.fn X G
 obtain⟨_,_,F_q35,m_q35⟩:=xk.fn X G
 obtain⟨_,_,F_q36,m_q36⟩:=uP.fn X G
 obtain⟨_,_,F_q37,m_q37⟩:=zJ.fn X G
 obtain⟨_,_,F_q38,m_q38⟩:=wK.fn X G
 obtain⟨_,_,F_q39,m_q39⟩:=wN.fn X G
 obtain⟨_,_,F_q40,m_q40⟩:=zO.fn X G
 obtain⟨_,_,F_q41,m_q41⟩:=BJ.fn X G
 obtain⟨_,_,F_q42,m_q42⟩:=wM.fn X G
 obtain⟨_,_,F_q43,m_q43⟩:=uT.fn X G
 obtain⟨_,_,F_q44,m_q44⟩:=wO.fn X G
 have F_q45:=yH (st:=rQ) Sz Fk S6
 have m_q45:=mg_of X G MA
 have B:Bl mg:=⟨mg_none_of X G PQ,mg_none_of X G BE,mg_none_of X G SY,mg_none_of X G zP,mg_none_of X G SJ,mg_none_of X G PD,mg_none_of X G SF,mg_none_of X G SH,mg_none_of X G K',mg_none_of X G SZ,mg_none_of X G I_,mg_none_of X G SD,mg_none_of X G K_,mg_none_of X G SC⟩
 have C:Cls K mg:=⟨⟨tW,mg_of X G Fj,x_NoPlace⟩,⟨qS,mg_of X G Dl,x_TooGreat⟩,⟨ms,mg_of X G xn,x_NothingDone⟩⟩
 have O:Ow K mg:=⟨⟨fF,mg_of X G jR,cl_Kept,fun f hf=>by simp only[aT,gu,pJ]at hf;rcases hf with rfl|rfl|rfl|rfl|rfl|rfl;(· exact uU);(· exact zY);(· exact xr);(· exact tV);(· exact qW);(· exact zN)⟩⟩
 have Gg:Gc K mg:=⟨⟨_,.int 100,mg_of X G xu,⟨_,rfl⟩,fun μ H=>.int⟩⟩
 refine⟨fnOf "law" "law" (ii rQ) (gE rQ) (aQ rQ) .none IP Jo Jh Jc Dn IX,rfl,fun s v=>.of_eq rfl,fun base _ _=>?_⟩
 have PB:bY l.prog w K mg base 1 "in_order" 1 HL:=cP F_q1 m_q1 (RR F_q1 B)
 have PF:bY l.prog w K mg base 1 "letter_of" 2 HM:=cP F_q2 m_q2 (RU F_q2)
 have Pz:bY l.prog w K mg base 1 "has_left" 1 zv:=cP F_q3 m_q3 (RV F_q3)
 have Fi:bY l.prog w K mg base 1 "has_right" 1 v0:=cP F_q4 m_q4 (RW F_q4)
 have uR:bY l.prog w K mg base 2 "links_of" 1 v3:=cP F_q5 m_q5 (RY F_q5 B  Pz Fi)
 have PV:bY l.prog w K mg base 3 "ups_of" 1 HN:=cP F_q6 m_q6 (RZ F_q6 B  uR)
 have PJ:bY l.prog w K mg base 1 "up_from" 2 E6:=cP F_q7 m_q7 (R0 F_q7)
 have Fl:bY l.prog w K mg base 3 "sizes_of" 1 CO:=cP F_q8 m_q8 (R3 F_q8 B  uR)
 have zS:bY l.prog w K mg base 1 "check_place" 2 xc:=cP F_q9 m_q9 (R4 F_q9 B C)
 have IW:bY l.prog w K mg base 1 "check_size" 1 v5:=cP F_q10 m_q10 (Oz F_q10 Gg C)
 have IZ:bY l.prog w K mg base 4 "part_at" 2 uo:=cP F_q11 m_q11 (OA F_q11   zS Fl)
 have wG:bY l.prog w K mg base 5 "branches_at" 2 o_:=cP F_q12 m_q12 (OB F_q12 B  Fi IZ Fl)
 have Jl:bY l.prog w K mg base 1 "with_top" 3 A9:=cP F_q13 m_q13 (OC F_q13 B)
 have IV:bY l.prog w K mg base 6 "branch_put" 4 v6:=cP F_q14 m_q14 (OD F_q14 B  wG IW Jl)
 have Ef:bY l.prog w K mg base 1 "room_below" 2 x5:=cP F_q15 m_q15 (OE F_q15)
 have yx:bY l.prog w K mg base 2 "room_at" 4 rR:=cP F_q16 m_q16 (OF F_q16   PF Ef)
 have qr:bY l.prog w K mg base 3 "rooms_of" 2 nS:=cP F_q17 m_q17 (OG F_q17 B  uR yx)
 have Jg:bY l.prog w K mg base 1 "turned" 1 A':=cP F_q18 m_q18 (OH F_q18)
 have Jd:bY l.prog w K mg base 1 "with_marks" 3 Ba:=cP F_q19 m_q19 (OI F_q19)
 have Ji:bY l.prog w K mg base 6 "branch_rooms" 3 x6:=cP F_q20 m_q20 (OJ F_q20 B  wG qr)
 have Jb:bY l.prog w K mg base 4 "climbed" 4 Bb:=cP F_q21 m_q21 (OK F_q21 B  uR yx PJ PV)
 have kB:KG l.prog w K mg base 4 "Kept" 3 gP:=N5 dm_Kept___init__ (mg_of X G jR) Lc La (fun F=>tK F B O qr)
 have dz:iH l.prog w K mg base 7 "Kept" "carry_out" 2 dw:=lc dm_Kept_carry_out (mg_of X G jR) cl_Kept (fun F=>rS F B O Ji Jb qr)
 have eh:iH l.prog w K mg base 8 "Kept" "do_deed" 2 d9:=lc dm_Kept_do_deed (mg_of X G jR) cl_Kept (fun F=>uM F O dz)
 have fy:iH l.prog w K mg base 9 "Kept" "mark_deed" 3 eP:=lc dm_Kept_mark_deed (mg_of X G jR) cl_Kept (fun F=>rV F O eh Jd)
 have qR:iH l.prog w K mg base 10 "Kept" "put" 3 jQ:=lc dm_Kept_put (mg_of X G jR) cl_Kept (fun F=>Bc F O fy zS PB)
 have pF:iH l.prog w K mg base 10 "Kept" "take" 3 jd:=lc dm_Kept_take (mg_of X G jR) cl_Kept (fun F=>zw F O fy zS)
 have mq:iH l.prog w K mg base 9 "Kept" "branch" 4 gW:=lc dm_Kept_branch (mg_of X G jR) cl_Kept (fun F=>v7 F B O eh IV)
 have nv:iH l.prog w K mg base 9 "Kept" "whole" 2 il:=lc dm_Kept_whole (mg_of X G jR) cl_Kept (fun F=>xg F O eh)
 have pE:iH l.prog w K mg base 8 "Kept" "back" 1 je:=lc dm_Kept_back (mg_of X G jR) cl_Kept (fun F=>zy F B C O dz Jg)
 have nu:iH l.prog w K mg base 8 "Kept" "again" 1 im:=lc dm_Kept_again (mg_of X G jR) cl_Kept (fun F=>xh F B C O dz)
 have kA:iH l.prog w K mg base 1 "Kept" "tree_now" 1 gQ:=lc dm_Kept_tree_now (mg_of X G jR) cl_Kept (fun F=>tM F O)
 have iS:iH l.prog w K mg base 1 "Kept" "reckoned" 1 fR:=lc dm_Kept_reckoned (mg_of X G jR) cl_Kept (fun F=>tN F O)
 have sm:bY l.prog w K mg base 1 "_law_cell" 2 nU:=cP F_q22 m_q22 (OL F_q22 B)
 have IR:bY l.prog w K mg base 1 "_law_mixed" 3 x8:=cP F_q23 m_q23 (OM F_q23)
 have pD:bY l.prog w K mg base 2 "_law_draws" 3 li:=cP F_q24 m_q24 (ON F_q24 B  IR)
 have wI:=D1 (P:=l.prog) (w:=w) (base:=base) yp BM B  40
 have IY:bY l.prog w K mg base 3 "_law_pool" 3 x9:=cP F_q26 m_q26 (OO F_q26 B  pD)
 have Jr:bY l.prog w K mg base 1 "_law_marks" 2 Bf:=cP F_q27 m_q27 (OP F_q27 B)
 have yt:bY l.prog w K mg base 2 "_law_tree" 2 v8:=cP F_q28 m_q28 (OQ F_q28 B  Jr)
 have yw:bY l.prog w K mg base 1 "_law_links" 1 v9:=cP F_q29 m_q29 (OR F_q29 B)
 have Jn:bY l.prog w K mg base 1 "_law_machine" 4 Bg:=cP F_q30 m_q30 (OS F_q30 B)
 have Je:bY l.prog w K mg base 1 "_law_letter" 2 x_:=cP F_q31 m_q31 (OT F_q31 B)
 have yq:bY l.prog w K mg base 2 "_law_run" 2 ur:=cP F_q32 m_q32 (OU F_q32   Je)
 have Jq:bY l.prog w K mg base 1 "_law_sizes" 1 Bh:=cP F_q34 m_q34 (OV F_q34)
 have yu:bY l.prog w K mg base 2 "_law_bounds" 2 v_:=cP F_q35 m_q35 (OW F_q35   yw Jq)
 have IN:bY l.prog w K mg base 3 "_law_branched" 4 Bi:=cP F_q36 m_q36 (OX F_q36 B  yu)
 have Jk:bY l.prog w K mg base 4 "_law_start" 1 Bj:=cP F_q37 m_q37 (OY F_q37 B  sm pD Jn IY yt)
 have IU:bY l.prog w K mg base 3 "_law_planned" 5 mL:=cP F_q38 m_q38 (OZ F_q38 B  sm pD yt)
 have Ja:bY l.prog w K mg base 4 "_law_changed" 2 pd:=cP F_q39 m_q39 (O0 F_q39 B  IN)
 have Jj:bY l.prog w K mg base 11 "_law_doing" 2 lY:=cP F_q40 m_q40 (O1 F_q40   nu pE mq qR pF nv)
 have Eh:bY l.prog w K mg base 2 "_law_over" 1 ya:=cP F_q41 m_q41 (O6 F_q41 B  yw)
 have Ed:bY l.prog w K mg base 3 "_law_climbed" 5 yb:=cP F_q42 m_q42 (O7 F_q42   Eh yq)
 have I0:bY l.prog w K mg base 4 "_law_deed_row" 4 rY:=cP F_q43 m_q43 (O8 F_q43 B  yu Ed)
 have Eg:bY l.prog w K mg base 41 "_law_counted" 3 ut:=cP F_q44 m_q44 (O9 F_q44   iS kA wI)
 exact O_ F_q45 B  kB Ja Eg I0 Jj IU Jk
end P
end
namespace PySem.W.Fast
def tw4078468537048082814:=0
def tw1901068240792821084:=0
def tw5391015624598043546:=0
def tw16839277028620482682:=0
def tw6211104189474974200:=0
def tw12432205218101494229:=0
def tw10494967259202531636:=0
def tw17338267527616844980:=0
def tw1040333313634119730:=0
def tw7609790228957865201:=0
def tw15926651081491748911:=0
def tw15639051341875096174:=0
def tw9639928704824512493:=0
def tw5731804296423590509:=0
def tw9604939595207951692:=0
def tw17943757714292265643:=0
def tw12305845302603118154:=0
def tw4727219350867450089:=0
def tw18263115367578630185:=0
def tw15260722848390085641:=0
def tw5920018751348685765:=0
def tw9867488170349497284:=0
def tw6250356622762548513:=0
def tw17015349267447867200:=0
def tw5848806396361196352:=0
def tw7831600468647444992:=0
def tw18307693366382570111:=0
def tw1959026522764507962:=0
def tw3289643598109698973:=0
def tw15968713142517522971:=0
def tw2380559652087650802:=0
def tw17360124995786211793:=0
def tw2803946250286973781:=0
def tw8023317165931978799:=0
def tw9857849338552873073:=0
def tw15769523419918375553:=0
def tw5260222631734921610:=0
def tw12806184769540271140:=0
def tw8742425616571471472:=0
def tw12656337664580163525:=0
def tw18255571197242928114:=0
def tw17327907690414314998:=0
def tw9015388335671487603:=0
def tw2849562458945027336:=0
def tw9705375315144538234:=0
def tw4558874422148739592:=0
def tw5761780389471304183:=0
def tw849670947572851913:=0
def tw11570089433434361686:=0
def tw12632201622076758806:=0
def tw9710717200645175669:=0
def tw12061609246883595280:=0
def tw11189702449159793223:=0
def tw966839869838363105:=0
def tw10811793429985915866:=0
def tw3649632077675593769:=0
def tw11085222686462871552:=0
def tw15649283438462688736:=0
def tw7302872347704366801:=0
def tw15005982699357058819:=0
def tw5740864156187689171:=0
def tw16816589474750076199:=0
def tw7915431072500262843:=0
def tw18086642288641890357:=0
def tw329804882237093939:=0
def tw15896263613665037706:=0
def tw15909450597503877471:=0
def tw17307889207439855142:=0
def tw2549582140799924672:=0
def tw7418056955039443340:=0
def tw12871008423718723793:=0
def tw15461522004613190589:=0
def tw9904975084587388925:=0
def tw16680766640796125343:=0
def tw11413323695353859744:=0
def tw6740215386052897757:=0
def tw3893141335941313166:=0
def tw8849678352458000446:=0
def tw8226673867758680136:=0
def tw12150931818803816010:=0
def tw15288451388542479820:=0
def tw18243032897617681476:=0
def tw10032120948815152846:=0
def tw8134857220837966227:=0
def tw10188141998804256391:=0
def tw11627412901605579206:=0
def tw10700567758215434711:=0
def tw3690867552163330077:=0
def tw5239392543985833891:=0
def tw4801042021088967779:=0
def tw7322025698140268512:=0
def tw13003184046553814990:=0
def tw15548438590688410808:=0
def tw7359945998124627264:=0
def tw163272724191740115:=0
def tw16987379159877244132:=0
def tw10195051288796951742:=0
def tw14321997667735737444:=0
def tw884986826685395866:=0
def tw12534187053769941948:=0
def tw2245507467629570484:=0
def tw18074112403175045842:=0
def tw1779839232237800606:=0
def tw14760351455715927340:=0
def tw111668079224515609:=0
def tw17455452676576767789:=0
def tw896646177150279287:=0
def tw8864636110158145825:=0
def tw14329898240151119880:=0
def tw16708203048718415247:=0
def tw17858713201313867359:=0
def tw10127288694247036760:=0
def tw12452872337012914517:=0
def tw1155586950019566397:=0
def tw6625252388609438932:=0
def tw13443626521252119586:=0
def tw455264554686765498:=0
def tw12577102942059286582:=0
def tw16200842190560375206:=0
def tw8994939269508352203:=0
def tw2570583155855379606:=0
def tw3530192470231031563:=0
def tw1311789308263037397:=0
def tw645200172132361098:=0
def tw5859793176326309325:=0
def tw2473313087059580591:=0
def tw8684427288416348088:=0
def tw14509601507828484700:=0
def tw18402641269956076125:=0
def tw15731660868523838052:=0
def tw11968951317624492248:=0
def tw3971476666901338279:=0
def tw14671405235418898097:=0
def tw8362371015365061085:=0
def tw5926670664855877792:=0
def tw1625038657640980533:=0
def tw3621382915443956228:=0
def tw11907426544815746543:=0
def tw6861294909371928427:=0
def tw8694912224977500158:=0
def tw13094141323352313342:=0
def tw3655515298262028675:=0
def tw5603838574656538198:=0
def tw2881037117445311179:=0
def tw12056421062705214995:=0
def tw10363269172232851001:=0
def tw2852137478890881559:=0
def tw1546807778669731116:=0
def tw17209724979705377836:=0
def tw10447731350715441069:=0
def tw18220470287888767128:=0
def tw12196858353058876415:=0
def tw15472125237847951677:=0
def tw8092053121498504758:=0
def tw1467674005621595680:=0
def tw13133233011500634276:=0
def tw11905670742466040289:=0
def tw1058856672655843797:=0
def tw9709217820856093457:=0
def tw4787597780187407641:=0
def tw6359158890604591462:=0
def tw4598101496577422204:=0
def tw1900543208854961567:=0
def tw322430420162994558:=0
def tw2568327913502124952:=0
def tw4726469906115485745:=0
def tw2600883622442763778:=0
def tw18086699067411042615:=0
def tw3211622159476690359:=0
def tw17156678864900703657:=0
def tw7834808931175397220:=0
def tw17860316039066333223:=0
def tw3506269844260865532:=0
def tw15479980810320672968:=0
def tw4623459967877125136:=0
def tw9615390628890743795:=0
def tw6681054631550951020:=0
def tw18393652758824786469:=0
def tw997088675777817444:=0
def tw6526977914696819557:=0
def tw11818410531478250515:=0
def tw3405150856185179516:=0
def tw8616993767377362809:=0
def tw13845158409600876542:=0
def tw11010820802007873872:=0
def tw17467666922235366703:=0
def tw4425968261526786357:=0
def tw12299410579192443528:=0
def tw13234947809694657764:=0
def tw4138373410460369358:=0
def tw17338223284518424563:=0
def tw14315557541500788539:=0
def tw11673206450138969997:=0
def tw3714516471660592757:=0
def tw4962266723612668557:=0
def tw14097950640694776581:=0
def tw3904147665582782027:=0
def tw13288930749598011284:=0
def tw14579381172594230933:=0
def tw5067553025279489964:=0
def tw3037970079919904173:=0
def tw2321485714100718068:=0
def tw13364841019496050386:=0
def tw8241343131384671470:=0
def tw331470020767918717:=0
def tw221844058736986740:=0
def tw14574186276205622027:=0
def tw16708335653242308747:=0
def tw13782570943706002103:=0
def tw10727860186468817590:=0
def tw2305787796048265621:=0
def tw2711839782653634732:=0
def tw9475009615224595469:=0
def tw9566332009371938671:=0
def tw6072395173414849989:=0
def tw15374158227018927546:=0
def tw9818106852390359480:=0
def tw9175279743707771940:=0
def tw9148884868226988660:=0
def tw14622033494795157867:=0
def tw13704325192557301342:=0
def tw11245342749350512248:=0
def tw12760196893695387056:=0
def tw5160970363459551655:=0
def tw4838251127552044228:=0
def tw4000205471340812242:=0
def tw11830426185187696660:=0
def tw9849386955658874482:=0
def tw15482423729951331482:=0
def tw17908326613115747388:=0
def tw12635543951985944713:=0
def tw7142857055310185325:=0
def tw12755388736035003287:=0
def tw5395242117469980115:=0
def tw11855245665523157719:=0
def tw1040861397934577385:=0
def tw434649325143270129:=0
def tw17482750133892663299:=0
def tw4917543126216849778:=0
def tw15006367666843285225:=0
def tw5112183549314260155:=0
def tw312432167813901391:=0
def tw10190611817725259005:=0
def tw5754156287767923765:=0
def tw3419852417215879957:=0
def tw1800478465382087069:=0
def tw14866221928556424914:=0
def tw5586344052267069100:=0
def tw112195808429182760:=0
def tw9257572225872653387:=0
def tw2706619759359997691:=0
def tw13649133245666882590:=0
def tw12105695046412729731:=0
def tw5798989774267904059:=0
def tw443778822797727112:=0
def tw2886658751278086099:=0
def tw16474993665214668713:=0
def tw16061639052176622575:=0
def tw3681419313600022417:=0
def tw1653888433798460569:=0
def tw4947176332232968142:=0
def tw4945151141297345441:=0
def tw1604980123210667914:=0
def tw13853712181181356405:=0
def tw12311541205250153710:=0
def tw9024060914921312221:=0
def tw4541447269926942584:=0
def tw3657788407819744514:=0
def tw230410679999225202:=0
def tw14245643533968026544:=0
def tw16639959786408156904:=0
def tw8136925911161460784:=0
def tw14356835702146489242:=0
def tw12511223194235363775:=0
def tw13978750737404384143:=0
def tw258320521674308468:=0
def tw17084364290872622201:=0
def tw14399749744383335810:=0
def tw9729922238675813068:=0
def tw10026177868444907803:=0
def tw16074280262011098290:=0
def tw12859381898894867578:=0
def tw15769816556141365513:=0
def tw12708734343132782277:=0
def tw640165242928788279:=0
def tw12785981044830064973:=0
def tw17979791559441025257:=0
def tw1752072482758697550:=0
def tw633695136248003870:=0
def tw11980956990033667210:=0
def tw4585881588919113884:=0
def tw15125933814564162686:=0
def tw11943357987478104311:=0
def tw10993845081552347501:=0
def tw9320641031622152954:=0
def tw6953110131966625559:=0
def tw17960079561381227726:=0
def tw3844758445111388413:=0
def tw1454758830743974679:=0
def tw12747495696427704152:=0
def tw7537699150865997475:=0
def tw10072636140739137307:=0
def tw8747001447041461347:=0
def tw3810829398611415594:=0
end PySem.W.Fast
open PySem PySem.W PyProof.Rows
set_option maxRecDepth 100000 in
set_option maxHeartbeats 0 in
theorem PySem.Challenge.cw_trunksay_k67_reckoned_holds : PySem.Challenge.rw_trunksay_k67_reckoned.Holds := by
 w_on; o_law; k_head; (case hw => w_witness2)
 k_fill
 refine L2.walkW (l := PySem.Challenge.rw_trunksay_k67_reckoned) (k := 42) (x := "_law_script") (G := P.f_q45) rfl rfl ⟨rfl, by decide, by decide⟩ (fun w h Y => PySem.W.kIn_of Y) ?F P.law_ok
 case F =>
  intro w mg fa h KX G hmg
  refine' P.all_mk KX G hmg ?_ ?_ ?_ ?_ ?_ ?_ ?_ ?_ ?_ ?_ ?_ ?_ ?_ ?_ ?_ ?_ ?_ ?_ ?_ ?_ ?_ ?_ ?_ ?_ ?_ ?_ ?_ ?_ ?_ ?_ ?_ ?_ ?_ ?_ ?_ ?_ ?_ ?_ ?_ ?_ ?_ ?_ ?_ ?_ ?_ ?_ ?_ ?_ ?cl_Kept ?_ ?_ ?_ ?_ ?_ ?_ ?_ ?_ ?dm_Kept___init__ ?dm_Kept_carry_out ?dm_Kept_do_deed ?dm_Kept_mark_deed ?dm_Kept_put ?dm_Kept_take ?dm_Kept_branch ?dm_Kept_whole ?dm_Kept_back ?dm_Kept_again ?dm_Kept_tree_now ?dm_Kept_reckoned ?_ ?_ ?_ ?x_NoPlace ?x_TooGreat ?x_NothingDone ?_ ?_ ?_ ?_ ?_ ?_ ?_ ?_ ?_ ?_ ?_ ?_ ?_ ?_ ?_
  any_goals (refine' L2.DefIn.mk ?a ?l ?c ?k; (case a => k_is); (case l => k_is); (case c => k_is); (case k => k_is))
  any_goals k_is
  (case cl_Kept => exact ⟨by kernel_rfl, by kernel_rfl, by kernel_rfl, by first | k_is | kernel_rfl⟩)
  (case dm_Kept___init__ => (refine' L2.DefM.mk ?a ?i ?l ?c ?k; (case a => k_is); (case i => first | k_is | kernel_rfl); (case l => k_is); (case c => k_is); (case k => k_is)))
  (case dm_Kept_carry_out => (refine' L2.DefM.mk ?a ?i ?l ?c ?k; (case a => k_is); (case i => first | k_is | kernel_rfl); (case l => k_is); (case c => k_is); (case k => k_is)))
  (case dm_Kept_do_deed => (refine' L2.DefM.mk ?a ?i ?l ?c ?k; (case a => k_is); (case i => first | k_is | kernel_rfl); (case l => k_is); (case c => k_is); (case k => k_is)))
  (case dm_Kept_mark_deed => (refine' L2.DefM.mk ?a ?i ?l ?c ?k; (case a => k_is); (case i => first | k_is | kernel_rfl); (case l => k_is); (case c => k_is); (case k => k_is)))
  (case dm_Kept_put => (refine' L2.DefM.mk ?a ?i ?l ?c ?k; (case a => k_is); (case i => first | k_is | kernel_rfl); (case l => k_is); (case c => k_is); (case k => k_is)))
  (case dm_Kept_take => (refine' L2.DefM.mk ?a ?i ?l ?c ?k; (case a => k_is); (case i => first | k_is | kernel_rfl); (case l => k_is); (case c => k_is); (case k => k_is)))
  (case dm_Kept_branch => (refine' L2.DefM.mk ?a ?i ?l ?c ?k; (case a => k_is); (case i => first | k_is | kernel_rfl); (case l => k_is); (case c => k_is); (case k => k_is)))
  (case dm_Kept_whole => (refine' L2.DefM.mk ?a ?i ?l ?c ?k; (case a => k_is); (case i => first | k_is | kernel_rfl); (case l => k_is); (case c => k_is); (case k => k_is)))
  (case dm_Kept_back => (refine' L2.DefM.mk ?a ?i ?l ?c ?k; (case a => k_is); (case i => first | k_is | kernel_rfl); (case l => k_is); (case c => k_is); (case k => k_is)))
  (case dm_Kept_again => (refine' L2.DefM.mk ?a ?i ?l ?c ?k; (case a => k_is); (case i => first | k_is | kernel_rfl); (case l => k_is); (case c => k_is); (case k => k_is)))
  (case dm_Kept_tree_now => (refine' L2.DefM.mk ?a ?i ?l ?c ?k; (case a => k_is); (case i => first | k_is | kernel_rfl); (case l => k_is); (case c => k_is); (case k => k_is)))
  (case dm_Kept_reckoned => (refine' L2.DefM.mk ?a ?i ?l ?c ?k; (case a => k_is); (case i => first | k_is | kernel_rfl); (case l => k_is); (case c => k_is); (case k => k_is)))
  (case x_NoPlace => k_exc)
  (case x_TooGreat => k_exc)
  (case x_NothingDone => k_exc)
