import PyProof.Rows.All
import Wide.All
import OpenK.AllK
import Wide.FinOn
import Lean
import PyProof.EqAt
import PyProof.EqKinds
import PyProof.TupleCall
import PyProof.StrLawsIn
import PyProof.StationsW
import PyProof.NeData
import OpenK.KOwn
import PyProof.NsDelKeeps
import PyProof.ExcArgsOwn
import PyProof.ExcAttrAll.ValueError
import PyProof.IsiH_tuple
import KE.KIsAll
import PyProof.CollectStr
import PyProof.ZipIter
import PyProof.Rows.ZipGen
import PyProof.JoinWalk
import PyProof.CollectIter
import PyProof.EnumMake
import PyProof.SumAny
import PyProof.MeetsSeq3
import PyProof.ListRange
import PyProof.ListNew
import PyProof.DictUpdate
import PyProof.FitsBits
import PyProof.StrCalls6
import PySem.Challenge.RW_trunksay_k67_reckoned
set_option Elab.async false
set_option linter.all false
set_option genSizeOf false
set_option maxRecDepth 100000

def tv0:=trivial
set_option hygiene false
local macro_rules|`(tactic|walk_at "1")=>`(tactic|refine⟨μ,ρ,st,l,RK.bind h l fun μ1 st1 x v H1 p1 x1 l1 q1 h1=>?_⟩)
local macro_rules|`(tactic|walk_at "2")=>`(tactic|obtain⟨μ,ρ,st,l,h⟩:=h)
local macro_rules|`(#[0])=>`(by omega)
local macro_rules|`(#[1])=>`(a8 C (.nd l r m))
local macro_rules|`(#[2])=>`(e_ X nm scope (cellsFrom (G2.objs.size+1) scope.names []++cl) G2.objs.size s2 H1 fp)
local macro_rules|`(#[3])=>`(model X.prog X.w)
local macro_rules|`(#[4])=>`(.nd (if s then x else l) (if s then r else x) m)
local macro_rules|`(#[5])=>`(.loc st.length)
local macro_rules|`(#[6])=>`(s.heap.objs.size+1)
local macro_rules|`(#[7])=>`(Option Nat×Option Nat)
local macro_rules|`(#[8])=>`(model prog w)
local macro_rules|`(#[9])=>`(dY X nm scope cl C s0 H0 fp)
local macro_rules|`(#[10])=>`(.ListComp qU [⟨tg,d_,mR,0⟩] scope pos)
local macro_rules|`(#[11])=>`((relabel scope X.env).names.lookup x=some .cell\/(relabel scope X.env).names.lookup x=some .free)
local macro_rules|`(#[12])=>`(by decide)
local macro_rules|`(#[13])=>`(sv M m (l.tR M) (r.tR M))
local macro_rules|`(#[14])=>`(ws.map some++List.replicate (N-ws.length) none)
local macro_rules|`(#[15])=>`(by simp)
local macro_rules|`(#[16])=>`(.lst (sd.reverse.map (rW M)++[rW M d]))
local macro_rules|`(#[17])=>`(a7 (bu kx bW (dD rfl)))
local macro_rules|`(#[18])=>`(st++[.lst (cV (sz.take i))])
local macro_rules|`(#[19])=>`((e::es).length+([]:List Keyword).length+(if ([]:List Keyword).isEmpty then 0 else 1)<30)
local macro_rules|`(#[20])=>`(bf (aa 1) aB)
local macro_rules|`(#[21])=>`(g9 O.Kept (aa 0))
local macro_rules|`(#[22])=>`(lR M t pool L P Q (iO (i:Nat)) o8 o9 o10)
set_option hygiene true
open Array renaming length_toList→eD,getElem?_eq_getElem→eM,getElem?_toList→fN,eq_empty_of_size_eq_zero→gn,getD_eq_getD_getElem?→kS,toList_push→lY
open Bool renaming and_eq_true→dB,and_true→dM,false_ne_true→eO,false_eq_true→fJ,not_eq_true'→hV,eq_iff_iff→iZ,or_false→mq
open Int renaming toNat_natCast→bV,natCast_add→eJ,natCast_mul→iX,emod_nonneg→iY,zero_add→kT,fdiv_eq_ediv_of_nonneg→lv,emod_lt_of_pos→lG,mul_comm→nC
open LawfulBEq renaming eq_of_beq→mM
open List renaming length_append→ah,append_assoc→ak,prefix_refl→am,getElem?_eq_getElem→aq,getElem?_eq_some_iff→au,length_map→aF,getElem?_map→aJ,getElem?_append_left→aK,length_take→aM,getD_eq_getElem?_getD→aO,mem_append_right→aR,mem_cons_of_mem→aS,mem_cons→aT,map_cons→aU,size_toArray→aV,mem_append→aX,getElem?_append_right→aY,mem_singleton→a9,map_append→bb,prefix_append→be,length_cons→bg,append_nil→bx,reverse_cons→bA,take_of_length_le→bB,mem_cons_self→bC,pairwise_cons→bX,mem_append_left→bZ,map_map→b9,length_singleton→cf,getElem?_eq_none→cm,getElem?_set_self→cr,mem_of_getElem?→cw,length_drop→cx,take_append_of_le_length→cF,getElem?_take_of_lt→cO,getElem?_set_ne→cX,mem_map→c9,find?_cons→dr,flatten_append→dF,take_length→dR,getElem_mem→eQ,nil_append→eW,map_congr_left→eY,drop_eq_getElem_cons→fQ,filterMap_cons→gc,not_mem_nil→gq,take_left→gs,eq_nil_of_length_eq_zero→gz,length_eq_one_iff→gF,drop_left'→gR,getElem?_range→iI,mem_filter→iU,nodup_cons→iV,lookup_append→i9,getElem?_replicate→jf,map_id→jh,ext_getElem?→jz,take_add_one→jB,length_filter_le→jI,lookup_cons→jR,forIn_cons→kC,length_nil→kD,take_left'→kH,filter_eq_self→kL,mem_range→li,mem_filterMap→lr,nodup_append→lZ,flatten_cons→l6,any_cons→ms,map_take→mw,map_drop→mx,getElem_map→mP,range_succ_eq_map→nu,drop_eq_nil_of_le→nv,drop_of_length_le→nz,set_set→nD,of_mem_zip→nS,length_set→nT,set_append_right→oh,dropLast_eq_take→ol,forIn_nil→py,take_take→pH,sum_cons→qw,map_nil→sy,map_set→sD
open List.Perm renaming refl→ie,append_left→og
open Nat renaming le_of_ble_eq_true→ao,le_refl→az,le_trans→aN,lt_of_lt_of_le→aP,ne_of_lt→bd,le_succ→bp,lt_succ_self→b7,zero_le→cn,lt_succ_of_lt→cU,lt_irrefl→dL,ne_of_gt→eh,le_of_lt→fY,lt_of_le_of_lt→gG,min_eq_left→gQ,le_succ_of_le→hJ,le_add_right→iu,zero_add→iz,not_lt_zero→iW,not_lt→i_,lt_of_succ_lt_succ→jA,add_assoc→jX,zero_lt_succ→mQ,lt_trans→nr,add_zero→sA
open Option renaming map_eq_some_iff→fm
open Option.some renaming inj→bq
open PyProof.Rows renaming callWith_type1→dS,slot_tuple_getitem→eK,boot_tuple→fM,callWith_builtin1→jQ,subscriptTail_builtinR→nq,sorted_out_str→pz,boot_sorted→pF,boot_int→pG,Constant_none→qp,strKind_oneLt→qu,keyKind_strs→sB,boot_bool→tP
open PyProof.Rows.F renaming plain_set_update_loop→eZ,entry_set_update_loop→iH
open PySem renaming wpAny_bind→af,wpAny_pure→ay,boot_len→bF,wpAny_callSpecial?_slot→bP,wpAny_call_entry→b8,wpAny_newObj_type→cz,wpAny_setField_rec→cD,wpAny_field→dh,wpAny_holding→dm,wpAny_loadPart'→dq,codeAny_builtin→dN,wpAny_seqItems→et,isSubtype_type→eu,plainId_quiet→fv,wpAny_pyIter_tuple→fI,wpAny_Call_Name_kw→fK,wpAny_passesOwn→fT,wpAny_setState_of→f7,wpAny_setEntries_of→gf,wpAny_isInstance→gp,wpAny_attempt→gW,wpAny_truthy_bool→hU,codeAny_mono→iw,wpAny_typeOf→iy,wpAny_pyNext_ascii_item→jg,wpAny_pyNext_wide_item→jy,wpAny_rule→jS,sizeLine_eq→j9,wpAny_execs_nil→kA,pushCells_keeps→kB,wpAny_mono→lj,typeIs_str→ly,wpAny_pyIter_ascii→lD,isSubtype_stop→lE,wpAny_fieldsOf→lF,wpAny_pyIter_wide→lX,wpAny_onRaise→mv,noFill_tuple_add→mL,wpAny_askSetting→mO,wpAny_Call_method_late→ny,wpAny_ite_split→nU,wpAny_updateSeq→nV,wpAny_storeName_local→n5,wpAny_isTrue_Compare1→n6,builtinLookup_eq_fast→n_,wpAny_runValue→pD,wpAny_standAt→qr,seq_tuple_add→qt,wpAny_call→qV,call_meets→qW,concat_meets→su,seqIndex_neg→sw,putSet_of→tO
open PySem.Around renaming under_plainId→cY
open PySem.Calls renaming spliced_cons→eP,spliced_nil→fZ,callWith_builtin→gH,evalArgs_plain→ic,Name_function_global→lq,call_function_entry→lJ
open PySem.F renaming slot_tuple_iterator_next→fL,args_tuple_iterator_next_1→kE,slot_zip_next→kG,entry_tuple_iterator_next→kR,slot_enumerate_next→n9
open PySem.Heap renaming get?_push_of_some→av,get?_push_size→aC,lt_size→aH,size_push→bv,get?_update_other→cK,get?_update_self→dH
open PySem.Heap.SameBut renaming update→iG
open PySem.SeqAt renaming str_beq→qv
open PySem.StrLaws renaming glued_eq_join→gZ
open PySem.Value renaming isStrOf_shape→kK
def aE:=@if_pos
def aL:=@if_neg
def aW:=@decide_eq_false
def bw:=@decide_eq_true
def bz:=@beq_eq_false_iff_ne
def dg:=@beq_iff_eq
def f6:=@if_true
def gI:=@decide_eq_true_iff
def ib:=@congrArg
def j_:=@if_false
def j':=@PySem.wpAny_updateSeq_pair
def lH:=@congrFun
def pE:=@or_false
set_option compiler.extract_closed false
noncomputable section
variable{M:PySem.Model}{p pos iq fH p2 dG:PySem.Pos}{s:PySem.Shared}{α β:Type}{A:PySem.Around}{E Q Qv:PySem.Value->PySem.Shared->Prop}{nk n n' t' N i j kk ep q:Nat}{x:Option Nat×Option Nat}{v u:PySem.Value}{us bI:List PySem.Value}{o e c tg d_ qU:PySem.Expr}{P prog:PySem.Program}{h h' base:PySem.Heap}{aj:List (PySem.Addr×PySem.Obj)}{g':Array PySem.GenState}{ch fp μ μ':List PySem.Addr}{it C:PySem.Addr}{op:PySem.CmpOp}{K:PySem.W.Frag}{es mR wA:List PySem.Expr}{g:PySem.Value->PySem.Value->PySem.Sem PySem.Value}{f:Option Nat×Option Nat->Option Nat}{mA mg:PySem.Str->Option PySem.Value}{name fG:PySem.Str}{pl:PySem.Sem Bool}{kw:List (PySem.Str×PySem.Value)}{env:PySem.Env}{fd:PySem.FuncData}{ps ks nm:List PySem.Str}{kindOf:PySem.Str->Option PySem.NameKind}{scope:PySem.Scope}{T:String}{l m S pool:List Nat}{XP:(PySem.Str->Option PySem.Value)->PySem.Heap->Prop}{YP:PySem.World->PySem.Heap->Prop}{ns:List Int}{cl:List (PySem.Str×PySem.Addr)}{cap B:List (Option Nat)}{use:Option (PySem.Value->PySem.Sem Unit)}{ls:List (List Nat)}
open PySem.W (Frag)
open PySem.W (instObj hideAll lookIn plainGet findIn isFn makesIn emptyDict keepIn kia_one fnOf codeIn excIn nsIn mg_of mg_none_of)
namespace L2
open PySem PySem.Spec PyProof.Rows
theorem yn{Γ:PySem.Ctx}{t:Sem Fin}{fs:List Frame}{s':Shared}{e:End}(h:Runs M Γ p t fs s e s'):s.toks<=s'.toks:=by
 induction h
 case fresh ih=>exact aN (bp _) ih
 case call i1 i2=>exact aN i1 i2
 case resumeFresh i1 i2=>exact aN i1 i2
 case resumeSuspended i1 i2=>exact aN i1 i2
 case segRet i1 i2=>exact aN i1 i2
 case segGen i1 i2=>exact aN i1 i2
 case segSuspGen i1 i2=>exact aN i1 i2
 all_goals first|exact az _|assumption
theorem Fj{Γ:PySem.Ctx}{g:Nat}{r:Resume}{s':Shared}{res:GenResult}(h:Wakes M Γ p g r s res s'):s.toks<=s'.toks:=by
 unfold Wakes at h
 split at h
 ·exact h.elim
 ·split at h
  ·obtain⟨e,s1,h1,_,_,rfl⟩:=h;have q:=yn h1;exact q
  ·rw[h.2];exact az _
  ·rw[h.2];exact az _
 ·obtain⟨e,s1,h1,_,_,rfl⟩:=h;have q:=yn h1;exact q
 ·rw[h.2];exact az _
 ·rw[h.2];exact az _
theorem Pz{Γ:PySem.Ctx}(n:Nat)(m:Sem α):∀{Q:α->Pos->Shared->Prop} {E:Value->Pos->Shared->Prop} {p:Pos} {s:Shared},n<=s.toks->Sem.wp M Γ m Q E p s ->
  Sem.wp M Γ m (fun a p' s'=>n<=s'.toks/\Q a p' s') (fun e p' s'=>n<=s'.toks/\E e p' s') p s:=by
 induction m
 all_goals intro Q E p s hn h
 all_goals (first|(rename_i ih)|skip)
 all_goals (try simp only[Sem.wp]at h ⊢)
 all_goals first
  |exact⟨hn,h⟩
  |exact ih _ hn h
  |exact ih _ (hJ hn) h
  |(obtain⟨o,h1,h2⟩:=h;exact⟨o,h1,ih _ hn h2⟩)
  |exact⟨h.1,ih _ hn h.2⟩
  |(obtain⟨r,s',h1,h2⟩:=h;exact⟨r,s',h1,ih _ (aN hn (yn h1)) h2⟩)
  |(obtain⟨r,s',h1,h2⟩:=h;exact⟨r,s',h1,ih _ (aN hn (Fj h1)) h2⟩)
theorem up{m:Sem α}{Q:α->Shared->Prop}(h:wpAny M A m (fun a s'=>s.toks<=s'.toks->Q a s') (fun e s'=>s.toks<=s'.toks->E e s') s):wpAny M A m Q E s:=fun Γ p hΓ=>
 Sem.wp_mono M Γ m (fun a p' s' h'=>h'.2 h'.1) (fun e p' s' h'=>h'.2 h'.1) p s (Pz s.toks m (az _) (h Γ p hΓ))
end L2
namespace L2
open PySem PySem.Spec PyProof.Rows
noncomputable abbrev jY:=Sum Int Str
def xh:jY->Value->Bool
 |.inl k,v=>Value.isInt k v
 |.inr x,v=>Value.isStrOf x v
def S9(w:World):jY->Int
 |.inl k=>hashInt k
 |.inr x=>hashStr w x
theorem fU:∀{k:jY} {v:Value},xh k v=true->(∃i t,k=Sum.inl i/\v=Value.int i t)\/(∃x t,k=Sum.inr x/\v=Value.str x t)
 |.inl i,v,h=>by
  obtain⟨t,e⟩:=Value.isInt_shape (k:=i) (v:=v) h
  exact .inl ⟨i,t,rfl,e⟩
 |.inr x,v,h=>by
  obtain⟨t,e⟩:=kK (x:=x) (v:=v) h
  exact .inr ⟨x,t,rfl,e⟩
theorem D7(i:Int)(t:Tok):xh (.inl i) (.int i t)=true:=by simp[xh,Value.isInt]
theorem D8(x:Str)(t:Tok):xh (.inr x) (.str x t)=true:=by simp[xh,Value.isStrOf]
theorem Mh(a b:Int):decide ((Sum.inl a:jY)=Sum.inl b)=(a==b):=by
 by_cases e:a=b
 ·subst e;simp
 ·have h:¬ (Sum.inl a:jY)=Sum.inl b:=fun q=>e (Sum.inl.inj q)
  rw[aW h]
  exact(bz.mpr e).symm
theorem Mi(a b:Str):decide ((Sum.inr a:jY)=Sum.inr b)=decide (a=b):=by
 by_cases e:a=b
 ·subst e;simp
 ·have h:¬ (Sum.inr a:jY)=Sum.inr b:=fun q=>e (Sum.inr.inj q)
  rw[aW h,aW e]
theorem Mj(a:Int)(b:Str):decide ((Sum.inl a:jY)=Sum.inr b)=false:=aW (fun q=>nomatch q)
theorem Ml(a:Str)(b:Int):decide ((Sum.inr a:jY)=Sum.inl b)=false:=aW (fun q=>nomatch q)
def gA(prog:Program)(w:World):PySem.KeyKind prog w jY where
 is:=xh
 hash:=S9 w
 inj:=fun v a b ha hb=>by
  rcases fU ha with⟨i,t,rfl,rfl⟩|⟨x,t,rfl,rfl⟩
  ·rcases fU hb with⟨j,u,rfl,e⟩|⟨y,u,rfl,e⟩
   ·injection e with e1 _;rw[e1]
   ·exact nomatch e
  ·rcases fU hb with⟨j,u,rfl,e⟩|⟨y,u,rfl,e⟩
   ·exact nomatch e
   ·injection e with e1 _;rw[e1]
 byValue:=fun k v h=>by
  rcases fU h with⟨i,t,rfl,rfl⟩|⟨x,t,rfl,rfl⟩<;>rfl
 pyHash:=fun hv h=>by
  rcases fU hv with⟨i,t,rfl,rfl⟩|⟨x,t,rfl,rfl⟩
  ·exact wpAny_pyHash_int h
  ·exact wpAny_pyHash_str h
 eqBool:=fun hu hv h=>by
  rcases fU hu with⟨i,t,rfl,rfl⟩|⟨x,t,rfl,rfl⟩
  ·rcases fU hv with⟨j,u,rfl,rfl⟩|⟨y,u,rfl,rfl⟩
   ·rw[Mh]at h;exact wpAny_eqBool_int h
   ·rw[Mj]at h;exact SeqAt.EqAt.int_str i t y u _ _ _ _ h
  ·rcases fU hv with⟨j,u,rfl,rfl⟩|⟨y,u,rfl,rfl⟩
   ·rw[Ml]at h;exact SeqAt.EqAt.str_int x t j u _ _ _ _ h
   ·rw[Mi]at h;exact wpAny_eqBool_str h
 «strs»:=fun k x t v h=>by
  rcases fU h with⟨i,u,rfl,e⟩|⟨y,u,rfl,e⟩
  ·exact nomatch e
  ·injection e with e1 _
   subst e1
   cases v<;>rfl
theorem zS(prog:Program)(w:World)(i:Int)(t:Tok):(gA prog w).is (.inl i) (.int i t)=true:=D7 i t
theorem zT(prog:Program)(w:World)(x:Str)(t:Tok):(gA prog w).is (.inr x) (.str x t)=true:=D8 x t
end L2
variable{xs:List (List L2.jY×PySem.Addr×PySem.Value)}
namespace L2
open PySem PySem.Spec PyProof.Rows
inductive V where
 |non|bl (b:Bool)|int (i:Int)|str (x:Str)|byt (b:Array UInt8)|flt (b:UInt64)|ref (a:Addr)|ty (n:String)
 deriving DecidableEq
def Tk(n:Nat)(x:Str):Type:={ t:Tok // x.length=1->0<t/\t<n }
instance {n:Nat} {x:Str}:CoeOut (Tk n x) Tok:=⟨fun t=>t.1⟩
noncomputable def Tk.up{x:Str}(h:n<=n')(t:Tk n x):Tk n' x:=⟨t.1,fun e=>⟨(t.2 e).1,aP (t.2 e).2 h⟩⟩
def cS(n:Nat):V->Value->Prop
 |.non,u=>u=Value.none
 |.bl b,u=>u=Value.bool b
 |.int i,u=>∃t,u=Value.int i t
 |.str x,u=>∃t:Tk n x,u=Value.str x t.1
 |.byt b,u=>∃t,u=Value.bytes b t
 |.flt b,u=>∃t,u=Value.float b t
 |.ref a,u=>u=Value.ref a
 |.ty n,u=>u=Value.type n
theorem cS.up(h:n<=n'){v:V}(r:cS n v u):cS n' v u:=by
 cases v with
 |str x=>obtain⟨t,e⟩:=r;exact⟨t.up h,e⟩
 |_=>exact r
abbrev cL(n:Nat):List V->List Value->Prop:=Paired (cS n)
theorem cL.up(h:n<=n'):∀{xs:List V} {us:List Value},cL n xs us->cL n' xs us
 |_,_,.nil=>.nil
 |_,_,.cons r t=>.cons (r.up h) (cL.up h t)
theorem cL.length{xs:List V}(r:cL nk xs us):xs.length=us.length:=Paired.length r
theorem cL.get:∀{xs:List V} {us:List Value} {i:Nat} {x:V},cL nk xs us->xs[i]?=some x->∃u,us[i]?=some u/\cS nk x u
 |_,_,_,_,.nil,e=>by simp at e
 |_,_,0,_,.cons r _,e=>by simp at e;subst e;exact⟨_,rfl,r⟩
 |_,_,i+1,x,.cons _ t,e=>by
  obtain⟨u,h1,h2⟩:=cL.get (i:=i) (x:=x) t (by simpa using e)
  exact⟨u,by simpa using h1,h2⟩
theorem cL.set{x:V}(r:cS nk x u):∀{xs:List V} {us:List Value} (i:Nat),cL nk xs us->cL nk (xs.set i x) (us.set i u)
 |_,_,_,.nil=>.nil
 |_,_,0,.cons _ t=>.cons r t
 |_,_,i+1,.cons q t=>.cons q (cL.set r i t)
theorem cL.append:∀{xs ys:List V} {us ws:List Value},cL nk xs us->cL nk ys ws->cL nk (xs++ys) (us++ws)
 |_,_,_,_,.nil,s=>s
 |_,_,_,_,.cons r t,s=>.cons r (cL.append t s)
theorem cL.take:∀{xs:List V} {us:List Value} (n:Nat),cL nk xs us->cL nk (xs.take n) (us.take n)
 |_,_,0,_=>.nil
 |_,_,_+1,.nil=>.nil
 |_,_,n+1,.cons r t=>.cons r (cL.take n t)
theorem cL.drop:∀{xs:List V} {us:List Value} (n:Nat),cL nk xs us->cL nk (xs.drop n) (us.drop n)
 |_,_,0,r=>r
 |_,_,_+1,.nil=>.nil
 |_,_,n+1,.cons _ t=>cL.drop n t
def mS(n:Nat):Option V->Option Value->Prop
 |some v,some u=>cS n v u
 |none,none=>True
 |_,_=>False
theorem mS.up(h:n<=n'):∀{o:Option V} {u:Option Value},mS n o u->mS n' o u
 |some _,some _,r=>cS.up h r
 |none,none,_=>trivial
 |none,some _,r=>r
 |some _,none,r=>r
def KV{κ:Type}(n:Nat):List (κ×V)->List (κ×Value)->Prop:=Paired fun(p:κ×V) (q:κ×Value)=>p.1=q.1/\cS n p.2 q.2
def kV:jY->V
 |.inl i=>.int i
 |.inr x=>.str x
inductive HO where
 /-- a list -/
 |lst (xs:List V)
 /-- a tuple (never changes) -/
 |tup (xs:List V)
 /-- a dict whose keys are ints and texts;one whose keys are tuples of ints and texts (the empty one is both) -/
 |dK (kvs:List (jY×V))|dT (kvs:List (List jY×V))
 /-- a set of ints: bI members,bI size -/
 |set (S:Int->Bool) (n:Nat)
 /-- an instance of the class at C,bI dict at dx,bI attributes -/
 |ins (C dx:Addr) (fs:List (Str×V))
 /-- the dict of the instance at x -/
 |own (x:Addr)
 /-- the dict of an exception -/
 |xd (fs:List (Str×V))
 /-- a bound method,f of x -/
 |met (f x:Addr)
 /-- a range object lo,lo+1,.. below hi -/
 |rng (lo hi:Int)
 /-- a thing that is known to the object (the script;a dict while a loop walks it): read,never written while it is so -/
 |frz (o:Obj) (u:HO)
 /-- a code object's table -/
 |tbl (ps:Array Value)
 /-- any other thing,by what is true of bI one object (a def of UM own: SetO a S n:=HO.ext fun h=>..) -/
 |ext (φ:Heap->Prop)
noncomputable abbrev Hp:=Addr->Option HO
def fW(H:Hp)(a:Addr)(o:HO):Hp:=fun b=>if b=a then some o else H b
theorem gJ{H:Hp}{a:Addr}{o:HO}:fW H a o a=some o:=by unfold fW;rw[aE rfl]
theorem c_{H:Hp}{a b:Addr}{o:HO}(h:b≠a):fW H a o b=H b:=by unfold fW;rw[aL h]
theorem PB{H:Hp}{a b:Addr}{o u:HO}(h:H a=some o)(h':H b=some u)(d:o≠u):a≠b:=by
 intro e;subst e;rw[h]at h';exact d (bq h')
theorem fB{H:Hp}{a b:Addr}{o:HO}(h:H a=some o)(h':H b=none):a≠b:=by
 intro e;subst e;rw[h]at h';cases h'
section
variable(P:Program)(w:World)
def fq(n:Nat)(H:Hp)(h:Heap)(a:Addr):HO->Prop
 |.lst xs=>xs.length<=sizeLine/\∃(bI:List Value) (m:Nat),cL n xs bI/\h.get? a=some { cls:=.type "list",data:=.seq bI.toArray m }
 |.tup xs=>xs.length<=sizeLine/\∃bI:List Value,cL n xs bI/\IsTup h a bI.toArray
 |.dK kvs=>kvs.length<=sizeLine/\(a==sysModules)=false/\∃vs,KV n kvs vs/\h.DictOf (gA P w) a vs
 |.dT kvs=>kvs.length<=sizeLine/\(a==sysModules)=false/\∃xs:List (List jY×Addr×Value),
   Paired (fun(p:List jY×V) (q:List jY×Addr×Value)=>p.1=q.1/\H q.2.1=some (.tup (p.1.map kV))/\cS n p.2 q.2.2) kvs xs /\
   ∃o es ep,h.get? a=some o/\o.ExactDict/\o.data=.dict es ep/\es.toList=xs.map (entryOfKey (tupleKind (gA P w)))/\(xs.map (·.1)).Nodup
 |.set S m=>h.SetOf (intKind P w) a S m
 |.ins C dx fs=>H dx=some (.own a)/\fs.length<=1000/\dx≠a/\h.get? a=some (instObj C dx) /\
   ∃mA,h.Ns1 dx mA/\(∀f,mS n (fs.lookup f) (mA f))/\PySem.Within mA (fs.map (·.1))
 |.own _=>∃o,h.get? a=some o
 |.xd fs=>∃mA,h.Ns1 a mA/\∀f,mS n (fs.lookup f) (mA f)
 |.rng lo hi=>∃t u v,h.get? a=some { cls:=.type "range",data:=.fields #[.int lo t,.int hi u,.int 1 v] }
 |.frz o u=>h.get? a=some o/\fq n H h a u
 |.tbl ps=>h.get? a=some { cls:=.none,data:=.fields ps }
 |.met f x=>h.get? a=some (PySem.W.methodObj (.ref f) (.ref x))
 |.ext φ=>φ h/\(∃o,h.get? a=some o)/\∀h1 h2:Heap,φ h1->(∀o,h1.get? a=some o->h2.get? a=some o)->φ h2
def pI(n:Nat)(H:Hp)(h:Heap):Prop:=∀a o,H a=some o->fq P w n H h a o
end
section
variable{w:World}{H H':Hp}{a:Addr}{o:HO}
theorem fq.lt(x:fq P w nk H h a o):a<h.objs.size:=by
 cases o with
 |lst xs=>obtain⟨_,_,_,_,e⟩:=x;exact aH e
 |tup xs=>obtain⟨_,_,_,p⟩:=x;exact p.lt
 |dK kvs=>obtain⟨_,_,_,_,o,_,_,e,_⟩:=x;exact aH e
 |dT kvs=>obtain⟨_,_,_,_,o,_,_,e,_⟩:=x;exact aH e
 |set S n=>obtain⟨o,_,_,_,e,_⟩:=x;exact aH e
 |ins C dx fs=>obtain⟨_,_,_,e,_⟩:=x;exact aH e
 |own y=>obtain⟨_,e⟩:=x;exact aH e
 |xd fs=>obtain⟨_,⟨_,_,_,e,_⟩,_⟩:=x;exact aH e
 |rng lo hi=>obtain⟨_,_,_,e⟩:=x;exact aH e
 |frz ob u=>obtain⟨e,_⟩:=x;exact aH e
 |tbl ps=>exact aH (show h.get? a=some _ from x)
 |met f y=>exact aH (show h.get? a=some _ from x)
 |ext φ=>obtain⟨_,⟨_,e⟩,_⟩:=x;exact aH e
theorem Paired.mapP{F G:α->β->Prop}:∀{l₁:List α} {l₂:List β},Paired F l₁ l₂->(∀a b,F a b->G a b)->Paired G l₁ l₂
 |_,_,.nil,_=>.nil
 |_,_,.cons r t,f=>.cons (f _ _ r) (Paired.mapP t f)
theorem Paired.imp'{F G:α->β->Prop}(f:∀a b,F a b->G a b){l₁:List α}{l₂:List β}(r:Paired F l₁ l₂):Paired G l₁ l₂:=Paired.mapP r f
theorem fq.stay(x:fq P w nk H h a o)(k:∀b u,(b=a\/H b=some (.own a))->h.get? b=some u->h'.get? b=some u)
  (ho:∀b,H b=some (.own a)->H' b=some (.own a)) (ht:∀b xs,H b=some (.tup xs)->H' b=some (.tup xs)):fq P w nk H' h' a o:=by
 induction o with
 |lst xs=>obtain⟨z,bI,n,r,e⟩:=x;exact⟨z,bI,n,r,k _ _ (.inl rfl) e⟩
 |tup xs=>obtain⟨z,bI,r,ob,e,c⟩:=x;exact⟨z,bI,r,ob,k _ _ (.inl rfl) e,c⟩
 |dK kvs=>obtain⟨z,y,vs,r,ob,es,ep,e,c⟩:=x;exact⟨z,y,vs,r,ob,es,ep,k _ _ (.inl rfl) e,c⟩
 |dT kvs=>
  obtain⟨z,y,xs,r,ob,es,ep,e,c⟩:=x
  exact⟨z,y,xs,Paired.mapP r fun p q z=>⟨z.1,ht _ _ z.2.1,z.2.2⟩,ob,es,ep,k _ _ (.inl rfl) e,c⟩
 |set S n=>obtain⟨ob,es,ep,t,e,c⟩:=x;exact⟨ob,es,ep,t,k _ _ (.inl rfl) e,c⟩
 |ins C dx fs=>
  obtain⟨d,z,ne,e,mA,⟨od,es,ep,e2,c⟩,r⟩:=x
  exact⟨ho _ d,z,ne,k _ _ (.inl rfl) e,mA,⟨od,es,ep,k _ _ (.inr d) e2,c⟩,r⟩
 |own y=>obtain⟨ob,e⟩:=x;exact⟨ob,k _ _ (.inl rfl) e⟩
 |xd fs=>obtain⟨mA,⟨od,es,ep,e,c⟩,r⟩:=x;exact⟨mA,⟨od,es,ep,k _ _ (.inl rfl) e,c⟩,r⟩
 |rng lo hi=>obtain⟨t,u,v,e⟩:=x;exact⟨t,u,v,k _ _ (.inl rfl) e⟩
 |frz ob u ih=>obtain⟨e,q⟩:=x;exact⟨k _ _ (.inl rfl) e,ih q⟩
 |tbl ps=>
  have e:h.get? a=some { cls:=.none,data:=.fields ps }:=x
  show h'.get? a=some { cls:=.none,data:=.fields ps }
  exact k a _ (.inl rfl) e
 |met f y=>
  have e:h.get? a=some (PySem.W.methodObj (.ref f) (.ref y)):=x
  show h'.get? a=some (PySem.W.methodObj (.ref f) (.ref y))
  exact k a _ (.inl rfl) e
 |ext φ=>obtain⟨p,⟨o,e⟩,st⟩:=x;exact⟨st _ _ p fun o q=>k _ _ (.inl rfl) q,⟨o,k _ _ (.inl rfl) e⟩,st⟩
theorem Paired.upR(h:n<=n'){κ:Type}{l₁:List (κ×V)}{l₂:List (κ×Value)}(r:KV n l₁ l₂):KV n' l₁ l₂:=Paired.mapP r fun _ _ z=>⟨z.1,z.2.up h⟩
theorem fq.up(hn:nk<=n')(x:fq P w nk H h a o):fq P w n' H h a o:=by
 induction o with
 |lst xs=>obtain⟨z,bI,n,r,e⟩:=x;exact⟨z,bI,n,r.up hn,e⟩
 |tup xs=>obtain⟨z,bI,r,ob⟩:=x;exact⟨z,bI,r.up hn,ob⟩
 |dK kvs=>obtain⟨z,y,vs,r,ob⟩:=x;exact⟨z,y,vs,Paired.upR hn r,ob⟩
 |dT kvs=>obtain⟨z,y,xs,r,ob⟩:=x;exact⟨z,y,xs,Paired.mapP r fun p q z=>⟨z.1,z.2.1,z.2.2.up hn⟩,ob⟩
 |ins C dx fs=>obtain⟨d,z,ne,e,mA,c,r,q⟩:=x;exact⟨d,z,ne,e,mA,c,fun f=>(r f).up hn,q⟩
 |xd fs=>obtain⟨mA,c,r⟩:=x;exact⟨mA,c,fun f=>(r f).up hn⟩
 |frz ob u ih=>obtain⟨e,q⟩:=x;exact⟨e,ih q⟩
 |_=>exact x
theorem pI.up(hn:nk<=n')(x:pI P w nk H h):pI P w n' H h:=fun a o e=>(x a o e).up hn
theorem pI.lt(x:pI P w nk H h)(e:H a=some o):a<h.objs.size:=(x a o e).lt
theorem pI.fresh(x:pI P w nk H h)(e:h.objs.size<=a):H a=none:=by
 cases q:H a with
 |none=>rfl
 |some u=>exact absurd (aP (x.lt q) e) (dL _)
theorem pI.kept(x:pI P w nk H h)(k:∀b u,h.get? b=some u->h'.get? b=some u):pI P w nk H h':=fun a o e=>
 (x a o e).stay (fun b u _ q=>k b u q) (fun _ q=>q) fun _ _ q=>q
theorem pI.laid(x:pI P w nk H h)(k:∀b u,h.get? b=some u->h'.get? b=some u)(hp:h.objs.size<=a)(new:fq P w nk (fW H a o) h' a o):pI P w nk (fW H a o) h':=fun b u e=>by
 have hn:=x.fresh hp
 by_cases hb:b=a
 ·subst hb;rw[gJ]at e;cases e;exact new
 ·rw[c_ hb]at e
  exact(x b u e).stay (fun c v _ q=>k c v q) (fun c q=>by rw[c_ (fB q hn)];exact q) fun c xs q=>by rw[c_ (fB q hn)];exact q
end
def Rd(H:Hp)(a:Addr)(u:HO):Prop:=H a=some u\/∃o,H a=some (.frz o u)
theorem Rd.ok{w:World}{H:Hp}{a:Addr}{u:HO}(r:Rd H a u)(x:pI P w nk H h):fq P w nk H h a u:=by
 rcases r with r|⟨o,r⟩
 ·exact x a u r
 ·obtain⟨_,q⟩:=x a _ r
  exact q
def PD:Option HO->Prop
 |some (.lst _)=>True
 |some (.dK _)=>True
 |some (.dT _)=>True
 |some (.set _ _)=>True
 |some (.ins _ _ _)=>True
 |some (.ext _)=>True
 |_=>False
section
variable{w:World}{H:Hp}{x e:Addr}{o':HO}
theorem pI.write(ok:pI P w nk H h)(mu:PD (H x))(he:e=x\/H e=some (.own x))(k:∀b u,b≠e->h.get? b=some u->h'.get? b=some u)(Py:∃u,h'.get? e=some u)
  (new:fq P w nk (fW H x o') h' x o'):pI P w nk (fW H x o') h':=fun b u q=>by
 have nown:∀c y,H c=some (.own y)->c≠x:=fun c y r z=>by subst z;rw[r]at mu;exact mu
 have ntup:∀c xs,H c=some (.tup xs)->c≠x:=fun c xs r z=>by subst z;rw[r]at mu;exact mu
 by_cases hb:b=x
 ·subst hb;rw[gJ]at q;cases q;exact new
 ·rw[c_ hb]at q
  by_cases hbe:b=e
  ·have q':H b=some (.own x):=by
    rcases he with z|z
    ·exact absurd (hbe.trans z) hb
    ·rw[hbe];exact z
   rw[q]at q';cases q'
   obtain⟨v,hv⟩:=Py
   exact⟨v,by rw[hbe];exact hv⟩
  ·refine(ok b u q).stay (fun c v hc r=>k c v ?_ r) (fun c r=>by rw[c_ (nown c b r)];exact r) fun c xs r=>by rw[c_ (ntup c xs r)];exact r
   rcases hc with rfl|hc
   ·exact hbe
   ·rintro rfl
    rcases he with z|z
    ·exact nown c b hc z
    ·rw[hc]at z;cases z;exact hb rfl
end
structure Un(fs ex:List Addr)(H H':Hp)(h h':Heap):Prop where
 keep:∀b o,h.get? b=some o->H b=none->b∉fs->b∉ex->h'.get? b=some o
 slot:∀b o,h.get? b=some o->H b=none->b∈fs->b∉ex->∃sl,h'.get? b=some { o with slots:=sl }
 free:∀b o,h.get? b=some o->H b=none->b∉ex->H' b=none
 there:∀b o,h.get? b=some o->b∉ex->∃o',h'.get? b=some o'
 tups:∀b xs,H b=some (.tup xs)->H' b=some (.tup xs)
 frzs:∀b o u,H b=some (.frz o u)->H' b=some (.frz o u)
 tbls:∀b ps,H b=some (.tbl ps)->∃more,H' b=some (.tbl (ps++more))
section
variable{fs Sl ex U':List Addr}{H H1 H2:Hp}{h1 h2:Heap}{a x e:Addr}{o:HO}
theorem Un.any(u:Un fs ex H H1 h h1){b:Addr}{ob:Obj}(q:h.get? b=some ob)(n:H b=none)(hx:b∉ex):∃sl,h1.get? b=some { ob with slots:=sl }:=by
 by_cases hb:b∈fs
 ·exact u.slot b ob q n hb hx
 ·exact⟨ob.slots,u.keep b ob q n hb hx⟩
theorem Un.kept(k:∀b u,h.get? b=some u->h'.get? b=some u):Un fs ex H H h h':=
 ⟨fun b ob q _ _ _=>k b ob q,fun b ob q _ _ _=>⟨ob.slots,k b ob q⟩,fun _ _ _ n _=>n,fun b ob q _=>⟨ob,k b ob q⟩,fun _ _ q=>q,fun _ _ _ q=>q,fun _ ps q=>⟨#[],by rw[q];simp⟩⟩
theorem Un.refl:Un fs ex H H h h:=Un.kept fun _ _ q=>q
theorem Un.laid(k:∀b u,h.get? b=some u->h'.get? b=some u)(hp:h.objs.size<=a)(hn:H a=none):Un fs ex H (fW H a o) h h' where
 keep:=fun b u q _ _ _=>k b u q
 slot:=fun b u q _ _ _=>⟨u.slots,k b u q⟩
 free:=fun b u q n _=>by rw[c_ (bd (aP (aH q) hp))];exact n
 there:=fun b u q _=>⟨u,k b u q⟩
 tups:=fun b xs q=>by rw[c_ (fB q hn)];exact q
 frzs:=fun b u xs q=>by rw[c_ (fB q hn)];exact q
 tbls:=fun b ps q=>⟨#[],by rw[c_ (fB q hn),q];simp⟩
theorem Un.write(mu:PD (H x))(he:e=x\/H e=some (.own x))(k:∀b u,b≠e->h.get? b=some u->h'.get? b=some u)(Py:∃u,h'.get? e=some u):Un fs ex H (fW H x o) h h':=by
 have hx:∀b,H b=none->b≠x:=fun b n z=>by subst z;rw[n]at mu;exact mu
 have hb:∀b,H b=none->b≠e:=fun b n z=>by
  subst z
  rcases he with r|r
  ·exact hx b n r
  ·rw[n]at r;cases r
 have hm:∀b u,H b=some u->¬ PD (some u)->b≠x:=fun b u q nm z=>by subst z;rw[q]at mu;exact nm mu
 refine⟨fun b u q n _ _=>k b u (hb b n) q,fun b u q n _ _=>⟨u.slots,k b u (hb b n) q⟩,fun b u q n _=>by rw[c_ (hx b n)];exact n,fun b u q _=>?_,
  fun b xs q=>by rw[c_ (hm b _ q fun z=>z)];exact q,fun b u xs q=>by rw[c_ (hm b _ q fun z=>z)];exact q,fun b ps q=>⟨#[],by rw[c_ (hm b _ q fun z=>z),q];simp⟩⟩
 by_cases hbe:b=e
 ·subst hbe;exact Py
 ·exact⟨u,k b u hbe q⟩
end
def Sn(h:Heap)(H:Hp):List Addr:=(List.range h.objs.size).filter fun a=>(H a).isSome
def yo(h:Heap)(H:Hp):Heap:=hideAll h (Sn h H)
theorem D9(h:Heap)(H:Hp):(yo h H).objs.size=h.objs.size:=PySem.W.hideAll_size _ _
theorem Fk{H:Hp}{b:Addr}{o:Obj}(e:h.get? b=some o)(n:H b=none):(yo h H).get? b=some o:=
 PySem.W.hideAll_get _ e fun hm=>by
  have q:(H b).isSome=true:=(iU.mp hm).2
  rw[n]at q;simp at q
theorem Jm{H:Hp}{b:Addr}{o:Obj}(e:(yo h H).get? b=some o):h.get? b=some o/\H b=none:=by
 have e':h.get? b=some o:=PySem.W.of_hideAll (Sn h H) e
 refine⟨e',?_⟩
 cases q:H b with
 |none=>rfl
 |some x=>
  have hm:b∈Sn h H:=iU.mpr ⟨li.mpr (aH e'),by simp[q]⟩
  have z:(yo h H).get? b=none:=PySem.W.hideAll_none (Sn h H) hm
  rw[z]at e;cases e
noncomputable def Jn(g h:Heap)(L:Addr):List (Addr×Obj):=(List.range h.objs.size).filterMap fun a=>if a=L\/(g.get? a).isSome=true then none else(h.get? a).map fun o=>(a,o)
def iJ(g h:Heap)(L d:Addr):List (Addr×Obj):=(Jn g h L).filter fun p=>decide (p.1≠d)
end L2
variable{H H':L2.Hp}{y:L2.V}{vs:List L2.V}
namespace L2
open PySem PySem.Spec PyProof.Rows
structure Mod(K:Frag)(mg:Str->Option Value)(base:Heap):Prop where
 kin:K.In base
 glob:base.Ns mainGlobals mg
 blt:∃mb,base.Ns builtinsNs mb/\∀x:Str,x ≠ "__name__"->mb x=bootBuiltins x
 nolimit:base.NoLimit
structure Cx where
 prog:Program
 w:World
 K:Frag
 mg:Str->Option Value
 base:Heap
 A:Around
 N:List Str
 s₀:Shared
 H₀:Hp
 env:Env
 outer:List Env
 stack:List Env
 ex:List Addr
 fn:Str->Bool
 calm:Bool
 pn:List (Addr×Obj)
 xe:Value->Shared->Prop
noncomputable def uN(l:List Env):List Addr:=l.filterMap (·.frame)
abbrev Cx.fs(X:Cx):List Addr:=uN X.outer
def PF(sc:Scope)(x:Str):Prop:=sc.names.lookup x=some .local\/sc.names.lookup x=some .cell\/sc.names.lookup x=some .free
def Jo(sc:Scope)(x:Str):Prop:=sc.names.lookup x=some .local\/sc.names.lookup x=some .cell
def S_(env:Env)(h:Heap)(m:Str->Option Value)(x:Str)(u:Value):Prop:=
 (env.kindOf x=some .local/\m x=some u)\/((env.kindOf x=some .cell\/env.kindOf x=some .free)/\∃c,env.cells.lookup x=some c/\h.IsCell c (some u))
structure Cx.Ok(X:Cx):Prop where
 mod:Mod X.K X.mg X.base
 kind:X.env.scope.kind=.function
 glob:X.env.globals=mainGlobals
 blt:X.env.builtins=builtinsNs
 above:X.s₀.heap.objs.size<=X.env.locals
 inj:∀x y c,X.env.cells.lookup x=some c->X.env.cells.lookup y=some c->x=y
 has:∀x,(X.env.kindOf x=some .cell\/X.env.kindOf x=some .free)->∃c,X.env.cells.lookup x=some c
 cab:∀x c,X.fn x=true->X.env.cells.lookup x=some c->X.s₀.heap.objs.size<=c
 hd:X.calm=true->X.A.handled=none
 frames:X.A.frames=some X.stack
 stk:X.stack=X.outer\/(X.stack=X.env::X.outer/\X.env.frame=some X.env.locals)
 exf:∀b∈X.ex,b≠X.env.locals/\∀x c,X.env.cells.lookup x=some c->c≠b
 bs:∀b o,X.base.get? b=some o->X.s₀.heap.get? b=some o/\X.H₀ b=none
 bsz:X.base.objs.size<=X.s₀.heap.objs.size
 noex:∀b o,X.base.get? b=some o->b∉X.ex
 exfs:∀b∈X.ex,b∉X.fs
 funs:X.s₀.heap.FunFrames X.base X.outer
 frf:∀b∈X.fs,X.H₀ b=none
structure bT(X:Cx)(aj:List (Addr×Obj))(σ:List (Option V))(H:Hp)(s:Shared):Prop where
 ok:X.Ok
 os:s.os=X.s₀.os
 bare:AllBare s.gens
 base:Un X.fs X.ex X.H₀ H X.s₀.heap s.heap
 loc:∃m,s.heap.Ns X.env.locals m/\∀(i:Nat) (x:Str) (v:V),X.N[i]?=some x->σ[i]?=some (some v)->PF X.env.scope x->∃u,cS s.toks v u/\S_ X.env s.heap m x u
 cell:∀x c,X.env.cells.lookup x=some c->∃v,s.heap.IsCell c v
 free:H X.env.locals=none
 freeC:∀x c,X.env.cells.lookup x=some c->H c=none
 pin:∀p∈X.pn++aj,s.heap.get? p.1=some p.2/\H p.1=none/\p.1≠X.env.locals/\p.1∉X.fs/\∀v,p.2.data≠.cell v
 hok:pI X.prog X.w s.toks H s.heap
 len:σ.length=X.N.length
 pos:0<s.toks
 tk:X.s₀.toks<=s.toks
section
variable{X:Cx}{σ:List (Option V)}
theorem Cx.Ok.nofr(ok:X.Ok){b:Addr}{o:Obj}(e:X.base.get? b=some o):b∉X.fs:=fun hb=>by
 have:=(ok.funs.mem hb).1
 rw[e]at this;cases this
theorem bT.bs(I:bT X aj σ H s):∀b o,X.base.get? b=some o->s.heap.get? b=some o/\H b=none:=fun b o e=>
 ⟨I.base.keep b o (I.ok.bs b o e).1 (I.ok.bs b o e).2 (I.ok.nofr e) (I.ok.noex b o e),I.base.free b o (I.ok.bs b o e).1 (I.ok.bs b o e).2 (I.ok.noex b o e)⟩
theorem bT.bk(I:bT X aj σ H s):∀b o,X.base.get? b=some o->s.heap.get? b=some o:=fun b o e=>(I.bs b o e).1
theorem bT.mod(I:bT X aj σ H s):Mod X.K X.mg X.base:=I.ok.mod
theorem bT.kIn(I:bT X aj σ H s):X.K.In s.heap:=I.ok.mod.kin.keeps I.bk
theorem bT.lt(I:bT X aj σ H s):X.env.locals<s.heap.objs.size:=let ⟨_,hn,_⟩:=I.loc;hn.lt
theorem bT.sz(I:bT X aj σ H s):X.s₀.heap.objs.size<=s.heap.objs.size:=aN I.ok.above (fY I.lt)
theorem bT.nofs(I:bT X aj σ H s){a:Addr}(h:s.heap.objs.size<=a):a∉X.fs:=fun hb=>by
 obtain⟨_,o,ho,_⟩:=I.ok.funs.mem hb
 exact absurd (aP (aH ho) (aN I.sz h)) (dL _)
theorem bT.cne(I:bT X aj σ H s):∀x c,X.env.cells.lookup x=some c->c≠X.env.locals:=fun x c e z=>by
 obtain⟨v,o,ho,hd⟩:=I.cell x c e
 obtain⟨m,⟨o',es,ep,ho',hd',_⟩,_⟩:=I.loc
 rw[z,ho']at ho;cases ho;rw[hd']at hd;cases hd
theorem bT.funs(I:bT X aj σ H s):s.heap.FunFrames X.base X.outer:=by
 have all:∀(l:List Env),(∀b∈uN l,b∈X.fs)->X.s₀.heap.FunFrames X.base l->s.heap.FunFrames X.base l:=by
  intro l
  induction l with
  |nil=>intro _ _;trivial
  |cons env r ih=>
   intro hs hl
   obtain⟨hk,⟨L,o,hf,hn,ho,hd⟩,hr⟩:=hl
   have hL:L∈X.fs:=hs L (by unfold uN;rw[gc,hf];exact bC)
   obtain⟨sl,e⟩:=I.base.slot L o ho (I.ok.frf L hL) hL fun z=>I.ok.exfs L z hL
   exact⟨hk,⟨L,_,hf,hn,e,hd⟩,ih (fun b hb=>hs b (by unfold uN;rw[gc,hf];exact aS _ hb)) hr⟩
 exact all X.outer (fun _ hb=>hb) I.ok.funs
theorem bT.stack(I:bT X aj σ H s):s.heap.FunFrames X.base X.stack:=by
 rcases I.ok.stk with e|⟨e,hf⟩
 ·rw[e];exact I.funs
 ·rw[e]
  obtain⟨m,hn,_⟩:=I.loc
  refine .cons (by rw[I.ok.kind];decide) hf hn ?_ I.funs
  exact Heap.get?_none_of_le (aN I.ok.bsz I.ok.above)
theorem bT.stkSub(I:bT X aj σ H s):∀b∈uN X.stack,b∈X.env.locals::X.fs:=fun b hb=>by
 rcases I.ok.stk with e|⟨e,hf⟩
 ·rw[e]at hb;exact aS _ hb
 ·rw[e]at hb
  unfold uN at hb
  rw[gc,hf]at hb
  exact hb
theorem bT.stkFree(I:bT X aj σ H s):∀b∈uN X.stack,H b=none:=fun b hb=>by
 rcases aT.mp (I.stkSub b hb)with e|hb
 ·rw[e];exact I.free
 ·obtain⟨_,o,ho,_⟩:=I.ok.funs.mem hb
  exact I.base.free b o ho (I.ok.frf b hb) fun z=>I.ok.exfs b z hb
theorem bT.step{g':Array GenState}{t':Nat}{d':Drawn}{ch:List Addr}(I:bT X aj σ H s)
  (Jk:∀b∈ch,(b∈X.ex\/X.s₀.heap.objs.size<=b)/\b≠X.env.locals/\(∀x c,X.env.cells.lookup x=some c->c≠b)/\∀p∈X.pn++aj,p.1≠b)
  (keep:∀b o,b≠X.env.locals->b∉X.fs->b∉ch->s.heap.get? b=some o->H b=none->h'.get? b=some o)
  (slot:∀b o,b≠X.env.locals->b∈X.fs->b∉ch->s.heap.get? b=some o->H b=none->∃sl,h'.get? b=some { o with slots:=sl }) (free:∀b o,b∉ch->s.heap.get? b=some o->H b=none->H' b=none)
  (there:∀b o,b∉ch->s.heap.get? b=some o->∃o',h'.get? b=some o')
  (tups:∀b xs,H b=some (.tup xs)->H' b=some (.tup xs)) (frzs:∀b o u,H b=some (.frz o u)->H' b=some (.frz o u)) (tbls:∀b ps,H b=some (.tbl ps)->∃more,H' b=some (.tbl (ps++more)))
  (ns:∀m,s.heap.Ns X.env.locals m->h'.Ns X.env.locals m) (hok:pI X.prog X.w t' H' h') (hg:AllBare g') (hk:s.toks<=t') :
  bT X aj σ H' { s with heap:=h',gens:=g',drawn:=d',toks:=t' }:=by
 have neL:∀b o,X.s₀.heap.get? b=some o->b≠X.env.locals:=fun b o e=>bd (aP (aH e) I.ok.above)
 have neC:∀b o,X.s₀.heap.get? b=some o->b∉X.ex->b∉ch:=fun b o e hx hb=>by
  rcases(Jk b hb).1 with z|z
  ·exact hx z
  ·exact absurd (aP (aH e) z) (dL _)
 have cellK:∀x c,X.env.cells.lookup x=some c->∀v,s.heap.IsCell c v->h'.IsCell c v:=fun x c e v zq=>by
  obtain⟨o,ho,hd⟩:=zq
  have nch:c∉ch:=fun z=>(Jk c z).2.2.1 x c e rfl
  by_cases hc:c∈X.fs
  ·obtain⟨sl,q⟩:=slot c o (I.cne x c e) hc nch ho (I.freeC x c e)
   exact⟨_,q,hd⟩
  ·exact⟨o,keep c o (I.cne x c e) hc nch ho (I.freeC x c e),hd⟩
 refine⟨I.ok,I.os,hg,⟨fun b o e n hb hx=>?_,fun b o e n hb hx=>?_,fun b o e n hx=>?_,fun b o e hx=>?_,fun b xs e=>tups b xs (I.base.tups b xs e),fun b o xs e=>frzs b o xs (I.base.frzs b o xs e),fun b ps e=>?_⟩,?_,fun x c e=>?_,?_,fun x c e=>?_,fun p hp=>?_,hok,I.len,aP I.pos hk,aN I.tk hk⟩
 ·exact keep b o (neL b o e) hb (neC b o e hx) (I.base.keep b o e n hb hx) (I.base.free b o e n hx)
 ·obtain⟨sl,e1⟩:=I.base.slot b o e n hb hx
  obtain⟨sl',e2⟩:=slot b _ (neL b o e) hb (neC b o e hx) e1 (I.base.free b o e n hx)
  exact⟨sl',e2⟩
 ·obtain⟨o',e1⟩:=I.base.there b o e hx
  exact free b o' (neC b o e hx) e1 (I.base.free b o e n hx)
 ·obtain⟨o',e1⟩:=I.base.there b o e hx
  exact there b o' (neC b o e hx) e1
 ·obtain⟨m1,e1⟩:=I.base.tbls b ps e
  obtain⟨m2,e2⟩:=tbls b _ e1
  exact⟨m1++m2,by rw[e2,Array.append_assoc]⟩
 ·obtain⟨m,hn,hl⟩:=I.loc
  refine⟨m,ns m hn,fun i x v e1 e2 e3=>?_⟩
  obtain⟨u,r,l⟩:=hl i x v e1 e2 e3
  refine⟨u,r.up hk,?_⟩
  rcases l with l|⟨k,c,e,z⟩
  ·exact .inl l
  ·exact .inr ⟨k,c,e,cellK x c e _ z⟩
 ·obtain⟨v,z⟩:=I.cell x c e
  exact⟨v,cellK x c e v z⟩
 ·obtain⟨m,⟨o,_,_,ho,_⟩,_⟩:=I.loc
  exact free _ o (fun z=>(Jk _ z).2.1 rfl) ho I.free
 ·obtain⟨v,o,ho,hd⟩:=I.cell x c e
  exact free c o (fun z=>(Jk c z).2.2.1 x c e rfl) ho (I.freeC x c e)
 ·obtain⟨e,n,ne,nf,d⟩:=I.pin p hp
  have nch:p.1∉ch:=fun z=>(Jk p.1 z).2.2.2 p hp rfl
  exact⟨keep p.1 p.2 ne nf nch e n,free p.1 p.2 nch e n,ne,nf,d⟩
theorem bT.un{t':Nat}(I:bT X aj σ H s)(u:Un X.fs [] H H' s.heap h')(hok:pI X.prog X.w t' H' h')(hk:s.toks<=t':=by first|exact az _|exact bp _|assumption|omega):bT X aj σ H' { s with heap:=h',toks:=t' }:=by
 obtain⟨m,⟨o,es,ep,ho,r⟩,_⟩:=id I.loc
 obtain⟨sl,hL⟩:=u.any ho I.free #[15]
 exact I.step (g':=s.gens) (d':=s.drawn) (ch:=[]) (fun _ z=>nomatch z) (fun b o _ hb _ e n=>u.keep b o e n hb #[15]) (fun b o _ hb _ e n=>u.slot b o e n hb #[15]) (fun b o _ e n=>u.free b o e n #[15]) (fun b o _ e=>u.there b o e #[15]) u.tups u.frzs u.tbls (fun m' hm=>by
  obtain⟨o',es',ep',ho',r'⟩:=hm
  rw[ho]at ho';cases ho'
  exact⟨_,es',ep',hL,r'⟩) hok I.bare hk
theorem bT.call{g':Array GenState}{t':Nat}{d':Drawn}{ch:List Addr}(I:bT X aj σ H s)(u:Un (uN X.stack) ch H H' s.heap h')(hok:pI X.prog X.w t' H' h')(hg:AllBare g')
  (Jk:∀b∈ch,(b∈X.ex\/X.s₀.heap.objs.size<=b)/\b≠X.env.locals/\(∀x c,X.env.cells.lookup x=some c->c≠b)/\∀p∈X.pn++aj,p.1≠b) (hk:s.toks<=t') :
  bT X aj σ H' { s with heap:=h',gens:=g',drawn:=d',toks:=t' }:=by
 obtain⟨m,⟨o,es,ep,ho,r⟩,_⟩:=id I.loc
 obtain⟨sl,hL⟩:=u.any ho I.free fun z=>(Jk _ z).2.1 rfl
 exact I.step (ch:=ch) Jk (fun b o hL hb hc e n=>u.keep b o e n (fun z=>(aT.mp (I.stkSub b z)).elim hL hb) hc) (fun b o _ _ hc e n=>u.any e n hc) (fun b o hc e n=>u.free b o e n hc) (fun b o hc e=>u.there b o e hc) u.tups u.frzs u.tbls (fun m' hm=>by
  obtain⟨o',es',ep',ho',r'⟩:=hm
  rw[ho]at ho';cases ho'
  exact⟨_,es',ep',hL,r'⟩) hok hg hk
theorem bT.turned{t':Nat}{it:Addr}(I:bT X aj σ H s)(k:∀b o,b≠it->s.heap.get? b=some o->h'.get? b=some o)(hn:H it=none)(hL:it≠X.env.locals)
  (h1:it∈X.ex\/X.s₀.heap.objs.size<=it) (h2:∀x c,X.env.cells.lookup x=some c->c≠it) (h3:∀p∈X.pn++aj,p.1≠it) (hk:s.toks<=t':=by first|exact az _|exact bp _|assumption|omega):bT X aj σ H { s with heap:=h',toks:=t' }:=by
 have nit:∀b u,H b=some u->b≠it:=fun b u e z=>by rw[z,hn]at e;cases e
 refine I.step (g':=s.gens) (d':=s.drawn) (ch:=[it]) (fun b hb=>?_) (fun b o _ _ hc e _=>k b o (fun z=>hc (by simp[z])) e) (fun b o _ _ hc e _=>⟨o.slots,k b o (fun z=>hc (by simp[z])) e⟩) (fun _ _ _ _ n=>n)
  (fun b o hc e=>⟨o,k b o (fun z=>hc (by simp[z])) e⟩) (fun _ _ e=>e) (fun _ _ _ e=>e) (fun b ps e=>⟨#[],by rw[e];simp⟩) (fun m hm=>?_) (fun b u e=>?_) I.bare hk
 ·have e:b=it:=by simpa using hb
  subst e
  exact⟨h1,hL,h2,h3⟩
 ·obtain⟨o,es,ep,ho,r⟩:=hm
  exact⟨o,es,ep,k _ o (Ne.symm hL) ho,r⟩
 ·refine((I.hok b u e).up hk).stay (fun c v hc q=>k c v ?_ q) (fun _ q=>q) fun _ _ q=>q
  rcases hc with z|z
  ·rw[z];exact nit b u e
  ·exact nit c _ z
theorem bT.tok(I:bT X aj σ H s)(t:Nat)(hk:s.toks<=t:=by first|exact az _|exact bp _|assumption|omega):bT X aj σ H { s with toks:=t }:=I.un (h':=s.heap) (t':=t) Un.refl (I.hok.up hk) hk
theorem bT.kept{t':Nat}(I:bT X aj σ H s)(k:∀b u,s.heap.get? b=some u->h'.get? b=some u)(hk:s.toks<=t':=by first|exact az _|exact bp _|assumption|omega):bT X aj σ H { s with heap:=h',toks:=t' }:=I.un (Un.kept k) ((I.hok.kept k).up hk) hk
theorem bT.laid{a:Addr}{o:HO}{t':Nat}(I:bT X aj σ H s)(k:∀b u,s.heap.get? b=some u->h'.get? b=some u)(hp:s.heap.objs.size<=a)(new:fq X.prog X.w t' (fW H a o) h' a o)(hk:s.toks<=t':=by first|exact az _|exact bp _|assumption|omega) :
  bT X aj σ (fW H a o) { s with heap:=h',toks:=t' }:=I.un (Un.laid k hp (I.hok.fresh hp)) ((I.hok.up hk).laid k hp new) hk
theorem bT.write{x e:Addr}{o:HO}(I:bT X aj σ H s)(mu:PD (H x))(he:e=x\/H e=some (.own x))(k:∀b u,b≠e->s.heap.get? b=some u->h'.get? b=some u)(Py:∃u,h'.get? e=some u)
  (new:fq X.prog X.w t' (fW H x o) h' x o) (hk:s.toks<=t':=by first|exact az _|exact bp _|assumption|omega):bT X aj σ (fW H x o) { s with heap:=h',toks:=t' }:=I.un (Un.write mu he k Py) ((I.hok.up hk).write mu he k Py new) hk
theorem bT.pins_of{pins':List (Addr×Obj)}(I:bT X aj σ H s)(h:∀p∈pins',s.heap.get? p.1=some p.2/\H p.1=none/\p.1≠X.env.locals/\p.1∉X.fs/\∀v,p.2.data≠.cell v):bT X pins' σ H s:=
 ⟨I.ok,I.os,I.bare,I.base,I.loc,I.cell,I.free,I.freeC,fun p hp=>(aX.mp hp).elim (fun z=>I.pin p (bZ _ z)) (h p),I.hok,I.len,I.pos,I.tk⟩
theorem zU{N:List Str}(hN:N.Nodup){x:Str}(a:N[i]?=some x)(b:N[j]?=some x):i=j:=by
 obtain⟨h1,e1⟩:=au.mp a
 obtain⟨h2,e2⟩:=au.mp b
 exact(List.getElem_inj hN).mp (e1.trans e2.symm)
theorem D_{M:Model}{A:Around}{E:Value->Shared->Prop}{x:Str}{v:V}{Q:Unit->Shared->Prop}(I:bT X aj σ H s)(hN:X.N.Nodup)(hi:X.N[i]?=some x)(hx:Jo X.env.scope x)(r:cS s.toks v u)
  (h:∀s',bT X aj (σ.set i (some v)) H s'->(∃a,Heap.SameBut a s.heap s'.heap/\(a=X.env.locals\/X.env.cells.lookup x=some a))->Q () s') (hf:X.fn x=true\/X.env.scope.names.lookup x=some .local:=by first|exact .inl rfl|exact .inr rfl|assumption):wpAny M A (storeName X.env x u) Q E s:=by
 obtain⟨m,hn,hl⟩:=id I.loc
 have hcls:(X.env.scope.kind==.class||(X.env.scope.kind==.module&&X.env.locals != X.env.globals))=false:=by rw[I.ok.kind];rfl
 have hiσ:i<σ.length:=by rw[I.len];exact(au.mp hi).1
 have cne:=I.cne
 have tracked:∀{a:Addr} {h':Heap},(∃o,s.heap.get? a=some o/\H a=none)->Heap.SameBut a s.heap h'->pI X.prog X.w s.toks H h':=fun{a h'} ha hs b ob e=>by
  obtain⟨_,_,hfree⟩:=ha
  refine(I.hok b ob e).stay (fun c w' hc q=>(hs.2 c ?_).trans q) (fun _ q=>q) fun _ _ q=>q
  rintro rfl
  rcases hc with rfl|hc
  ·rw[hfree]at e;cases e
  ·rw[hfree]at hc;cases hc
 rcases hx with hk|hk
 ·refine n5 hk hn (fun h' hn' hs=>?_) hcls
  obtain⟨oL,_,_,hoL,_⟩:=id hn
  refine h { s with heap:=h',toks:=s.toks+1 } ⟨I.ok,I.os,I.bare,⟨fun b o e n hb hx=>?_,fun b o e n hb hx=>?_,I.base.free,fun b o e hx=>?_,I.base.tups,I.base.frzs,I.base.tbls⟩,⟨_,hn',fun j y v' e1 e2 e3=>?_⟩,fun y c e=>?_,I.free,I.freeC,fun p hp=>?_,(tracked ⟨oL,hoL,I.free⟩ hs).up (bp _),by simpa using I.len,Nat.succ_pos _,hJ I.tk⟩ ⟨_,hs,.inl rfl⟩
  ·exact(hs.2 b (bd (aP (aH e) I.ok.above))).trans (I.base.keep b o e n hb hx)
  ·obtain⟨sl,e1⟩:=I.base.slot b o e n hb hx
   exact⟨sl,(hs.2 b (bd (aP (aH e) I.ok.above))).trans e1⟩
  ·obtain⟨o',e1⟩:=I.base.there b o e hx
   exact⟨o',(hs.2 b (bd (aP (aH e) I.ok.above))).trans e1⟩
  ·by_cases hj:j=i
   ·subst hj
    rw[hi]at e1;cases e1
    rw[cr hiσ]at e2
    cases e2
    exact⟨u,r.up (bp _),.inl ⟨hk,by simp⟩⟩
   ·rw[cX (Ne.symm hj)]at e2
    obtain⟨u',r',q⟩:=hl j y v' e1 e2 e3
    refine⟨u',r'.up (bp _),?_⟩
    rcases q with⟨k,e⟩|⟨k,c,e,z⟩
    ·refine .inl ⟨k,?_⟩
     have:y≠x:=fun e=>hj (zU hN e1 (e▸hi))
     simp[this,e]
    ·exact .inr ⟨k,c,e,z.sameBut hs (cne y c e)⟩
  ·obtain⟨w',z⟩:=I.cell y c e
   exact⟨w',z.sameBut hs (cne y c e)⟩
  ·obtain⟨e,n,ne,nf,d⟩:=I.pin p hp
   exact⟨(hs.2 p.1 ne).trans e,n,ne,nf,d⟩
 ·have hfn:X.fn x=true:=by
   rcases hf with z|z
   ·exact z
   ·rw[z]at hk;cases hk
  obtain⟨c,hc⟩:=I.ok.has x (.inl hk)
  obtain⟨w',z⟩:=I.cell x c hc
  refine wpAny_storeName_cell I.ok.kind hk hc z (fun h' hc' hs=>?_)
  obtain⟨oc,hoc,hocd⟩:=id z
  refine h { s with heap:=h' } ⟨I.ok,I.os,I.bare,⟨fun b o e n hb hx=>?_,fun b o e n hb hx=>?_,I.base.free,fun b o e hx=>?_,I.base.tups,I.base.frzs,I.base.tbls⟩,⟨m,hn.sameBut hs (Ne.symm (cne x c hc)),fun j y v' e1 e2 e3=>?_⟩,fun y c' e=>?_,I.free,I.freeC,fun p hp=>?_,tracked ⟨oc,hoc,I.freeC x c hc⟩ hs,by simpa using I.len,I.pos,I.tk⟩ ⟨c,hs,.inr hc⟩
  ·exact(hs.2 b (bd (aP (aH e) (I.ok.cab x c hfn hc)))).trans (I.base.keep b o e n hb hx)
  ·obtain⟨sl,e1⟩:=I.base.slot b o e n hb hx
   exact⟨sl,(hs.2 b (bd (aP (aH e) (I.ok.cab x c hfn hc)))).trans e1⟩
  ·obtain⟨o',e1⟩:=I.base.there b o e hx
   exact⟨o',(hs.2 b (bd (aP (aH e) (I.ok.cab x c hfn hc)))).trans e1⟩
  ·by_cases hj:j=i
   ·subst hj
    rw[hi]at e1;cases e1
    rw[cr hiσ]at e2
    cases e2
    exact⟨u,r,.inr ⟨.inl hk,c,hc,hc'⟩⟩
   ·rw[cX (Ne.symm hj)]at e2
    obtain⟨u',r',q⟩:=hl j y v' e1 e2 e3
    refine⟨u',r',?_⟩
    rcases q with q|⟨k,c',e,z'⟩
    ·exact .inl q
    ·refine .inr ⟨k,c',e,z'.sameBut hs ?_⟩
     rintro rfl
     exact hj (zU hN e1 (I.ok.inj _ _ _ e hc▸hi))
  ·by_cases hcc:c'=c
   ·subst hcc;exact⟨_,hc'⟩
   ·obtain⟨w2,z2⟩:=I.cell y c' e
    exact⟨w2,z2.sameBut hs hcc⟩
  ·obtain⟨e,n,ne,nf,d⟩:=I.pin p hp
   refine⟨(hs.2 p.1 ?_).trans e,n,ne,nf,d⟩
   intro q
   rw[q,hoc]at e
   have q':oc=p.2:=bq e
   exact d w' (by rw[<- q'];exact hocd)
theorem zV{M:Model}{A:Around}{E:Value->Shared->Prop}{x:Str}{v:V}{Q:Unit->Shared->Prop}(I:bT X aj σ H s)(hN:X.N.Nodup)(hi:X.N[i]?=some x)(hx:Jo X.env.scope x)(r:cS s.toks v u)
  (h:∀s',bT X aj (σ.set i (some v)) H s'->Q () s') (hf:X.fn x=true\/X.env.scope.names.lookup x=some .local:=by first|exact .inl rfl|exact .inr rfl|assumption):wpAny M A (storeName X.env x u) Q E s:=
 D_ I hN hi hx r (fun s' I' _=>h s' I') hf
theorem bT.call'{s':Shared}{ch:List Addr}(I:bT X aj σ H s)(ho:s'.os=s.os)(u:Un (uN X.stack) ch H H' s.heap s'.heap)(hok:pI X.prog X.w s'.toks H' s'.heap)(hg:AllBare s'.gens)
  (Jk:∀b∈ch,(b∈X.ex\/X.s₀.heap.objs.size<=b)/\b≠X.env.locals/\(∀x c,X.env.cells.lookup x=some c->c≠b)/\∀p∈X.pn++aj,p.1≠b) (hk:s.toks<=s'.toks):bT X aj σ H' s':=by
 obtain⟨h',g',d',t',o'⟩:=s'
 have e:o'=s.os:=ho
 subst e
 exact I.call (g':=g') (t':=t') (d':=d') u hok hg Jk hk
end
abbrev XK:=Value->Option Addr->Hp->Prop
noncomputable abbrev St:=List (Option V)
abbrev VK:=V->Hp->Prop
abbrev TE:=St->Hp->VK->Prop
abbrev TT:=St->Hp->(Bool->Hp->Prop)->Prop
abbrev TA:=St->Hp->(List V->Hp->Prop)->Prop
structure yp where
 nx:St->Hp->Prop
 rt:VK
 bk:St->Hp->Prop:=fun _ _=>False
 ct:St->Hp->Prop:=fun _ _=>False
abbrev TS:=yp->St->Hp->Prop
def EP(X:Cx)(aj:List (Addr×Obj))(σ:St)(Q:VK)(u:Value)(s':Shared):Prop:=∃v H',bT X aj σ H' s'/\cS s'.toks v u/\Q v H'
def TP(X:Cx)(aj:List (Addr×Obj))(σ:St)(Q:Bool->Hp->Prop)(b:Bool)(s':Shared):Prop:=∃H',bT X aj σ H' s'/\Q b H'
def AP(X:Cx)(aj:List (Addr×Obj))(σ:St)(Q:List V->Hp->Prop)(us:List Value)(s':Shared):Prop:=∃vs H',bT X aj σ H' s'/\cL s'.toks vs us/\Q vs H'
def SP(X:Cx)(aj:List (Addr×Obj))(D:yp)(f:Flow)(s':Shared):Prop:=
 match f with
 |.next=>∃σ' H',bT X aj σ' H' s'/\D.nx σ' H'
 |.brk=>∃σ' H',bT X aj σ' H' s'/\D.bk σ' H'
 |.cont=>∃σ' H',bT X aj σ' H' s'/\D.ct σ' H'
 |.ret u=>∃v σ' H',bT X aj σ' H' s'/\cS s'.toks v u/\D.rt v H'
def PE(X:Cx)(e:Expr)(t:TE):Prop:=
 ∀(aj:List (Addr×Obj)) (s:Shared) (σ:St) (H:Hp) (Q:VK),bT X aj σ H s->t σ H Q->wpAny #[3] X.A (eval e X.env) (EP X aj σ Q) X.xe s
def PT(X:Cx)(e:Expr)(t:TT):Prop:=
 ∀(aj:List (Addr×Obj)) (s:Shared) (σ:St) (H:Hp) (Q:Bool->Hp->Prop),bT X aj σ H s->t σ H Q->wpAny #[3] X.A (isTrue e X.env (eval e X.env)) (TP X aj σ Q) X.xe s
def PW(X:Cx)(e:Expr)(t:TT):Prop:=
 ∀(whole:Sem Value) (aj:List (Addr×Obj)) (s:Shared) (σ:St) (H:Hp) (Q:Bool->Hp->Prop),bT X aj σ H s->t σ H Q->wpAny #[3] X.A (isTrue e X.env whole) (TP X aj σ Q) X.xe s
theorem PW.pt{X:Cx}{t:TT}(h:PW X e t):PT X e t:=h _
def PA(X:Cx)(es:List Expr)(t:TA):Prop:=
 ∀(pos:Pos) (aj:List (Addr×Obj)) (s:Shared) (σ:St) (H:Hp) (Q:List V->Hp->Prop),bT X aj σ H s->t σ H Q->wpAny #[3] X.A (spliced (backTo pos (starEach es X.env))) (AP X aj σ Q) X.xe s
def PS(X:Cx)(st:Stmt)(t:TS):Prop:=
 ∀(aj:List (Addr×Obj)) (s:Shared) (σ:St) (H:Hp) (D:yp),bT X aj σ H s->t D σ H->wpAny #[3] X.A (exec st X.env) (SP X aj D) X.xe s
def D'(X:Cx)(st:List Stmt)(t:TS):Prop:=
 ∀(aj:List (Addr×Obj)) (s:Shared) (σ:St) (H:Hp) (D:yp),bT X aj σ H s->t D σ H->wpAny #[3] X.A (execs st X.env) (SP X aj D) X.xe s
theorem jC{t:Sem α}{Q Q':α->Shared->Prop}(h:wpAny M A t Q E s)(hQ:∀a s',s.toks<=s'.toks->Q a s'->Q' a s'):wpAny M A t Q' E s:=
 up (lj h (fun a s' q k=>hQ a s' k q) fun _ _ x _=>x)
theorem Da{t:Sem α}{Q Q':α->Shared->Prop}(h:wpAny M A t Q E s)(hQ:∀a s,Q a s->Q' a s):wpAny M A t Q' E s:=lj h hQ fun _ _ x=>x
end L2
variable{X:L2.Cx}{σ:L2.St}{te:L2.TE}
namespace L2
open PySem PySem.Spec PyProof.Rows
section
def PH(i:Nat):TE:=fun σ H Q=>∃v,σ[i]?=some (some v)/\Q v H
def tC(v:V):TE:=fun _ H Q=>Q v H
theorem Mm{x:Str}{pos:Pos}(hN:X.N[i]?=some x)(hv:PF X.env.scope x)(hd:(x==("__debug__":Str))=false:=by decide)(Fb:(x==("__classdict__":Str))=false:=by decide):PE X (.Name x pos) (PH i):=by
 intro aj s σ H Q I h
 obtain⟨v,e,h⟩:=h
 obtain⟨m,hn,hl⟩:=I.loc
 obtain⟨u,r,l⟩:=hl i x v hN e hv
 have kJ:EP X aj σ Q u s:=⟨v,H,I,r,h⟩
 rcases l with⟨hk,hm⟩|⟨hk,c,hc,hG⟩
 ·exact wpAny_Name (wpAny_loadName_local I.ok.kind hk hn hm kJ) hd
 ·rcases hk with hk|hk
  ·exact wpAny_Name (wpAny_loadName_cell I.ok.kind hk hc hG kJ) hd
  ·exact wpAny_Name (wpAny_loadName_free I.ok.kind hk hc hG kJ Fb) hd
theorem Mn{i j pos}:PE X (.Constant (.int i) j pos) (tC (.int i)):=fun _ _ _ H _ I h=>wpAny_Constant_int ⟨.int i,H,I.tok _,⟨_,rfl⟩,h⟩
theorem PJ{b j pos}:PE X (.Constant (.bool b) j pos) (tC (.bl b)):=fun _ _ _ H _ I h=>Constant_bool ⟨.bl b,H,I,rfl,h⟩
theorem Mo{j pos}:PE X (.Constant .none j pos) (tC .non):=fun _ _ _ H _ I h=>qp ⟨.non,H,I,rfl,h⟩
theorem bT.tkS{x:Str}(I:bT X aj σ H s):cS (s.toks+1) (.str x) (.str x s.toks):=⟨⟨s.toks,fun _=>⟨I.pos,b7 _⟩⟩,rfl⟩
theorem Mp{x j pos}:PE X (.Constant (.str x) j pos) (tC (.str x)):=fun _ _ _ H _ I h=>Calls.Constant_str ⟨.str x,H,I.tok _,I.tkS,h⟩
def Gl(X:Cx)(x:Str):Prop:=X.env.kindOf x=some .globalImplicit
theorem uO{E:Value->Shared->Prop}{x:Str}{pos:Pos}(I:bT X aj σ H s)(hg:Gl X x)(hm:X.mg x=some u)(h:Q u s)
  (hd:(x==("__debug__":Str))=false:=by decide):wpAny #[3] X.A (eval (.Name x pos) X.env) Q E s:=
 lq I.ok.kind hg (Calls.loadGlobal_global (by rw[I.ok.glob];exact I.mod.glob.keeps I.bk) hm h) hd
theorem on{E:Value->Shared->Prop}{x:Str}{pos:Pos}(I:bT X aj σ H s)(hg:Gl X x)(hm:X.mg x=none)(hv:bootBuiltins x=some u)(h:Q u s)
  (hn:x ≠ "__name__":=by decide) (hd:(x==("__debug__":Str))=false:=by decide):wpAny #[3] X.A (eval (.Name x pos) X.env) Q E s:=by
 obtain⟨mb,h1,h2⟩:=I.mod.blt
 exact lq I.ok.kind hg (Calls.loadGlobal_builtin (by rw[I.ok.glob];exact I.mod.glob.keeps I.bk) hm (by rw[I.ok.blt];exact h1.keeps I.bk) ((h2 x hn).trans hv) h) hd
theorem Jp{x:Str}{v:V}{pos:Pos}(hg:Gl X x)(hm:X.mg x=some u)(r:cS 0 v u)(hd:(x==("__debug__":Str))=false:=by decide):PE X (.Name x pos) (tC v):=
 fun _ _ _ H _ I h=>uO I hg hm ⟨v,H,I,r.up (cn _),h⟩ hd
theorem Jq{x:Str}{v:V}{pos:Pos}(hg:Gl X x)(hm:X.mg x=none)(hv:bootBuiltins x=some u)(r:cS 0 v u)(hn:x ≠ "__name__":=by decide)(hd:(x==("__debug__":Str))=false:=by decide):PE X (.Name x pos) (tC v):=
 fun _ _ _ H _ I h=>on I hg hm hv ⟨v,H,I,r.up (cn _),h⟩ hn hd
variable{a b:Expr}{ta tb:TE}
def PC(X:Cx)(op:CmpOp)(a b:Expr)(t:TE):Prop:=
 ∀(aj:List (Addr×Obj)) (s:Shared) (σ:St) (H:Hp) (Q:VK),bT X aj σ H s->t σ H Q ->
  wpAny #[3] X.A (eval a X.env) (fun v s₁=>wpAny #[3] X.A (eval b X.env) (fun u s₂=>wpAny #[3] X.A (compareOp op v u) (EP X aj σ Q) X.xe s₂) X.xe s₁) X.xe s
theorem zW(b:Expr)(h:op≠.In)(h2:op≠.NotIn):behindInMarks op b=false:=by
 have e1:(op==CmpOp.In)=false:=by cases op<;>first|rfl|exact absurd rfl h
 have e2:(op==CmpOp.NotIn)=false:=by cases op<;>first|rfl|exact absurd rfl h2
 cases b<;>simp[behindInMarks,e1,e2]
def PK(ta:TE):TE:=fun σ H Q=>ta σ H fun x H1=>Q (.bl (decide (x=.non))) H1
def KW(ta:TE):TE:=fun σ H Q=>ta σ H fun x H1=>Q (.bl (!decide (x=.non))) H1
theorem cS.none_iff{x:V}(r:cS nk x v):(v==Value.none)=decide (x=.non):=by
 cases x with
 |non=>cases r;rfl
 |bl _=>cases r;rfl
 |int _=>obtain⟨t,rfl⟩:=r;rfl
 |str _=>obtain⟨t,rfl⟩:=r;rfl
 |byt _=>obtain⟨t,rfl⟩:=r;rfl
 |flt _=>obtain⟨t,rfl⟩:=r;rfl
 |ref _=>cases r;rfl
 |ty _=>cases r;rfl
theorem Fl{j iq}(ha:PE X a ta):PC X .Is a (.Constant .none j iq) (PK ta):=by
 intro aj s σ H Q I h
 refine jC (ha aj s σ H _ I h) fun v s1 kt1 zq=>?_
 obtain⟨x,H1,I1,r1,q1⟩:=zq
 exact qp (is_none_gen ⟨.bl _,H1,I1,by rw[r1.none_iff];rfl,q1⟩)
theorem Jr{j iq}(ha:PE X a ta):PC X .IsNot a (.Constant .none j iq) (KW ta):=by
 intro aj s σ H Q I h
 refine jC (ha aj s σ H _ I h) fun v s1 kt1 zq=>?_
 obtain⟨x,H1,I1,r1,q1⟩:=zq
 exact qp (isnot_none_gen ⟨.bl _,H1,I1,by rw[r1.none_iff];rfl,q1⟩)
def tB(t:TE):TT:=fun σ H Q=>t σ H fun x H1=>∃c,x=.bl c/\Q c H1
theorem Mq{t:TE}(h:PC X op a b t)(h1:behindInMarks op b=false:=by first|exact zW _ #[12] #[12]|rfl):PE X (.Compare a [op] [b] pos) t:=fun aj s σ H Q I hw=>wpAny_Compare1 (h aj s σ H Q I hw) h1
theorem Fp{t:TE}(h:PC X op a b t)(h1:behindInMarks op b=false:=by first|exact zW _ #[12] #[12]|rfl):PT X (.Compare a [op] [b] pos) (tB t):=by
 intro aj s σ H Q I hw
 refine n6 (Da (h aj s σ H _ I hw) fun v s1 h1=>Da h1 fun u s2 h2=>Da h2 fun c s3 ⟨x,H1,I1,r1,q1⟩=>?_) h1
 obtain⟨d,rfl,q⟩:=q1
 cases r1
 exact hU ⟨H1,I1,q⟩
theorem Mr{t:TE}(h:PE X e t)(he:∀whole,isTrue e X.env whole=(do let v <- whole;standAt e.pos;holding [v] (truthy v)):=by intro _;rfl):PT X e (tB t):=by
 intro aj s σ H Q I hw
 refine isTrue_plain (jC (h aj s σ H _ I hw) fun v s1 kt1 ⟨x,H1,I1,r1,q1⟩=>?_) (he _)
 obtain⟨d,rfl,q⟩:=q1
 cases r1
 exact hU ⟨H1,I1,q⟩
variable{tA T9:TT}{iJ:List Expr}
def UN(t u:TT):TT:=fun σ H Q=>t σ H fun c H1=>if c=true then Q true H1 else u σ H1 Q
def Ta(t:TT):TT:=fun σ H Q=>t σ H fun c H1=>Q (!c) H1
theorem Ms(ha:PT X a tA):PW X (.BoolOp .Or [a] pos) tA:=by
 intro wh aj s σ H Q I h
 refine isTrue_or (Da (ha aj s σ H Q I h) fun c s1 e=>?_)
 cases c with
 |false=>exact isTrue_or_nil e
 |true=>exact e
theorem PL(ha:PT X a tA)(hb:PW X (.BoolOp .Or (b::iJ) pos) T9):PW X (.BoolOp .Or (a::b::iJ) pos) (UN tA T9):=by
 intro wh aj s σ H Q I h
 refine isTrue_or (jC (ha aj s σ H _ I h) fun c s1 kt1 zq=>?_)
 obtain⟨H1,I1,q1⟩:=zq
 cases c with
 |true=>exact⟨H1,I1,q1⟩
 |false=>exact hb wh aj s1 σ H1 Q I1 q1
theorem Mt(ha:PT X a tA):PT X (.UnaryOp .Not a pos) (Ta tA):=by
 intro aj s σ H Q I h
 exact isTrue_not (ha aj s σ H (fun c H1=>Q (!c) H1) I h)
def PM(ta tb:TE):TE:=fun σ H Q=>ta σ H fun x H1=>∃c,x=.bl c/\if c=true then tb σ H1 Q else Q (.bl false) H1
def PN(ta:TE):TE:=fun σ H Q=>ta σ H fun x H1=>∃c,x=.bl c/\Q (.bl (!c)) H1
theorem Mu{op}{t:TE}(h:PE X a t):PE X (.BoolOp op [a] pos) t:=fun aj s σ H Q I hw=>BoolOp_one (h aj s σ H Q I hw)
theorem Mv(ha:PE X a ta)(hb:PE X (.BoolOp .And (b::iJ) pos) tb):PE X (.BoolOp .And (a::b::iJ) pos) (PM ta tb):=by
 intro aj s σ H Q I h
 refine BoolOp_and (jC (ha aj s σ H _ I h) fun v s1 kt1 zq=>?_)
 obtain⟨x,H1,I1,r1,q1⟩:=zq
 obtain⟨c,rfl,q1⟩:=q1
 cases r1
 refine hU ?_
 cases c with
 |true=>exact hb aj s1 σ H1 Q I1 q1
 |false=>exact⟨.bl false,H1,I1,rfl,q1⟩
theorem Mw(ha:PE X a ta):PE X (.UnaryOp .Not a pos) (PN ta):=by
 intro aj s σ H Q I h
 refine UnaryOp_ (jC (ha aj s σ H _ I h) fun v s1 kt1 zq=>?_)
 obtain⟨x,H1,I1,r1,q1⟩:=zq
 obtain⟨c,rfl,q1⟩:=q1
 cases r1
 exact not_of (hU ⟨.bl (!c),H1,I1,rfl,q1⟩)
def UO(t:TT)(ta tb:TE):TE:=fun σ H Q=>t σ H fun c H1=>if c=true then ta σ H1 Q else tb σ H1 Q
theorem Fq(hc:PT X c tA)(ha:PE X a ta)(hb:PE X b tb):PE X (.IfExp c a b pos) (UO tA ta tb):=by
 intro aj s σ H Q I h
 refine wpAny_IfExp (jC (hc aj s σ H _ I h) fun d s1 kt1 zq=>?_)
 obtain⟨H1,I1,q1⟩:=zq
 cases d with
 |true=>exact ha aj s1 σ H1 Q I1 q1
 |false=>exact hb aj s1 σ H1 Q I1 q1
end
end L2
namespace L2
open PySem PySem.Spec PyProof.Rows
def sF(K:Frag)(H:Hp)(a:Addr)(xs:List V):Prop:=
 Rd H a (.lst xs) \/
  ∃(o:Obj) (bI:Array Value) (n:Nat),K.lookup a=some o/\o.cls=.type "list"/\o.dict=none/\o.data=.seq bI n/\bI.size<=sizeLine/\cL 0 xs bI.toList
def f_(K:Frag)(H:Hp)(a:Addr)(xs:List V):Prop:=
 Rd H a (.tup xs) \/
  ∃(o:Obj) (bI:Array Value) (n:Nat),K.lookup a=some o/\o.cls=.type "tuple"/\o.data=.seq bI n/\bI.size<=sizeLine/\cL 0 xs bI.toList
noncomputable def Tb:Value->Option V
 |.none=>some .non
 |.bool b=>some (.bl b)
 |.int i _=>some (.int i)
 |.str x _=>some (.str x)
 |.bytes b _=>some (.byt b)
 |.float b _=>some (.flt b)
 |.ref a=>some (.ref a)
 |.type n=>some (.ty n)
 |_=>none
theorem cS.abs{x:V}(r:cS nk x u):Tb u=some x:=by
 cases x with
 |non=>cases r;rfl
 |bl _=>cases r;rfl
 |int _=>obtain⟨t,rfl⟩:=r;rfl
 |str _=>obtain⟨t,rfl⟩:=r;rfl
 |byt _=>obtain⟨t,rfl⟩:=r;rfl
 |flt _=>obtain⟨t,rfl⟩:=r;rfl
 |ref _=>cases r;rfl
 |ty _=>cases r;rfl
theorem cS.inj{x:V}(r:cS nk x u)(q:cS nk y u):x=y:=bq (r.abs.symm.trans q.abs)
theorem cL.inj:∀{xs ys:List V} {us:List Value},cL nk xs us->cL nk ys us->xs=ys
 |_,_,_,.nil,.nil=>rfl
 |_,_,_,.cons r t,.cons r' t'=>by rw[r.inj r',cL.inj t t']
section
variable{a:Addr}{xs ys:List V}
theorem sF.of(h:H a=some (.lst xs)):sF K H a xs:=.inl (.inl h)
theorem f_.of(h:H a=some (.tup xs)):f_ K H a xs:=.inl (.inl h)
theorem bT.list(I:bT X aj σ H s)(h:sF X.K H a xs):∃bI:List Value,cL s.toks xs bI/\PlainL s.heap a bI.toArray/\xs.length<=sizeLine:=by
 rcases h with h|⟨o,bI,n,hk,hc,hd,hs,hz,r⟩
 ·obtain⟨z,bI,n,r,e⟩:=h.ok I.hok
  exact⟨bI,r,⟨_,n,e,rfl,rfl,rfl⟩,z⟩
 ·refine⟨bI.toList,r.up (cn _),⟨o,n,I.kIn a o hk,hc,hd,by simpa using hs⟩,?_⟩
  have e:=r.length
  simp only[eD]at e
  omega
theorem bT.tuple(I:bT X aj σ H s)(h:f_ X.K H a xs):∃bI:List Value,cL s.toks xs bI/\IsTup s.heap a bI.toArray/\xs.length<=sizeLine:=by
 rcases h with h|⟨o,bI,n,hk,hc,hs,hz,r⟩
 ·obtain⟨z,bI,r,p⟩:=h.ok I.hok
  exact⟨bI,r,p,z⟩
 ·refine⟨bI.toList,r.up (cn _),⟨o,I.kIn a o hk,hc,n,by simpa using hs⟩,?_⟩
  have e:=r.length
  simp only[eD]at e
  omega
theorem bT.list_inj(I:bT X aj σ H s)(h:sF X.K H a xs)(h':sF X.K H a ys):xs=ys:=by
 obtain⟨bI,r,⟨o,n,e,_,_,d⟩,_⟩:=I.list h
 obtain⟨its',r',⟨o',n',e',_,_,d'⟩,_⟩:=I.list h'
 rw[e]at e';cases e'
 rw[d]at d'
 injection d' with d1 _
 have:bI=its':=by simpa using ib Array.toList d1
 subst this
 exact r.inj r'
theorem bT.tuple_inj(I:bT X aj σ H s)(h:f_ X.K H a xs)(h':f_ X.K H a ys):xs=ys:=by
 obtain⟨bI,r,⟨o,e,_,n,d⟩,_⟩:=I.tuple h
 obtain⟨its',r',⟨o',e',_,n',d'⟩,_⟩:=I.tuple h'
 rw[e]at e';cases e'
 rw[d]at d'
 injection d' with d1 _
 have:bI=its':=by simpa using ib Array.toList d1
 subst this
 exact r.inj r'
end
section
end
section
variable{st:Stmt}{iJ:List Stmt}{t u:TS}
def PP:TS:=fun D σ H=>D.nx σ H
def Tc(t u:TS):TS:=fun D σ H=>t { D with nx:=u D } σ H
theorem Js:D' X [] PP:=fun _ _ σ H _ I h=>kA ⟨σ,H,I,h⟩
theorem Fr(h1:PS X st t)(h2:D' X iJ u):D' X (st::iJ) (Tc t u):=by
 intro aj s σ H D I h
 refine wpAny_execs_cons (Da (h1 aj s σ H { D with nx:=u D } I h) fun f s1 q=>?_)
 cases f with
 |next=>
  obtain⟨σ',H',I',q⟩:=q
  exact h2 aj s1 σ' H' D I' q
 |ret v=>exact q
 |brk=>exact q
 |cont=>exact q
theorem Jt(h1:PS X st t):D' X [st] t:=by
 intro aj s σ H D I h
 refine wpAny_execs_cons (Da (h1 aj s σ H D I h) fun f s1 q=>?_)
 cases f with
 |next=>exact kA q
 |ret v=>exact q
 |brk=>exact q
 |cont=>exact q
def Mx:TS:=fun D σ H=>D.bk σ H
def PQ:TS:=fun D σ H=>D.ct σ H
theorem Fs:PS X (.Break pos) Mx:=fun _ _ σ H _ I h=>wpAny_Break ⟨σ,H,I,h⟩
theorem zX:PS X (.Continue pos) PQ:=fun _ _ σ H _ I h=>wpAny_Continue ⟨σ,H,I,h⟩
theorem bT.quiet(I:bT X aj σ H s):interactive X.env=false:=by simp[interactive,I.ok.kind]
def PR(te:TE):TS:=fun D σ H=>te σ H fun _ H1=>D.nx σ H1
theorem Ju(he:PE X e te)(hs:swapsWith e none pos.line X.env=pure false:=by rfl):PS X (.Expr e pos) (PR te):=by
 intro aj s σ H D I h
 exact wpAny_Expr_any (jC (he aj s σ H _ I h) fun v s1 kt1 ⟨x,H1,I1,r1,q1⟩=>⟨σ,H1,I1,q1⟩) I.quiet hs
def Td(te:TE):TS:=fun D σ H=>te σ H D.rt
theorem My(he:PE X e te):PS X (.Return (some e) pos) (Td te):=by
 intro aj s σ H D I h
 exact wpAny_Return_some (jC (he aj s σ H _ I h) fun v s1 kt1 ⟨x,H1,I1,r1,q1⟩=>⟨x,σ,H1,I1,r1,q1⟩)
def Te(c:TT)(t u:TS):TS:=fun D σ H=>c σ H fun b H1=>if b=true then t D σ H1 else u D σ H1
theorem PU{a b:List Stmt}{tc:TT}(hc:PT X c tc)(ha:D' X a t)(hb:D' X b u):PS X (.If c a b pos) (Te tc t u):=by
 intro aj s σ H D I h
 refine wpAny_If (jC (hc aj s σ H _ I h) fun d s1 kt1 zq=>?_)
 obtain⟨H1,I1,q1⟩:=zq
 cases d with
 |true=>exact ha aj s1 σ H1 D I1 q1
 |false=>exact hb aj s1 σ H1 D I1 q1
end
abbrev TG:=V->St->Hp->(St->Hp->Prop)->Prop
abbrev Jv:=List V->St->Hp->(St->Hp->Prop)->Prop
def PG(X:Cx)(Pm:Expr)(t:TG):Prop:=
 ∀(aj:List (Addr×Obj)) (s:Shared) (σ:St) (H:Hp) (v:V) (u:Value) (Q:St->Hp->Prop),bT X aj σ H s->cS s.toks v u->t v σ H Q ->
  wpAny #[3] X.A (assign Pm X.env u) (fun _ s'=>∃σ' H',bT X aj σ' H' s'/\Q σ' H') X.xe s
def KY(X:Cx)(ts:List Expr)(t:Jv):Prop:=
 ∀(aj:List (Addr×Obj)) (s:Shared) (σ:St) (H:Hp) (vs:List V) (us:List Value) (Q:St->Hp->Prop),bT X aj σ H s->cL s.toks vs us->t vs σ H Q ->
  wpAny #[3] X.A (assignInOrder ((assignEach ts X.env).map (·.2)) us) (fun _ s'=>∃σ' H',bT X aj σ' H' s'/\Q σ' H') X.xe s
abbrev Jw:=V->V->V->Hp->(Hp->Prop)->Prop
def Ea(X:Cx)(t:Jw):Prop:=
 ∀(aj:List (Addr×Obj)) (s:Shared) (σ:St) (H:Hp) (o i v:V) (ov iv u:Value) (Q:Hp->Prop),bT X aj σ H s->cS s.toks o ov->cS s.toks i iv->cS s.toks v u->t o i v H Q ->
  wpAny #[3] X.A (setItem ov iv u) (fun _ s'=>∃H',bT X aj σ H' s'/\Q H') X.xe s
section
def KZ(i:Nat):TG:=fun v σ H Q=>Q (σ.set i (some v)) H
theorem Jx{x:Str}(hN:X.N.Nodup)(hi:X.N[i]?=some x)(hx:Jo X.env.scope x)(hf:X.fn x=true\/X.env.scope.names.lookup x=some .local:=by first|exact .inl rfl|exact .inr rfl|assumption):PG X (.Name x pos) (KZ i):=by
 intro aj s σ H v u Q I r h
 exact wpAny_assign_Name (zV I hN hi hx r (fun s' I'=>⟨_,H,I',h⟩) hf)
def Tf:Jv:=fun vs σ H Q=>vs=[]/\Q σ H
def PV(t:TG)(u:Jv):Jv:=fun vs σ H Q=>∃v r,vs=v::r/\t v σ H fun σ' H'=>u r σ' H' Q
theorem Jy:KY X [] Tf:=by
 intro aj s σ H vs us Q I r h
 obtain⟨e,h⟩:=h
 subst e
 cases r
 exact assignInOrder_nil ⟨σ,H,I,h⟩
theorem Ft{t:TG}{u:Jv}(h1:PG X e t)(h2:KY X es u)
  (hs:(assignEach (e::es) X.env).map (·.2)=assign e X.env::(assignEach es X.env).map (·.2):=by rfl):KY X (e::es) (PV t u):=by
 intro aj s σ H vs us Q I r h
 obtain⟨v,vr,e1,h⟩:=h
 subst e1
 cases r with
 |cons r rr=>
  rw[hs]
  refine assignInOrder_cons (jC (h1 aj s σ H _ _ _ I r h) fun _ s1 kt1 zq=>?_)
  obtain⟨σ1,H1,I1,q1⟩:=zq
  exact h2 aj s1 σ1 H1 _ _ Q I1 (cL.up kt1 rr) q1
def Tg(K:Frag)(n:Nat)(t:Jv):TG:=fun v σ H Q=>∃a xs,v=.ref a/\f_ K H a xs/\xs.length=n/\t xs σ H Q
theorem Mz{k:Nat}{t:Jv}(hc:X.calm=true)(h:KY X es t)
  (hn:(assignEach es X.env).length=n:=by rfl) (sm:(assignEach es X.env).findIdx? (·.1)=none:=by rfl):PG X (.Tuple es k pos) (Tg X.K n t):=by
 intro aj s σ H v u Q I r hw
 obtain⟨a,xs,e1,hq,hl,hw⟩:=hw
 subst e1
 cases r
 obtain⟨bI,rv,ht,hz⟩:=I.tuple hq
 refine assign_Tuple_tuple (I.ok.hd hc) ht (by simp[hn,<- hl,rv.length]) sm fun h' hx=>?_
 have I1:bT X aj σ H { s with heap:=h' }:=I.kept (t':=s.toks) fun b o e=>hx b o (bd (aH e)) e
 exact h aj _ σ H xs _ Q I1 (by simpa using rv) hw
def Th(to ti:TE)(t:Jw):TG:=fun v σ H Q=>to σ H fun o H1=>ti σ H1 fun i H2=>t o i v H2 fun H3=>Q σ H3
theorem MA{i:Expr}{to ti:TE}{t:Jw}(ho:PE X o to)(hi:PE X i ti)(hs:Ea X t)
  (ha:∀v,assign (.Subscript o i pos) X.env v=(do
   let ov <- holding [v] (eval o X.env)
   let iv <- holding [v,ov] (eval i X.env)
   standAt pos
   holding [v,ov,iv] (setItem ov iv v)
   release [v,ov,iv] []):=by intro _;rfl):PG X (.Subscript o i pos) (Th to ti t):=by
 intro aj s σ H v u Q I r h
 rw[ha]
 refine af (dm (jC (ho aj s σ H _ I h) fun ov s1 kt1 zq=>?_))
 obtain⟨x,H1,I1,r1,q1⟩:=zq
 refine af (dm (jC (hi aj s1 σ H1 _ I1 q1) fun iv s2 kt2 zq=>?_))
 obtain⟨y,H2,I2,r2,q2⟩:=zq
 refine af (qr (af (dm (jC (hs aj s2 σ H2 x y v ov iv u _ I2 (r1.up kt2) r2 (r.up (aN kt1 kt2)) q2) fun _ s3 kt3 zq=>?_))))
 obtain⟨H3,I3,q3⟩:=zq
 exact wpAny_release ⟨σ,H3,I3,q3⟩
def Fu(te:TE)(g:TG):TS:=fun D σ H=>te σ H fun x H1=>g x σ H1 D.nx
theorem Fv{g:TG}(he:PE X e te)(hg:PG X tg g)(hs:swapsWithSole [tg] e pos.line X.env=pure false:=by rfl)(hw:swappedStores [tg] e X.env=pure none:=by rfl)
  (h1:(assignEach [tg] X.env).map (·.2)=[assign tg X.env]:=by rfl):PS X (.Assign [tg] e pos) (Fu te g):=by
 intro aj s σ H D I h
 refine wpAny_Assign_stores (jC (he aj s σ H _ I h) fun v s1 kt1 ⟨x,H1,I1,r1,q1⟩=>?_) hs hw
 rw[h1]
 exact Da (hg aj s1 σ H1 x v _ I1 r1 q1) fun _ s2 q=>q
theorem MB{x:Str}(hN:X.N.Nodup)(hi:X.N[i]?=some x)(hx:Jo X.env.scope x)(he:PE X e te)(hs:swapsWith e (some (.Name x iq)) pos.line X.env=pure false:=by rfl)(hf:X.fn x=true\/X.env.scope.names.lookup x=some .local:=by first|exact .inl rfl|exact .inr rfl|assumption) :
  PS X (.Assign [.Name x iq] e pos) (Fu te (KZ i)):=by
 intro aj s σ H D I h
 refine wpAny_Assign_Name (jC (he aj s σ H _ I h) fun v s1 kt1 ⟨y,H1,I1,r1,q1⟩=>?_) hs
 exact zV I1 hN hi hx r1 (fun s2 I2=>⟨_,H1,I2,q1⟩) hf
end
section
def Fw(c:TT)(tb:TS):TS:=fun D σ H=>∃W:Nat->St->Hp->Prop,(∃m,W m σ H)/\∀m σ H,W m σ H ->
 c σ H fun b H1=>if b=true then ∃N:St->Hp->Prop,(∀σ' H',N σ' H'->∃m',m'<m/\W m' σ' H')/\tb { D with nx:=N,ct:=N,bk:=D.nx } σ H1 else D.nx σ H1
theorem Fx{body:List Stmt}{tc:TT}{tb:TS}(hp:PassesOwn #[3] X.A X.env X.xe)(hc:PT X c tc)(hb:D' X body tb):PS X (.While c body [] pos) (Fw tc tb):=by
 intro aj s σ H D I h
 obtain⟨W,⟨m0,w0⟩,turn⟩:=h
 refine wpAny_While (codeAny_whileLoop (fun n s'=>∃σ' H',bT X aj σ' H' s'/\W n σ' H') ?_ m0 ⟨σ,H,I,w0⟩)
 rintro n s1 ⟨σ1,H1,I1,w1⟩
 refine fT hp (jC (hc aj s1 σ1 H1 _ I1 (turn n σ1 H1 w1)) fun b s2 kt2 zq=>?_)
 obtain⟨H2,I2,q2⟩:=zq
 cases b with
 |true=>
  obtain⟨N,hN,q2⟩:=q2
  rw[aE rfl]
  refine fT hp (Da (hb aj s2 σ1 H2 _ I2 q2) fun f s3 q3=>?_)
  cases f with
  |next=>
   obtain⟨σ3,H3,I3,n3⟩:=q3
   obtain⟨m',hm,w3⟩:=hN σ3 H3 n3
   exact⟨m',hm,σ3,H3,I3,w3⟩
  |cont=>
   obtain⟨σ3,H3,I3,n3⟩:=q3
   obtain⟨m',hm,w3⟩:=hN σ3 H3 n3
   exact⟨m',hm,σ3,H3,I3,w3⟩
  |brk=>exact q3
  |ret v=>exact q3
 |false=>
  rw[aL eO]
  exact kA ⟨σ1,H2,I2,q2⟩
end
structure It where
 go:Nat->Hp->Prop
 yld:Nat->Hp->V->Hp->Prop
 stop:Nat->Hp->Prop
def sH(X:Cx)(aj:List (Addr×Obj))(H:Hp)(b:Addr):Prop:=
 H b=none/\b≠X.env.locals/\b∉X.fs/\(b∈X.ex\/X.s₀.heap.objs.size<=b)/\(∀x c,X.env.cells.lookup x=some c->c≠b)/\∀p∈X.pn++aj,p.1≠b
theorem bT.fpOk{b:Addr}(I:bT X aj σ H s)(hb:s.heap.objs.size<=b)(hn:H' b=none):sH X aj H' b:=by
 refine⟨hn,eh (aP I.lt hb),I.nofs hb,.inr (aN I.sz hb),fun x c e z=>?_,fun p hp z=>?_⟩
 ·obtain⟨v,q⟩:=I.cell x c e
  exact absurd (aP q.lt (by rw[z];exact hb)) (dL _)
 ·exact absurd (aP (aH (I.pin p hp).1) (by rw[z];exact hb)) (dL _)
structure BI(P:Program)(w:World)(K:Frag)(tg:Expr)(J:It)(fp:List Addr)(it:Addr)(tn:Nat->Heap->Prop):Prop where
 mem:it∈fp
 obj:∀i h,tn i h->∀b∈fp,∃o,h.get? b=some o/\∀v,o.data≠.cell v
 keep:∀i h h',tn i h->(∀b∈fp,∀o,h.get? b=some o->h'.get? b=some o)->tn i h'
 item:∀(X:Cx),X.prog=P->X.w=w->X.K=K->X.calm=true->∀(i:Nat) (aj:List (Addr×Obj)) (s:Shared) (σ:St) (H:Hp) (E:Value->Shared->Prop),bT X aj σ H s->(∀b∈fp,sH X aj H b)->tn i s.heap->J.go i H ->
  wpAny (model P w) X.A (pyNext (.ref it)) (fun r s1=>∃u,r=some u /\
   wpAny (model P w) X.A (letOwnedTupleGo tg (.ref it) u) (fun _ s2=>∃x H',bT X aj σ H' s2/\cS s2.toks x u/\J.yld i H x H'/\tn (i+1) s2.heap/\∀b∈fp,H' b=none) E s1) E s
 done:∀(X:Cx),X.prog=P->X.w=w->X.K=K->X.calm=true->∀(i:Nat) (aj:List (Addr×Obj)) (s:Shared) (σ:St) (H:Hp) (E:Value->Shared->Prop),bT X aj σ H s->(∀b∈fp,sH X aj H b)->tn i s.heap->J.stop i H ->
  wpAny (model P w) X.A (pyNext (.ref it)) (fun r s1=>r=none/\bT X aj σ H s1) E s
 self:∀(A:Around) (i:Nat) (s:Shared) (Q:Value->Shared->Prop) (E:Value->Shared->Prop),tn i s.heap->Q (.ref it) s->wpAny (model P w) A (pyIter (.ref it)) Q E s
abbrev TI:=St->Hp->(It->Hp->Prop)->Prop
def Uk(X:Cx)(aj:List (Addr×Obj))(σ:St)(tg:Expr)(R:It->Hp->Prop)(Uh:Value)(s2:Shared):Prop:=
 ∃(it:Addr) (fp:List Addr) (tn:Nat->Heap->Prop) (J:It) (H':Hp),Uh=.ref it/\bT X aj σ H' s2/\BI X.prog X.w X.K tg J fp it tn/\tn 0 s2.heap/\(∀b∈fp,sH X aj H' b)/\R J H'
def PI(X:Cx)(tg d_:Expr)(wi:TI):Prop:=
 ∀(aj:List (Addr×Obj)) (s:Shared) (σ:St) (H:Hp) (R:It->Hp->Prop),bT X aj σ H s->wi σ H R ->
  wpAny #[3] X.A (eval d_ X.env) (fun v s1=>wpAny #[3] X.A (pyIter v) (Uk X aj σ tg R) X.xe s1) X.xe s
theorem Db      {E:Value -> Shared -> Prop} {s:Shared}    {o:Obj} {n:String} {vs:Array Value} {Q:Unit -> Shared -> Prop} (ho : s.heap.get? it = some o) (hc : o.cls = .type n) (hd : o.data = .fields vs)
    (hn : ["enumerate", "zip", "dict_itemiterator", "dict_reverseitemiterator", "odict_iterator", "itertools.zip_longest", "itertools.pairwise"].contains n = false) (hQ : Q () s) : wpAny M A (letOwnedTupleGo tg (.ref it) u) Q E s := by
  unfold letOwnedTupleGo
  cases tg <;> first
    | exact ay         hQ
    | (cases u <;> first
        | exact ay         hQ
        | (refine af         (wpAny_load ho ?_)
           rw [hc, hd]
           show wpAny M A (if (["enumerate", "zip", "dict_itemiterator", "dict_reverseitemiterator", "odict_iterator", "itertools.zip_longest", "itertools.pairwise"].contains n && vs[0]? == some (rawInt _)) = true then _ else _) Q E s
           rw [aL     (by intro h; rw [hn, Bool.false_and] at h; cases h)]
           exact ay         hQ))
noncomputable def Ul(K:Frag)(a:Addr):It:=
 ⟨fun i H=>∃xs x,sF K H a xs/\xs[i]?=some x,fun i H x H'=>H'=H/\∀xs,sF K H a xs->xs[i]?=some x,fun i H=>∃xs,sF K H a xs/\xs.length<=i⟩
noncomputable def Um(K:Frag)(a:Addr):It:=
 ⟨fun i H=>∃xs x,f_ K H a xs/\xs[i]?=some x,fun i H x H'=>H'=H/\∀xs,f_ K H a xs->xs[i]?=some x,fun i H=>∃xs,f_ K H a xs/\xs.length<=i⟩
noncomputable def So(lo:Int)(n:Nat):It:=⟨fun i _=>i<n,fun i H x H'=>H'=H/\x=.int (lo+i),fun i _=>n<=i⟩
theorem Eb{w:World}(a it:Addr):BI P w K tg (Ul K a) [it] it (fun i h=>h.IsListIter it a i) where
 mem:=by simp
 obj:=fun i h st b hb=>by
  have e:b=it:=by simpa using hb
  subst e
  obtain⟨o,e,c,d⟩:=st
  exact⟨o,e,fun v z=>by rw[d]at z;cases z⟩
 keep:=fun i h h' st k=>st.at fun o e=>k it #[15] o e
 item:=by
  intro X hP hw hK hc i aj s σ H E I hf st hg
  subst hP hw hK
  obtain⟨xs,x,hq,hx⟩:=hg
  obtain⟨bI,rv,p,hz⟩:=I.list hq
  obtain⟨u,hu,ru⟩:=rv.get hx
  obtain⟨f0,f1,f2,f3,f4,f5⟩:=hf it #[15]
  refine wpAny_pyNext_list_item st p.isList (x:=u) (by simpa using hu) fun h' bn sb=>?_
  have I1:bT X aj σ H { s with heap:=h' }:=I.turned (t':=s.toks) (fun b o hb e=>(sb.2 b hb).trans e) f0 f1 f3 f4 f5
  obtain⟨o,e,c,d⟩:=id bn
  exact⟨u,rfl,Db (s:={ s with heap:=h' }) e c d #[12] ⟨x,H,I1,ru,⟨rfl,fun ys hy=>by rw[I.list_inj hy hq];exact hx⟩,bn,fun b hb=>(hf b hb).1⟩⟩
 done:=by
  intro X hP hw hK hc i aj s σ H E I hf st hg
  subst hP hw hK
  obtain⟨xs,hq,hx⟩:=hg
  obtain⟨bI,rv,p,hz⟩:=I.list hq
  obtain⟨f0,f1,f2,f3,f4,f5⟩:=hf it #[15]
  have hl:=rv.length
  exact wpAny_pyNext_list_end (I.ok.hd hc) st p.isList (by simp;omega) fun h' eb=>⟨rfl,I.turned (t':=s.toks) (fun b o hb e=>eb b o hb e) f0 f1 f3 f4 f5⟩
 self:=fun _ _ _ _ _ st h=>wpAny_pyIter_listiter st h
theorem BJ{w:World}(a it:Addr):BI P w K tg (Um K a) [it] it (fun i h=>h.IsTupleIter it a i) where
 mem:=by simp
 obj:=fun i h st b hb=>by
  have e:b=it:=by simpa using hb
  subst e
  obtain⟨o,e,c,d⟩:=st
  exact⟨o,e,fun v z=>by rw[d]at z;cases z⟩
 keep:=fun i h h' st k=>st.at fun o e=>k it #[15] o e
 item:=by
  intro X hP hw hK hc i aj s σ H E I hf st hg
  subst hP hw hK
  obtain⟨xs,x,hq,hx⟩:=hg
  obtain⟨bI,rv,p,hz⟩:=I.tuple hq
  obtain⟨u,hu,ru⟩:=rv.get hx
  obtain⟨f0,f1,f2,f3,f4,f5⟩:=hf it #[15]
  refine wpAny_pyNext_tuple_item st (show s.heap.IsTuple a bI.toArray from p) (x:=u) (by simpa using hu) fun h' bn sb=>?_
  have I1:bT X aj σ H { s with heap:=h' }:=I.turned (t':=s.toks) (fun b o hb e=>(sb.2 b hb).trans e) f0 f1 f3 f4 f5
  obtain⟨o,e,c,d⟩:=id bn
  exact⟨u,rfl,Db (s:={ s with heap:=h' }) e c d #[12] ⟨x,H,I1,ru,⟨rfl,fun ys hy=>by rw[I.tuple_inj hy hq];exact hx⟩,bn,fun b hb=>(hf b hb).1⟩⟩
 done:=by
  intro X hP hw hK hc i aj s σ H E I hf st hg
  subst hP hw hK
  obtain⟨xs,hq,hx⟩:=hg
  obtain⟨bI,rv,p,hz⟩:=I.tuple hq
  obtain⟨f0,f1,f2,f3,f4,f5⟩:=hf it #[15]
  have hl:=rv.length
  exact wpAny_pyNext_tuple_end (I.ok.hd hc) st (show s.heap.IsTuple a bI.toArray from p) (by simp;omega) fun h' eb=>⟨rfl,I.turned (t':=s.toks) (fun b o hb e=>eb b o hb e) f0 f1 f3 f4 f5⟩
 self:=fun _ _ _ _ _ st h=>wpAny_pyIter_tupleiter st h
theorem BK{w:World}(it:Addr)(lo:Int)(n:Nat):BI P w K tg (So lo n) [it] it (fun i h=>IsRangeIter h it (lo+(i:Nat)*1) ((n:Int)-(i:Nat)) 1) where
 mem:=by simp
 obj:=fun i h st b hb=>by
  have e:b=it:=by simpa using hb
  subst e
  exact⟨_,st,fun v z=>by
   have z':Data.fields _=Data.cell v:=z
   cases z'⟩
 keep:=fun i h h' st k=>k it #[15] _ st
 item:=by
  intro X hP hw hK hc i aj s σ H E I hf st hg
  subst hP hw hK
  obtain⟨f0,f1,f2,f3,f4,f5⟩:=hf it #[15]
  have W:=Walks.range (prog:=X.prog) (w:=X.w) (I.ok.hd hc) it lo 1 n
  refine up (W.item i s _ _ hg st fun v h' tk hv bn kk hk=>?_)
  obtain⟨t,rfl⟩:=hv
  have I1:bT X aj σ H { s with heap:=h',toks:=tk }:=I.turned (fun b o hb e=>kk b o (by simpa using hb) e) f0 f1 f3 f4 f5
  refine⟨_,rfl,Db (s:={ s with heap:=h',toks:=tk }) (n:="range_iterator") bn rfl rfl #[12] ⟨.int (lo+i),H,I1,⟨t,?_⟩,⟨rfl,rfl⟩,bn,fun b hb=>(hf b hb).1⟩⟩
  rw[Int.mul_one]
 done:=by
  intro X hP hw hK hc i aj s σ H E I hf st hg
  subst hP hw hK
  obtain⟨f0,f1,f2,f3,f4,f5⟩:=hf it #[15]
  exact wpAny_pyNext_range_end (I.ok.hd hc) st (by have:n<=i:=hg;omega) fun h' eb=>⟨rfl,I.turned (t':=s.toks) (fun b o hb e=>eb b o hb e) f0 f1 f3 f4 f5⟩
 self:=fun _ _ _ _ _ st h=>wpAny_pyIter_rangeiter st h
end L2
namespace L2
open PySem PySem.Spec PyProof.Rows
section
def PX(K:Frag)(tl:TE):TI:=fun σ H R=>tl σ H fun x H1=>∃a,x=.ref a/\(∃xs,sF K H1 a xs)/\R (Ul K a) H1
def Ti(K:Frag)(tl:TE):TI:=fun σ H R=>tl σ H fun x H1=>∃a,x=.ref a/\(∃xs,f_ K H1 a xs)/\R (Um K a) H1
theorem Jz{l:Expr}{tl:TE}(hl:PE X l tl):PI X tg l (PX X.K tl):=by
 intro aj s σ H R I h
 refine jC (hl aj s σ H _ I h) fun v s1 kt1 zq=>?_
 obtain⟨x,H1,I1,r1,q1⟩:=zq
 obtain⟨a,e,⟨xs,hq⟩,q⟩:=q1
 subst e
 cases r1
 obtain⟨bI,rv,p,hz⟩:=I1.list hq
 refine wpAny_pyIter_list p.isList ?_
 refine⟨s1.heap.objs.size,[s1.heap.objs.size],_,_,H1,rfl,I1.kept (t':=s1.toks) fun b o e=>av _ e,Eb a _,⟨_,aC _ rfl,rfl,rfl⟩,fun b hb=>?_,q⟩
 have e:b=s1.heap.objs.size:=by simpa using hb
 subst e
 exact I1.fpOk (az _) (I1.hok.fresh (az _))
theorem MC{l:Expr}{tl:TE}(hl:PE X l tl):PI X tg l (Ti X.K tl):=by
 intro aj s σ H R I h
 refine jC (hl aj s σ H _ I h) fun v s1 kt1 zq=>?_
 obtain⟨x,H1,I1,r1,q1⟩:=zq
 obtain⟨a,e,⟨xs,hq⟩,q⟩:=q1
 subst e
 cases r1
 obtain⟨bI,rv,p,hz⟩:=I1.tuple hq
 refine fI (show s1.heap.IsTuple a bI.toArray from p) ?_
 refine⟨s1.heap.objs.size,[s1.heap.objs.size],_,_,H1,rfl,I1.kept (t':=s1.toks) fun b o e=>av _ e,BJ a _,⟨_,aC _ rfl,rfl,rfl⟩,fun b hb=>?_,q⟩
 have e:b=s1.heap.objs.size:=by simpa using hb
 subst e
 exact I1.fpOk (az _) (I1.hok.fresh (az _))
theorem Fy{R:It->Hp->Prop}{lo hi:Int}{t u v:Tok}{tk:Nat}(I:bT X aj σ H s)(hk:s.toks<=tk)(h1:-(2^62)<=lo)(h2:lo<2^62)(h3:-(2^62)<=hi)(h4:hi<2^62)
  (q:R (So lo (hi-lo).toNat) H):wpAny #[3] X.A (pyIter (.ref s.heap.objs.size)) (Uk X aj σ tg R) E { s with heap:=s.heap.push { cls:=.type "range",data:=.fields #[.int lo t,.int hi u,.int 1 v] },toks:=tk }:=by
 refine wpAny_pyIter_range (IsRange.new ..) (small_one h1 h2 h3 h4) ?_
 have I1:bT X aj σ H { s with heap:=s.heap.push { cls:=.type "range",data:=.fields #[.int lo t,.int hi u,.int 1 v] },toks:=tk }:=I.kept fun b o e=>av _ e
 refine⟨(s.heap.push { cls:=.type "range",data:=.fields #[.int lo t,.int hi u,.int 1 v] }).objs.size,[(s.heap.push { cls:=.type "range",data:=.fields #[.int lo t,.int hi u,.int 1 v] }).objs.size],_,_,H,rfl,
  I1.kept (t':=tk) fun b o e=>av _ e,BK _ lo (hi-lo).toNat,?_,fun b hb=>?_,q⟩
 ·have e1:lo+((0:Nat):Int)*1=lo:=by simp
  have e2:(((hi-lo).toNat:Nat):Int)-((0:Nat):Int)=Builtin.Range.rangeSize lo hi 1:=by rw[rangeSize_one];split<;>omega
  show IsRangeIter _ _ (lo+((0:Nat):Int)*1) ((((hi-lo).toNat:Nat):Int)-((0:Nat):Int)) 1
  rw[e1,e2]
  exact aC _ rfl
 ·have e:b=(s.heap.push { cls:=.type "range",data:=.fields #[.int lo t,.int hi u,.int 1 v] }).objs.size:=by simpa using hb
  subst e
  exact I1.fpOk (az _) (I1.hok.fresh (az _))
def PY(ta:TA):TI:=fun σ H R=>ta σ H fun vs H1=>∃j:Int,vs=[.int j]/\-(2^62)<=j/\j<2^62/\R (So 0 j.toNat) H1
theorem Ec{a:Expr}{ta:TA}{p pos:Pos}(hg:Gl X "range")(hm:X.mg "range"=none)(ha:PA X [a] ta)(hs:starEach [a] X.env=[(false,eval a X.env)]:=by rfl):PI X tg (.Call (.Name "range" p) [a] [] pos) (PY ta):=by
 intro aj s σ H R I h
 refine Call_ (on I hg hm boot_range (dS (jC (ha pos aj s σ H _ I h) fun us s1 kt1 ⟨vs,H1,I1,r1,q1⟩=>?_) hs rfl))
 obtain⟨j,e,q1,q2,q⟩:=q1
 subst e
 cases r1 with
 |cons r rr=>
  cases rr
  obtain⟨t,rfl⟩:=r
  exact call_range_1 (Fy I1 (by first|exact az _|exact bp _|assumption|omega) #[0] #[0] q1 q2 (by simpa using q))
def Tj(wi:TI)(g:TG)(tb:TS):TS:=fun D σ H=>wi σ H fun J H1=>∃W:Nat->Nat->St->Hp->Prop,(∃m,W 0 m σ H1)/\∀i m σ H,W i m σ H ->
 (J.stop i H/\D.nx σ H)\/(J.go i H/\∃N:St->Hp->Prop,(∀σ' H',N σ' H'->∃m',m'<m/\W (i+1) m' σ' H')/\∀x H',J.yld i H x H'->g x σ H' fun σ2 H2=>tb { D with nx:=N,ct:=N,bk:=D.nx } σ2 H2)
noncomputable def yq(fp:List Addr)(h:Heap):List (Addr×Obj):=fp.filterMap fun b=>(h.get? b).map fun o=>(b,o)
theorem jJ{b:Addr}{o:Obj}(hb:b∈fp)(e:h.get? b=some o):(b,o)∈yq fp h:=lr.mpr ⟨b,hb,by rw[e];rfl⟩
theorem Ed{p:Addr×Obj}(hp:p∈yq fp h):p.1∈fp/\h.get? p.1=some p.2:=by
 obtain⟨b,hb,e⟩:=lr.mp hp
 cases q:h.get? b with
 |none=>rw[q]at e;cases e
 |some o=>
  rw[q]at e
  have e':(b,o)=p:=bq e
  subst e'
  exact⟨hb,q⟩
theorem bT.pinned(I:bT X aj σ H s)(hf:∀b∈fp,sH X aj H b)(ho:∀b∈fp,∃o,s.heap.get? b=some o/\∀v,o.data≠.cell v):bT X (aj++yq fp s.heap) σ H s:=
 I.pins_of fun p hp=>(aX.mp hp).elim (fun z=>I.pin p (aR _ z)) fun z=>by
  obtain⟨hb,e⟩:=Ed z
  obtain⟨f0,f1,f2,_⟩:=hf p.1 hb
  obtain⟨o,e',d⟩:=ho p.1 hb
  rw[e]at e';cases e'
  exact⟨e,f0,f1,f2,d⟩
theorem bT.unpinned{pl:List (Addr×Obj)}(I:bT X (aj++pl) σ H s):bT X aj σ H s:=I.pins_of fun p hp=>I.pin p (aR _ (bZ _ hp))
theorem MD{body:List Stmt}{wi:TI}{g:TG}{tb:TS}{pos:Pos}(hp:PassesOwn #[3] X.A X.env X.xe)(hc:X.calm=true)(hi:PI X tg d_ wi)(hg:PG X tg g)(hb:D' X body tb)
  (hs:∀x,foldedSetIterable d_ X.env x=pure x:=by intro _;rfl):PS X (.For tg d_ body [] pos) (Tj wi g tb):=by
 intro aj s σ H D I h
 refine wpAny_For (Da (hi aj s σ H _ I h) fun v s1 h1=>Da h1 fun Uh s2 h2=>?_) hs
 obtain⟨it,fp,tn,J,H2,e,I2,T,c5,f2,W,⟨m0,w0⟩,turn⟩:=h2
 subst e
 have stat:∀{H':Hp},(∀b∈fp,H' b=none)->∀b∈fp,sH X aj H' b:=fun hn b hb=>⟨hn b hb,(f2 b hb).2⟩
 refine codeAny_forLoop_any (fun n s'=>∃i σ' H',bT X aj σ' H' s'/\tn i s'.heap/\(∀b∈fp,H' b=none)/\W i n σ' H') ?_ m0 ⟨0,σ,H2,I2,c5,fun b hb=>(f2 b hb).1,w0⟩
 rintro n s3 ⟨i,σ3,H3,I3,lW,fr3,w3⟩
 rcases turn i n σ3 H3 w3 with⟨stop,qn⟩|⟨go,N,hN,step⟩
 ·refine fT hp (jC (T.done X rfl rfl rfl hc i aj s3 σ3 H3 X.xe I3 (stat fr3) lW stop) fun r s4 kt4 zq=>?_)
  obtain⟨hr,I4⟩:=zq
  subst hr
  exact kA ⟨σ3,H3,I4,qn⟩
 ·refine fT hp (jC (T.item X rfl rfl rfl hc i aj s3 σ3 H3 X.xe I3 (stat fr3) lW go) fun r s4 kt4 zq=>?_)
  obtain⟨u,hr,h4⟩:=zq
  subst hr
  refine fT hp (Da h4 fun _ s5 zq=>?_)
  obtain⟨x,H5,I5,r5,y5,st5,fr5⟩:=zq
  have I5':=I5.pinned (stat fr5) (T.obj _ _ st5)
  refine fT hp (jC (hg _ s5 σ3 H5 x u _ I5' r5 (step x H5 y5)) fun _ s6 kt6 zq=>?_)
  obtain⟨σ6,H6,I6,q6⟩:=zq
  refine fT hp (Da (hb _ s6 σ6 H6 _ I6 q6) fun f s7 q7=>?_)
  have again:∀{σ7:St} {H7:Hp},bT X (aj++yq fp s5.heap) σ7 H7 s7->N σ7 H7->∃m,m<n/\∃i σ' H',bT X aj σ' H' s7/\tn i s7.heap/\(∀b∈fp,H' b=none)/\W i m σ' H':=fun{σ7 H7} I7 n7=>by
   obtain⟨m',hm,w7⟩:=hN σ7 H7 n7
   refine⟨m',hm,i+1,σ7,H7,I7.unpinned,T.keep _ _ _ st5 fun b hb o e=>(I7.pin (b,o) (aR _ (aR _ (jJ hb e)))).1,fun b hb=>?_,w7⟩
   obtain⟨o,e,d⟩:=T.obj _ _ st5 b hb
   exact(I7.pin (b,o) (aR _ (aR _ (jJ hb e)))).2.1
  cases f with
  |next=>obtain⟨σ7,H7,I7,n7⟩:=q7;exact again I7 n7
  |cont=>obtain⟨σ7,H7,I7,n7⟩:=q7;exact again I7 n7
  |brk=>obtain⟨σ7,H7,I7,q7⟩:=q7;exact⟨σ7,H7,I7.unpinned,q7⟩
  |ret v=>obtain⟨x7,σ7,H7,I7,r7,q7⟩:=q7;exact⟨x7,σ7,H7,I7.unpinned,r7,q7⟩
end
end L2
namespace L2
open PySem PySem.Spec PyProof.Rows
abbrev R2:=V->V->Hp->VK->Prop
def oo(X:Cx)(f:Value->Value->Sem Value)(r:R2):Prop:=
 ∀(aj:List (Addr×Obj)) (s:Shared) (σ:St) (H:Hp) (x y:V) (v u:Value) (Q:VK),bT X aj σ H s->cS s.toks x v->cS s.toks y u->r x y H Q ->
  wpAny #[3] X.A (f v u) (EP X aj σ Q) X.xe s
def Tl(X:Cx)(f:Value->Sem Value)(r:V->Hp->VK->Prop):Prop:=
 ∀(aj:List (Addr×Obj)) (s:Shared) (σ:St) (H:Hp) (x:V) (v:Value) (Q:VK),bT X aj σ H s->cS s.toks x v->r x H Q ->
  wpAny #[3] X.A (f v) (EP X aj σ Q) X.xe s
def i'(X:Cx)(f:Value)(r:List V->Hp->VK->Prop):Prop:=
 ∀(aj:List (Addr×Obj)) (s:Shared) (σ:St) (H:Hp) (xs:List V) (us:List Value) (Q:VK),bT X aj σ H s->cL s.toks xs us->r xs H Q ->
  wpAny #[3] X.A (call f us) (EP X aj σ Q) X.xe s
def PZ(r:R2)(ta tb:TE):TE:=fun σ H Q=>ta σ H fun x H1=>tb σ H1 fun y H2=>r x y H2 Q
def UP(r:V->Hp->VK->Prop)(ta:TE):TE:=fun σ H Q=>ta σ H fun x H1=>r x H1 Q
def rI(C:Int->Int->Prop)(g:Int->Int->V):R2:=fun x y H Q=>∃i j,x=.int i/\y=.int j/\C i j/\Q (g i j) H
def Jd(g:Int->Int->V):R2:=fun x y H Q=>∃i j,x=.int i/\y=.int j/\Q (g i j) H
def rU(g:Int->V):V->Hp->VK->Prop:=fun x H Q=>∃i,x=.int i/\Q (g i) H
section
variable{a b:Expr}{ta tb tc:TE}
theorem ME(ha:PE X a ta)(hb:PE X b tb){R:V->V->Hp->Prop}(I:bT X aj σ H s)
  (h:ta σ H fun x H1=>tb σ H1 fun y H2=>R x y H2) {Q:Value->Shared->Prop} {f:Value->Value->Sem Value}
  (hf:∀v u s2 x y H2,bT X aj σ H2 s2->cS s2.toks x v->cS s2.toks y u->R x y H2->wpAny #[3] X.A (f v u) Q X.xe s2) :
  wpAny #[3] X.A (eval a X.env) (fun v s₁=>wpAny #[3] X.A (eval b X.env) (fun u s₂=>wpAny #[3] X.A (f v u) Q X.xe s₂) X.xe s₁) X.xe s:=by
 refine jC (ha aj s σ H _ I h) fun v s1 kt1 zq=>?_
 obtain⟨x,H1,I1,r1,q1⟩:=zq
 refine jC (hb aj s1 σ H1 _ I1 q1) fun u s2 kt2 zq=>?_
 obtain⟨y,H2,I2,r2,q2⟩:=zq
 exact hf v u s2 x y H2 I2 (r1.up kt2) r2 q2
theorem P0{op:Operator}{r:R2}(ho:oo X (binaryOp op) r)(ha:PE X a ta)(hb:PE X b tb):PE X (.BinOp a op b pos) (PZ r ta tb):=by
 intro aj s σ H Q I h
 exact wpAny_BinOp (ME ha hb I h fun v u s2 x y H2 I2 rx ry q=>ho aj s2 σ H2 x y v u Q I2 rx ry q)
theorem P1{op:UnaryOp}{r:V->Hp->VK->Prop}(ho:Tl X (unaryOp op) r)(ha:PE X a ta):PE X (.UnaryOp op a pos) (UP r ta):=by
 intro aj s σ H Q I h
 exact UnaryOp_ (jC (ha aj s σ H _ I h) fun v s1 kt1 ⟨x,H1,I1,r1,q1⟩=>ho aj s1 σ H1 x v Q I1 r1 q1)
theorem Pr{f:Value->Value->Sem Value}{C:Int->Int->Prop}{g:Int->Int->Int}
  (rule:∀(i j:Int) (t u:Tok) (s:Shared) (Q:Value->Shared->Prop) (E:Value->Shared->Prop),C i j->Q (.int (g i j) s.toks) { s with toks:=s.toks+1 }->wpAny #[3] X.A (f (.int i t) (.int j u)) Q E s) :
  oo X f (rI C fun i j=>.int (g i j)):=by
 intro aj s σ H x y v u Q I rx ry h
 obtain⟨i,j,rfl,rfl,hc,q⟩:=h
 obtain⟨t,rfl⟩:=rx
 obtain⟨t',rfl⟩:=ry
 exact rule i j t t' s _ _ hc ⟨.int (g i j),H,I.tok _,⟨_,rfl⟩,q⟩
theorem MF{f:Value->Value->Sem Value}{g:Int->Int->Int}
  (rule:∀(i j:Int) (t u:Tok) (s:Shared) (Q:Value->Shared->Prop) (E:Value->Shared->Prop),Q (.int (g i j) s.toks) { s with toks:=s.toks+1 }->wpAny #[3] X.A (f (.int i t) (.int j u)) Q E s) :
  oo X f (Jd fun i j=>.int (g i j)):=by
 intro aj s σ H x y v u Q I rx ry h
 obtain⟨i,j,rfl,rfl,q⟩:=h
 obtain⟨t,rfl⟩:=rx
 obtain⟨t',rfl⟩:=ry
 exact rule i j t t' s _ _ ⟨.int (g i j),H,I.tok _,⟨_,rfl⟩,q⟩
theorem MG{f:Value->Value->Sem Value}{g:Int->Int->Bool}
  (rule:∀(i j:Int) (t u:Tok) (s:Shared) (Q:Value->Shared->Prop) (E:Value->Shared->Prop),Q (.bool (g i j)) s->wpAny #[3] X.A (f (.int i t) (.int j u)) Q E s) :
  oo X f (Jd fun i j=>.bl (g i j)):=by
 intro aj s σ H x y v u Q I rx ry h
 obtain⟨i,j,rfl,rfl,q⟩:=h
 obtain⟨t,rfl⟩:=rx
 obtain⟨t',rfl⟩:=ry
 exact rule i j t t' s _ _ ⟨.bl (g i j),H,I,rfl,q⟩
def Tm(i j:Int):Prop:=0<j/\j<1073741824
def MH(i j:Int):Prop:=0<=j/\j<=1000000/\i.natAbs<2^64
def MI(i j:Int):Prop:=(-(2^64)<i/\i<2^64)\/(-(2^64)<j/\j<2^64)
theorem MI.ok{i j:Int}(h:MI i j):IntMulOk i j:=by
 rcases h with⟨h1,h2⟩|⟨h1,h2⟩
 ·exact .of_left (intBits_le_64 h1 h2)
 ·exact .of_right (intBits_le_64 h1 h2)
theorem BL(k:Nat):(0:Int)<=2^k:=by
 rw[two_pow_cast]
 exact Int.natCast_nonneg _
theorem MJ:oo X (binaryOp .Add) (Jd fun i j=>.int (i+j)):=MF fun _ _ _ _ _ _ _ q=>add_int q
theorem MK:oo X (binaryOp .Sub) (Jd fun i j=>.int (i-j)):=MF fun _ _ _ _ _ _ _ q=>sub_int q
theorem ML:oo X (binaryOp .Mult) (rI MI fun i j=>.int (i*j)):=Pr fun _ _ _ _ _ _ _ hc q=>mul_int q hc.ok
theorem JA:oo X (binaryOp .FloorDiv) (rI Tm fun i j=>.int (i/j)):=Pr fun i j _ _ _ _ _ hc q=>by
 have h1:(0:Int)<j:=hc.1
 have h2:j<1073741824:=hc.2
 exact floordiv_int #[0] (by rw[lv i #[0]];exact q) (.inl (PyProof.noPylong_small #[0]))
theorem MM:oo X (binaryOp .Mod) (rI (fun _ j=>0<j) fun i j=>.int (i%j)):=Pr fun i j _ _ _ _ _ hc q=>by
 have h1:(0:Int)<j:=hc
 exact mod_int' #[0] (by rw[Int.fmod_eq_emod_of_nonneg i #[0]];exact q)
theorem MN:oo X (binaryOp .Pow) (rI MH fun i j=>.int (i^j.toNat)):=Pr fun _ _ _ _ _ _ _ hc q=>pow_int_small hc.1 hc.2.1 hc.2.2 q
theorem Fz:oo X (binaryOp .LShift) (rI MH fun i j=>.int (i*2^j.toNat)):=Pr fun _ _ _ _ _ _ _ hc q=>lshift_int_small hc.1 hc.2.1 hc.2.2 q
theorem MO:oo X (binaryOp .RShift) (rI (fun _ j=>0<=j) fun i j=>.int (i/2^j.toNat)):=Pr fun i j _ _ _ _ _ hc q=>
 rshift_int hc (by rw[lv i (BL _)];exact q)
theorem MP:oo X (binaryOp .BitAnd) (Jd fun i j=>.int (Builtin.bitAnd i j)):=MF fun _ _ _ _ _ _ _ q=>and_int q
theorem UQ{f:Value->Sem Value}{g:Int->Int}
  (rule:∀(i:Int) (t:Tok) (s:Shared) (Q:Value->Shared->Prop) (E:Value->Shared->Prop),Q (.int (g i) s.toks) { s with toks:=s.toks+1 }->wpAny #[3] X.A (f (.int i t)) Q E s) :
  Tl X f (rU fun i=>.int (g i)):=by
 intro aj s σ H x v Q I rx h
 obtain⟨i,rfl,q⟩:=h
 obtain⟨t,rfl⟩:=rx
 exact rule i t s _ _ ⟨.int (g i),H,I.tok _,⟨_,rfl⟩,q⟩
theorem MQ:Tl X (unaryOp .USub) (rU fun i=>.int (-i)):=UQ fun _ _ _ _ _ q=>neg_int q
end
section
variable{a b:Expr}{ta tb tc:TE}
theorem MR{Q:VK}{k k':Bool}(I:bT X aj σ H s)(q:Q (.bl k) H)(e:k=k'):EP X aj σ Q (.bool k') s:=by
 subst e
 exact⟨.bl k,H,I,rfl,q⟩
theorem P2:oo X (compareOp .Lt) (Jd fun i j=>.bl (decide (i<j))):=MG fun _ _ _ _ _ _ _ q=>lt_int q
theorem P3:oo X (compareOp .Gt) (Jd fun i j=>.bl (decide (j<i))):=MG fun _ _ _ _ _ _ _ q=>gt_int q
theorem P4:oo X (compareOp .GtE) (Jd fun i j=>.bl (decide (j<=i))):=MG fun _ _ _ _ _ _ _ q=>ge_int q
theorem Ee:oo X (compareOp .In) (fun x y H Q=>∃i j,x=.str i/\y=.str j/\Q (.bl (!(Builtin.Str.occurrences j i 0 j.length 1).isEmpty)) H):=by
 intro aj s σ H x y v u Q I rx ry h
 obtain⟨i,j,rfl,rfl,q⟩:=h
 obtain⟨t,rfl⟩:=rx
 obtain⟨t',rfl⟩:=ry
 exact in_str (MR I q rfl)
theorem FB(b:Expr)(h:op≠.In:=by decide)(h2:op≠.NotIn:=by decide):behindInMarks op b=false:=by
 have e1:(op==CmpOp.In)=false:=by cases op<;>first|rfl|exact absurd rfl h
 have e2:(op==CmpOp.NotIn)=false:=by cases op<;>first|rfl|exact absurd rfl h2
 cases b<;>simp[behindInMarks,e1,e2]
theorem JB{r:R2}(ho:oo X (compareOp op) r)(ha:PE X a ta)(hb:PE X b tb)(hm:behindInMarks op b=false):PE X (.Compare a [op] [b] pos) (PZ r ta tb):=by
 intro aj s σ H Q I h
 exact wpAny_Compare1 (ME ha hb I h fun v u s2 x y H2 I2 rx ry q=>ho aj s2 σ H2 x y v u Q I2 rx ry q) hm
def P5(t:TE):TT:=fun σ H Q=>t σ H fun x H'=>∃k,x=.bl k/\Q k H'
theorem JC{r:R2}(ho:oo X (compareOp op) r)(ha:PE X a ta)(hb:PE X b tb)(hm:behindInMarks op b=false):PT X (.Compare a [op] [b] pos) (P5 (PZ r ta tb)):=by
 intro aj s σ H Q I h
 refine n6 (jC (ha aj s σ H _ I h) fun v s1 kt1 ⟨x,H1,I1,r1,q1⟩=>jC (hb aj s1 σ H1 _ I1 q1) fun u s2 kt2 ⟨y,H2,I2,r2,q2⟩=>
  jC (ho aj s2 σ H2 x y v u _ I2 (r1.up kt2) r2 q2) fun c s3 kt3 ⟨z,H3,I3,r3,k,e,q3⟩=>?_) hm
 subst e
 cases r3
 exact hU ⟨H3,I3,q3⟩
theorem sI:(sizeLine:Nat)<2^63:=by rw[j9];decide
theorem bT.addS{Q:VK}{i j:Str}{t:Tk s.toks i}{t':Tk s.toks j}(I:bT X aj σ H s)(q:Q (.str (i++j)) H)(hz:i.length+j.length<=sizeLine) :
  (if i.length==0 then Made.val (.str j t'.1)else if j.length==0 then Made.val (.str i t.1)else Made.str (i++j)).post (EP X aj σ Q) s:=by
 split
 ·rename_i h
  have e:i++j=j:=by
   have h0:i.cps=#[]:=gn (by simpa[Str.length]using h)
   show Str.append i j=j
   cases hj:j;simp[Str.append,h0]
  rw[e]at q
  exact⟨.str j,H,I,⟨t',rfl⟩,q⟩
 ·split
  ·rename_i h
   have e:i++j=i:=by
    have h0:j.cps=#[]:=gn (by simpa[Str.length]using h)
    show Str.append i j=i
    cases hj:i;simp[Str.append,h0]
   rw[e]at q
   exact⟨.str i,H,I,⟨t,rfl⟩,q⟩
  ·exact⟨by rw[strLen_append];exact hz,⟨.str (i++j),H,I.tok _,I.tkS,q⟩⟩
theorem BM:oo X (binaryOp .Add) (fun x y H Q=>∃i j,x=.str i/\y=.str j/\i.length+j.length<=sizeLine/\Q (.str (i++j)) H):=by
 intro aj s σ H x y v u Q I rx ry h
 obtain⟨i,j,rfl,rfl,hz,q⟩:=h
 obtain⟨t,rfl⟩:=rx
 obtain⟨t',rfl⟩:=ry
 exact PySem.P.add_str (I.addS q hz)
theorem oq{x:V}(r:cL nk [x] us):∃u,us=[u]/\cS nk x u:=by
 cases r with
 |cons r1 r2=>cases r2;exact⟨_,rfl,r1⟩
theorem K0{x:V}(r:cL nk [x,y] us):∃u w',us=[u,w']/\cS nk x u/\cS nk y w':=by
 cases r with
 |cons r1 r2=>
  cases r2 with
  |cons r3 r4=>cases r4;exact⟨_,_,rfl,r1,r3⟩
theorem Ef(hc:X.calm=true):i' X (.builtin "max") (fun xs H Q=>∃i j,xs=[.int i,.int j]/\Q (.int (if j>i then j else i)) H):=by
 intro aj s σ H xs us Q I r h
 obtain⟨i,j,rfl,q⟩:=h
 obtain⟨u,w',rfl,⟨t,rfl⟩,⟨t',rfl⟩⟩:=K0 r
 refine up (max_two_ints (I.ok.hd hc) fun h' tk k hk=>⟨_,H,I.kept k,?_,q⟩)
 by_cases hj:j>i
 ·rw[aE hj,aE hj];exact⟨_,rfl⟩
 ·rw[aL hj,aL hj];exact⟨_,rfl⟩
theorem Eg(hc:X.calm=true):i' X (.builtin "min") (fun xs H Q=>∃i j,xs=[.int i,.int j]/\Q (.int (if j<i then j else i)) H):=by
 intro aj s σ H xs us Q I r h
 obtain⟨i,j,rfl,q⟩:=h
 obtain⟨u,w',rfl,⟨t,rfl⟩,⟨t',rfl⟩⟩:=K0 r
 refine up (min_two_ints (I.ok.hd hc) fun h' tk k hk=>⟨_,H,I.kept k,?_,q⟩)
 by_cases hj:j<i
 ·rw[aE hj,aE hj];exact⟨_,rfl⟩
 ·rw[aL hj,aL hj];exact⟨_,rfl⟩
theorem xi:i' X (.type "int") (fun xs H Q=>(∃i,xs=[.int i]/\Q (.int i) H)\/∃k,xs=[.bl k]/\Q (.int (if k then 1 else 0)) H):=by
 intro aj s σ H xs us Q I r h
 rcases h with⟨i,rfl,q⟩|⟨k,rfl,q⟩
 ·obtain⟨u,rfl,t,rfl⟩:=oq r
  exact call_int_int ⟨.int i,H,I,⟨_,rfl⟩,q⟩
 ·obtain⟨u,rfl,r1⟩:=oq r
  cases r1
  exact call_int_bool ⟨.int (if k then 1 else 0),H,I.tok _,⟨_,rfl⟩,q⟩
end
end L2
namespace L2
open PySem PySem.Spec PyProof.Rows
structure BN(h:Heap)(x dx C:Addr)(mA:Str->Option Value):Prop where
 obj:h.get? x=some (instObj C dx)
 ns:h.Ns1 dx mA
 ne:dx≠x
theorem Eh{dx:Addr}(n:h.Ns1 dx mA):∃od,h.get? dx=some od/\∀name,lookIn name od=some (mA name):=by
 obtain⟨o,es,ep,ho,hd,hk,_,hm⟩:=n
 refine⟨o,ho,fun name=>?_⟩
 have e:=hm name
 unfold nsFind findBy at e
 rw[<- Array.find?_toList]at e
 unfold lookIn
 rw[hd]
 dsimp only
 split
 ·rename_i y q
  rw[q]at e
  exact ib some e
 ·rename_i q
  rw[q]at e
  have a:es.toList.any (·.refKey)=false:=by
   rw[List.any_eq_false]
   intro y hy
   obtain⟨z,t,hkey⟩:=hk y (Array.mem_toList_iff.mp hy)
   simp[DictEntry.refKey,hkey]
  have a':¬ es.toList.any (·.refKey)=true:=by rw[a];exact eO
  rw[aL a']
  exact ib some e
theorem BN.look{x dx:Addr}(I:BN h x dx C mA):∃od,PySem.W.InstAt h x (instObj C dx) C (some od)/\∀name,lookIn name od=some (mA name):=
 let ⟨od,ho,hl⟩:=Eh I.ns
 ⟨od,⟨I.obj,rfl,rfl,ho⟩,hl⟩
section
variable{w:World}{x dx f:Addr}
theorem JD{Uc:Bool}(X:K.In s.heap)(I:BN s.heap x dx C mA)(hg:plainGet K C name=true)(hh:PySem.W.hasDictIn K C=true)
  (ha:findIn K (.ref C) name=some none) (hv:mA name=some v) (SU:PySem.W.handedIn v=true) (h:Q v { s with toks:=s.toks+1 }) :
  wpAny #[8] A (getAttr (.ref x) name Uc) Q E s:=by
 obtain⟨od,J,hl⟩:=I.look
 exact PySem.W.get_value X J (PySem.W.plainGet_of hg).1 (PySem.W.findObj_own hh ha rfl (by rw[hl,hv])) SU h
theorem FC{Q:Value×List Value->Shared->Prop}(X:K.In s.heap)(I:BN s.heap x dx C mA)(hg:plainGet K C name=true)
  (hf:findIn K (.ref C) name=some (some (.ref f))) (ht:isFn K (.ref f)=true) (hv:mA name=none) (h:Q (.ref f,[.ref x]) s) :
  wpAny #[8] A (getMethod (.ref x) name pl) Q E s:=by
 obtain⟨od,J,hl⟩:=I.look
 exact PySem.W.method_fn X J (PySem.W.plainGet_of hg).1 (PySem.W.plainGet_of hg).2 hf (dg.mp ht) (by show(lookIn name od).map (·.isSome)=some false;rw[hl,hv];rfl) h
theorem JE{ns:List Str}{Q:Unit->Shared->Prop}(X:K.In s.heap)(I:BN s.heap x dx C mA)
  (hs:findIn K (.ref C) "__setattr__"=some (some (.builtin "object.__setattr__"))) (hp:PySem.W.plainOver K C=true) (ht:PySem.W.takerIn K C name=some none) (hh:PySem.W.hasDictIn K C=true)
  (hw:PySem.Within mA ns) (hsz:ns.length<=sizeLine)
  (h:∀h',BN h' x dx C (fun y=>if y=name then some v else mA y)->Heap.SameBut dx s.heap h'->Q () { s with heap:=h',toks:=s.toks+2 }) :
  wpAny #[8] A (setAttr (.ref x) name v) Q E s:=by
 obtain⟨od,J,hl⟩:=I.look
 refine PySem.W.set_plain X J hs (PySem.W.osa_open (s:={ s with toks:=s.toks+1 }) (r:=none) X J hp ht fun b=>?_)
 obtain⟨cd,hc,hd'⟩:=PySem.W.any_some hh
 have hx:s.heap.get? x=some ⟨.ref C,some dx,.plain,#[]⟩:=I.obj
 refine af (ay (af (af (wpAny_loadPart hx (af (PySem.W.Looks.here (s:={ s with toks:=s.toks+1 }) (PySem.W.looks_clsIn X hc) ?_))))))
 rw[hd']
 refine ay (a:=some dx) (af (ay (af ?_)))
 refine wpAny_nsSet1 (s:={ s with toks:=s.toks+1 }) I.ns fun h' Sd tN=>?_
 obtain⟨oD,esD,epD,hoD,hdD,hcD⟩:=Sd.count (PySem.Within.cons name v hw)
 refine af (wpAny_lookBehind hoD (by rw[hdD];exact pastItsLine_dict (aN hcD (by rw[bg];omega))) ?_)
 exact ay (h _ ⟨(tN.2 _ (Ne.symm I.ne)).trans I.obj,Sd,I.ne⟩ tN)
theorem FD{R:Result->Shared->Prop}{vs:List Value}(X:K.In s.heap)(hm:makesIn K C=true)
  (hi:findIn K (.ref C) "__init__"=some (some (.ref f))) (hf:PySem.W.typeIn K (.ref f)=some (.type "function"))
  (h:codeAny #[8] (A.under (.builtin "type.__call__" ⟨.ref C::vs,kw⟩)) (.call (.ref f) ⟨.ref #[6]::vs,kw⟩) (PySem.W.InitBack #[6] R)
   { s with heap:=(s.heap.push emptyDict).push (instObj C s.heap.objs.size) }) :
  codeAny #[8] A (.call (.ref C) ⟨vs,kw⟩) R s:=by
 obtain⟨hh,g,d,t,os⟩:=s
 exact PySem.W.make_core (PySem.W.makes_of X hm) (PySem.W.looks_findIn X hi) (fun self=>PySem.W.bind_fn X self hf) (.inl rfl) h
end
noncomputable def nX(f:Str)(v:V):List (Str×V)->List (Str×V)
 |[]=>[(f,v)]
 |(g,x)::r=>if g=f then(g,v)::r else(g,x)::nX f v r
theorem tQ(f g:Str)(v:V):∀fs:List (Str×V),(nX f v fs).lookup g=if g=f then some v else fs.lookup g
 |[]=>by
  show List.lookup g [(f,v)]=_
  by_cases h:g=f
  ·have hb:(g==f)=true:=dg.mpr h
   simp only[List.lookup,hb,aE h]
  ·have hb:(g==f)=false:=bz.mpr h
   simp only[List.lookup,hb,aL h]
 |(k,x)::r=>by
  have ih:=tQ f g v r
  rw[show nX f v ((k,x)::r)=(if k=f then(k,v)::r else(k,x)::nX f v r)from rfl]
  by_cases hk:k=f
  ·rw[aE hk]
   by_cases h:g=k
   ·have hb:(g==k)=true:=dg.mpr h
    simp only[List.lookup,hb,aE (h.trans hk)]
   ·have hb:(g==k)=false:=bz.mpr h
    simp only[List.lookup,hb,aL (fun e:g=f=>h (e.trans hk.symm))]
  ·rw[aL hk]
   by_cases h:g=k
   ·have hb:(g==k)=true:=dg.mpr h
    simp only[List.lookup,hb,aL (fun e:g=f=>hk (h.symm.trans e))]
   ·have hb:(g==k)=false:=bz.mpr h
    simp only[List.lookup,hb]
    exact ih
theorem sJ(f:Str)(v:V):∀fs:List (Str×V),f∈(nX f v fs).map (·.1)/\∀g,g∈fs.map (·.1)->g∈(nX f v fs).map (·.1)
 |[]=>⟨by simp[nX],fun g h=>by simp at h⟩
 |(k,x)::r=>by
  obtain⟨i1,i2⟩:=sJ f v r
  rw[show nX f v ((k,x)::r)=(if k=f then(k,v)::r else(k,x)::nX f v r)from rfl]
  by_cases hk:k=f
  ·rw[aE hk]
   subst hk
   exact⟨by simp,fun g h=>by simpa using h⟩
  ·rw[aL hk]
   refine⟨?_,fun g h=>?_⟩
   ·rw[aU]
    exact aS _ i1
   ·rw[aU]at h ⊢
    rcases aT.mp h with e|e
    ·exact aT.mpr (.inl e)
    ·exact aS _ (i2 g e)
theorem tU(f:Str)(v:V):∀fs:List (Str×V),(nX f v fs).length<=fs.length+1
 |[]=>by simp[nX]
 |(k,x)::r=>by
  have ih:=tU f v r
  rw[show nX f v ((k,x)::r)=(if k=f then(k,v)::r else(k,x)::nX f v r)from rfl]
  by_cases hk:k=f
  ·rw[aE hk,bg,bg];omega
  ·rw[aL hk,bg,bg];omega
theorem mS.some_of{v:V}{o:Option Value}(r:mS nk (some v) o):∃u,o=some u/\cS nk v u:=by
 cases o with
 |none=>exact(show False from r).elim
 |some u=>exact⟨u,rfl,r⟩
theorem mS.none_of{o:Option Value}(r:mS nk none o):o=none:=by
 cases o with
 |none=>rfl
 |some u=>exact(show False from r).elim
theorem Ei{v:V}(r:cS nk v u):PySem.W.handedIn u=true:=by
 cases v with
 |non=>cases(show u=Value.none from r);rfl
 |bl b=>cases(show u=Value.bool b from r);rfl
 |int i=>obtain⟨t,e⟩:=(show ∃t,u=Value.int i t from r);cases e;rfl
 |str x=>obtain⟨t,e⟩:=(show ∃t:Tk _ x,u=Value.str x t.1 from r);cases e;rfl
 |byt b=>obtain⟨t,e⟩:=(show ∃t,u=Value.bytes b t from r);cases e;rfl
 |flt b=>obtain⟨t,e⟩:=(show ∃t,u=Value.float b t from r);cases e;rfl
 |ref a=>cases(show u=Value.ref a from r);rfl
 |ty n=>cases(show u=Value.type n from r);rfl
section
variable{w:World}{a dx:Addr}{fs Sl:List (Str×V)}
theorem uP(hok:pI P w nk H h)(e:H a=some (.ins C dx fs)):∃mA,BN h a dx C mA/\(∀f,mS nk (fs.lookup f) (mA f))/\PySem.Within mA (fs.map (·.1))/\fs.length<=1000/\H dx=some (.own a):=by
 obtain⟨d,z,ne,ob,mA,n,r,q⟩:=(show fq P w _ H h a (.ins C dx fs)from hok a _ e)
 exact⟨mA,⟨ob,n,ne⟩,r,q,z,d⟩
end
structure Cls(K:Frag)(C:Addr):Prop where
 pg:plainGet K C Str.empty=true
 hd:PySem.W.hasDictIn K C=true
 po:PySem.W.plainOver K C=true
 sa:findIn K (.ref C) "__setattr__"=some (some (.builtin "object.__setattr__"))
theorem Cls.get(c:Cls K C)(f:Str):plainGet K C f=true:=c.pg
def qx(K:Frag)(C:Addr)(f:Str):Prop:=findIn K (.ref C) f=some none
theorem qx.taker{f:Str}(n:qx K C f):PySem.W.takerIn K C f=some none:=by
 unfold PySem.W.takerIn
 rw[show findIn K (.ref C) f=some none from n]
 rfl
structure P6(K:Frag)(C:Addr)(m:Str)(f:Addr):Prop where
 at_:findIn K (.ref C) m=some (some (.ref f))
 fn:isFn K (.ref f)=true
 kp:keepIn K (.ref f)=true
section
variable{a dx:Addr}{fs:List (Str×V)}{f:Str}{v:V}
theorem BO{b:Bool}(I:bT X aj σ H s)(e:H a=some (.ins C dx fs))(c:Cls X.K C)(n:qx X.K C f)(l:fs.lookup f=some v)
  (h:∀u s',bT X aj σ H s'->cS s'.toks v u->Q u s'):wpAny #[3] A (getAttr (.ref a) f b) Q E s:=by
 obtain⟨mA,O,r,_,_,_⟩:=uP I.hok e
 obtain⟨u,hu,ru⟩:=mS.some_of (v:=v) (o:=mA f) (by rw[<- l];exact r f)
 exact JD I.kIn O (c.get f) c.hd n hu (Ei ru) (h u _ (I.tok _) (ru.up (bp _)))
theorem u3{m:Str}{g:Addr}{Q:Value×List Value->Shared->Prop}(I:bT X aj σ H s)(e:H a=some (.ins C dx fs))(c:Cls X.K C)(k:P6 X.K C m g)(l:fs.lookup m=none)
  (h:Q (.ref g,[.ref a]) s):wpAny #[3] A (getMethod (.ref a) m pl) Q E s:=by
 obtain⟨mA,O,r,_,_,_⟩:=uP I.hok e
 have hn:mA m=none:=mS.none_of (by rw[<- l];exact r m)
 exact FC I.kIn O (c.get m) k.at_ k.fn hn h
theorem BP{Q:Unit->Shared->Prop}(I:bT X aj σ H s)(e:H a=some (.ins C dx fs))(c:Cls X.K C)(n:qx X.K C f)(hl:fs.length<1000)(ry:cS s.toks y u)
  (h:∀s',bT X aj σ (fW H a (.ins C dx (nX f y fs))) s'->Q () s'):wpAny #[3] A (setAttr (.ref a) f u) Q E s:=by
 obtain⟨mA,O,r,wi,_,ho⟩:=uP I.hok e
 have hz:(fs.map (·.1)).length<=sizeLine:=by rw[aF,j9];omega
 refine JE I.kIn O c.sa c.po n.taker c.hd wi hz fun h' O' sb=>h _ ?_
 have hd:∃o,h'.get? dx=some o:=let ⟨o,_,_,e',_⟩:=O'.ns;⟨o,e'⟩
 refine I.write (x:=a) (e:=dx) (by rw[e];exact True.intro) (.inr ho) (fun b q hb z=>(sb.2 b hb).trans z) hd ?_
 refine⟨by rw[c_ O.ne];exact ho,?_,O.ne,O'.obj,_,O'.ns,fun g=>?_,fun g hg=>?_⟩
 ·have:=tU f y fs;omega
 ·show mS _ ((nX f y fs).lookup g) (if g=f then some u else mA g)
  rw[tQ]
  by_cases q:g=f
  ·rw[aE q,aE q];exact cS.up (iu _ _) ry
  ·rw[aL q,aL q];exact(r g).up (iu _ _)
 ·by_cases q:g=f
  ·rw[q];exact(sJ f y fs).1
  ·refine(sJ f y fs).2 g (wi g fun z=>hg ?_)
   show(if g=f then some u else mA g)=none
   rw[aL q];exact z
theorem bT.made(I:bT X aj σ H s):bT X aj σ (fW (fW H s.heap.objs.size (.own #[6])) #[6] (.ins C s.heap.objs.size []))
  { s with heap:=(s.heap.push emptyDict).push (instObj C s.heap.objs.size) }:=by
 have e1:(s.heap.push emptyDict).get? s.heap.objs.size=some emptyDict:=aC s.heap rfl
 have e2:((s.heap.push emptyDict).push (instObj C s.heap.objs.size)).get? #[6]=some (instObj C s.heap.objs.size):=by
  have:=aC (s.heap.push emptyDict) (o:=instObj C s.heap.objs.size) rfl
  rwa[bv]at this
 have e3:(s.heap.push emptyDict).Ns s.heap.objs.size (fun _=>none):=⟨emptyDict,#[],_,e1,rfl,(fun e he=>absurd he #[15]),fun _=>rfl⟩
 have I1:=I.laid (a:=s.heap.objs.size) (o:=.own #[6]) (h':=s.heap.push emptyDict) (t':=s.toks) (fun b u q=>av _ q) (az _) ⟨_,e1⟩
 refine I1.laid (a:=s.heap.objs.size+1) (o:=.ins C s.heap.objs.size []) (t':=s.toks) (fun b u q=>av _ q) (Nat.le_of_eq (bv _ _)) ?_
 have ne:s.heap.objs.size≠s.heap.objs.size+1:=bd (b7 _)
 refine⟨by rw[c_ ne,gJ],cn _,ne,e2,fun _=>none,(Heap.Ns1.of_empty e3).at fun o q=>av _ q,fun _=>True.intro,fun y hy=>absurd rfl hy⟩
theorem JF{w:World}(hb:attributeBase e f env (eval e env)=eval e env)
  (h:wpAny #[8] A (eval e env) (fun o s₁=>wpAny #[8] A (getAttr o f true) Q E s₁) E s):wpAny #[8] A (eval (.Attribute e f pos) env) Q E s:=
 Attribute_any_ h (by rw[arm_eval_Attribute,hb])
end
def Tn(K:Frag)(ta:TE)(f:Str):TE:=fun σ H Q=>ta σ H fun x H1=>∃a C dx fs v,x=.ref a/\H1 a=some (.ins C dx fs)/\Cls K C/\qx K C f/\fs.lookup f=some v/\Q v H1
def To(K:Frag)(ta tv:TE)(f:Str):TS:=fun D σ H=>tv σ H fun y H1=>ta σ H1 fun x H2=>∃a C dx fs,x=.ref a/\H2 a=some (.ins C dx fs)/\Cls K C/\qx K C f/\fs.length<1000 /\
 D.nx σ (fW H2 a (.ins C dx (nX f y fs)))
section
variable{value:Expr}{f:Str}{Uj:Pos}{ta tv:TE}
theorem MS(he:PE X e ta)(hb:attributeBase e f X.env (eval e X.env)=eval e X.env):PE X (.Attribute e f pos) (Tn X.K ta f):=by
 intro aj s σ H Q I h
 refine JF hb (jC (he aj s σ H _ I h) fun u s1 kt1 zq=>?_)
 obtain⟨x,H1,I1,rx,a,C,dx,fs,v,ex,ea,c,n,l,q⟩:=zq
 subst ex
 obtain rfl:u=Value.ref a:=rx
 exact BO I1 ea c n l fun u' s2 I2 ru=>⟨v,H1,I2,ru,q⟩
theorem MU(ha:PE X o ta)(hv:PE X value tv)(hs:swapsWith value (some (.Attribute o f iq)) pos.line X.env=pure false):PS X (.Assign [.Attribute o f iq] value pos) (To X.K ta tv f):=by
 intro aj s σ H D I h
 refine plainObj_wpAny_Assign_Attribute (jC (hv aj s σ H _ I h) fun u s1 kt1 ⟨y,H1,I1,ry,q⟩=>jC (ha aj s1 σ H1 _ I1 q) fun ov s2 kt2 ⟨x,H2,I2,rx,a,C,dx,fs,ex,ea,c,n,l,q2⟩=>?_) hs
 subst ex
 obtain rfl:ov=Value.ref a:=rx
 exact BP I2 ea c n l (ry.up kt2) fun s3 I3=>⟨σ,_,I3,q2⟩
end
section
variable{c:Value}{b:Bool}
inductive um(K:Frag)(H:Hp):V->Value->Prop where
 |non:um K H .non (.type "NoneType")
 |bl (x:Bool):um K H (.bl x) (.type "bool")
 |int (i:Int):um K H (.int i) (.type "int")
 |str (x:Str):um K H (.str x) (.type "str")
 |flt (x:UInt64):um K H (.flt x) (.type "float")
 |lst {a:Addr} {xs:List V} (e:H a=some (.lst xs)):um K H (.ref a) (.type "list")
 |frz {a:Addr} {o:Obj} {xs:List V} (e:H a=some (.frz o (.lst xs))):um K H (.ref a) (.type "list")
 |tup {a:Addr} {xs:List V} (e:H a=some (.tup xs)):um K H (.ref a) (.type "tuple")
 |dK {a:Addr} {kvs:List (jY×V)} (e:H a=some (.dK kvs)):um K H (.ref a) (.type "dict")
 |dT {a:Addr} {kvs:List (List jY×V)} (e:H a=some (.dT kvs)):um K H (.ref a) (.type "dict")
 |ins {a C dx:Addr} {fs:List (Str×V)} (e:H a=some (.ins C dx fs)) (cl:Cls K C) (ha:findIn K (.ref C) "__class__"=some (some (.builtin "object.__class__")))
   (hn:PySem.W.specialIn K (.builtin "object.__class__") "__get__"=some (some (.builtin "getset_descriptor.__get__"))) (SZ:PySem.W.takesIn K (.builtin "object.__class__")=some true)
   (hm:PySem.W.mroIn K C (.type "object")=some true):um K H (.ref a) (.ref C)
theorem pJ{x:V}{t:Value}(I:bT X aj σ H s)(rx:cS s.toks x u)(ty:um X.K H x t)(e:PySem.W.kitOne X.K t c=some b)(h:∀tk,Q (.bool b) { s with toks:=tk }) :
  wpAny #[3] A (call (.builtin "isinstance") [u,c]) Q E s:=by
 cases ty with
 |non=>cases(show u=Value.none from rx);exact kia_one PySem.W.kitx_none I.kIn True.intro e (fun z=>nomatch z) h
 |bl y=>cases(show u=Value.bool y from rx);exact kia_one PySem.W.kitx_bool I.kIn True.intro e (fun z=>nomatch z) h
 |int i=>obtain⟨t,q⟩:=(show ∃t,u=Value.int i t from rx);cases q;exact kia_one PySem.W.kitx_int I.kIn True.intro e (fun z=>nomatch z) h
 |str y=>obtain⟨t,q⟩:=(show ∃t:Tk _ y,u=Value.str y t.1 from rx);cases q;exact kia_one PySem.W.kitx_str I.kIn True.intro e (fun z=>nomatch z) h
 |flt y=>obtain⟨t,q⟩:=(show ∃t,u=Value.float y t from rx);cases q;exact kia_one PySem.W.kitx_float I.kIn True.intro e (fun z=>nomatch z) h
 |@lst a xs ea=>
  cases(show u=Value.ref a from rx)
  obtain⟨_,_,n,_,h1⟩:=(show fq X.prog X.w _ H s.heap a (.lst xs)from I.hok a _ ea)
  exact kia_one PySem.W.kitx_list I.kIn ⟨_,h1,rfl⟩ e (fun z=>nomatch z) h
 |@frz a ob xs ea=>
  cases(show u=Value.ref a from rx)
  obtain⟨_,_,_,n,_,h1⟩:=(show fq X.prog X.w _ H s.heap a (.frz ob (.lst xs))from I.hok a _ ea)
  exact kia_one PySem.W.kitx_list I.kIn ⟨_,h1,rfl⟩ e (fun z=>nomatch z) h
 |@tup a xs ea=>
  cases(show u=Value.ref a from rx)
  obtain⟨_,_,_,p⟩:=(show fq X.prog X.w _ H s.heap a (.tup xs)from I.hok a _ ea)
  obtain⟨o,h1,h2,_⟩:=p
  exact kia_one PySem.W.kitx_tuple I.kIn ⟨o,h1,h2⟩ e (fun z=>nomatch z) h
 |@dK a kvs ea=>
  cases(show u=Value.ref a from rx)
  obtain⟨_,_,vs,_,p⟩:=(show fq X.prog X.w _ H s.heap a (.dK kvs)from I.hok a _ ea)
  obtain⟨o,es,ep,h1,h2,_⟩:=p
  exact kia_one PySem.W.kitx_dict I.kIn ⟨o,h1,h2.1⟩ e (fun z=>nomatch z) h
 |@dT a kvs ea=>
  cases(show u=Value.ref a from rx)
  obtain⟨_,_,xs,_,o,es,ep,h1,h2,_⟩:=(show fq X.prog X.w _ H s.heap a (.dT kvs)from I.hok a _ ea)
  exact kia_one PySem.W.kitx_dict I.kIn ⟨o,h1,h2.1⟩ e (fun z=>nomatch z) h
 |@ins a C dx fs ea cl ha hn SZ hm=>
  cases(show u=Value.ref a from rx)
  obtain⟨mA,O,_⟩:=uP I.hok ea
  obtain⟨od,J,_⟩:=O.look
  exact kia_one (PySem.W.kitx_own (cl.get _) cl.hd ha hn SZ hm) I.kIn J e (fun z=>nomatch z) h
end
end L2
namespace L2
open PySem PySem.Spec PyProof.Rows
structure iK(k:Nat)(A:Around):Prop where
 hd:A.handled=none
 dp:A.depth+2*k+5<recursionLimit
 un:A.units+16*k+200<cLine
theorem iK.mono{k:Nat}(r:iK k A)(h:j<=k):iK j A:=⟨r.hd,by have:=r.dp;omega,by have:=r.un;omega⟩
theorem iK.deeper{k:Nat}(r:iK (k+1) A)(env:Env):iK k (A.deeper env):=
 ⟨r.hd,by have:=r.dp;show A.depth+1+2*k+5<_;omega,by have:=r.un;show A.units+3+16*k+200<_;omega⟩
theorem BQ:(A.under (.builtin "type.__call__" ⟨.ref C::us,kw⟩)).depth=A.depth+1:=by
 first|rfl|simp[Around.under,Code.weight,Code.isCreation,Code.isGuard,Code.isCaller,Code.frames,Code.isFrame,guardIds]
theorem BR:(A.under (.builtin "type.__call__" ⟨.ref C::us,kw⟩)).units=A.units+1:=by
 first|rfl|simp[Around.under,Code.cUnits,Code.frames,Code.isFrame]
theorem iK.make{k:Nat}(r:iK (k+1) A)(C:Addr)(us:List Value)(kw:List (Str×Value)):iK k (A.under (.builtin "type.__call__" ⟨.ref C::us,kw⟩)):=
 ⟨r.hd,by have:=r.dp;rw[BQ];omega,by have:=r.un;rw[BR];omega⟩
theorem iK.depth{k:Nat}(r:iK k A):A.depth<recursionLimit:=by have:=r.dp;omega
theorem iK.units{k:Nat}(r:iK k A):A.units+64<cLine:=by have:=r.un;omega
def Tp:TA:=fun _ H Q=>Q [] H
def P7(ta:TE)(tr:TA):TA:=fun σ H Q=>ta σ H fun x H1=>tr σ H1 fun xs H2=>Q (x::xs) H2
section
variable{t:TA}
theorem FF:PA X [] Tp:=fun _ _ _ _ H Q I h=>fZ ⟨[],H,I,.nil,h⟩
theorem yr(ha:PE X e te)(hr:PA X es t)(hs:starEach (e::es) X.env=(false,eval e X.env)::starEach es X.env:=by rfl):PA X (e::es) (P7 te t):=by
 intro pos aj s σ H Q I h
 rw[hs]
 show wpAny _ _ (spliced ((false,eval e X.env)::backTo pos (starEach es X.env))) _ _ s
 refine eP (jC (ha aj s σ H _ I h) fun u s1 kt1 zq=>?_)
 obtain⟨x,H1,I1,r1,q1⟩:=zq
 exact jC (hr pos aj s1 σ H1 _ I1 q1) fun us s2 kt2 ⟨xs,H2,I2,r2,q2⟩=>⟨x::xs,H2,I2,.cons (r1.up kt2) r2,q2⟩
end
abbrev Sp:=List V->Hp->VK->XK->Prop
abbrev Ej:=List Env->Hp->Shared->XK->Value->Shared->Prop
structure BS(P:Program)(w:World)(K:Frag)(mg:Str->Option Value)(base:Heap)(A:Around)(outer:List Env)(s:Shared)(H:Hp):Prop where
 frames:A.frames=some outer
 mod:Mod K mg base
 bs:∀b o,base.get? b=some o->s.heap.get? b=some o/\H b=none
 bsz:base.objs.size<=s.heap.objs.size
 funs:s.heap.FunFrames base outer
 frf:∀b∈uN outer,H b=none
 hok:pI P w s.toks H s.heap
 bare:AllBare s.gens
def CE(outer:List Env)(P:Program)(w:World)(H:Hp)(s:Shared)(Q:VK)(u:Value)(s':Shared):Prop:=
 ∃v H',s'.os=s.os/\AllBare s'.gens/\Un (uN outer) [] H H' s.heap s'.heap/\pI P w s'.toks H' s'.heap/\cS s'.toks v u/\Q v H'
def CR(CX:Ej)(outer:List Env)(P:Program)(w:World)(H:Hp)(s:Shared)(Q:VK)(E:XK)(r:Result)(s':Shared):Prop:=
 match r with
 |.ok (.ret u)=>CE outer P w H s Q u s'
 |.ok _=>False
 |.error e=>CX outer H s E e s'
structure c6(P:Program)(w:World)(K:Frag)(mg:Str->Option Value)(base:Heap)(CX:Ej)(k:Nat)(f:Addr)(fd:FuncData)(ps:List Str)(sp:Sp):Prop where
 len:∀vs H Q E,sp vs H Q E->vs.length=ps.length
 run:∀(A:Around) (outer:List Env) (s:Shared) (H:Hp) (args:Args) (us:List Value) (vs:List V) (Q:VK) (E:XK),iK k A->BS P w K mg base A outer s H->(0<s.toks\/∃n,ps=[n]/\fd.scope.names.lookup n=some .local)->BindsTo s fd args (ps.zip us)->cL s.toks vs us->sp vs H Q E ->
  codeAny (model P w) A (.call (.ref f) args) (CR CX outer P w H s Q E) s
theorem c6.mono{w:World}{CX:Ej}{k:Nat}{f:Addr}{sp:Sp}(F:c6 P w K mg base CX j f fd ps sp)(h:j<=k) :
  c6 P w K mg base CX k f fd ps sp:=⟨F.len,fun A outer s H args us vs Q E hr=>F.run A outer s H args us vs Q E (hr.mono h)⟩
theorem c6.imp{w:World}{CX:Ej}{k:Nat}{f:Addr}{sp UJ:Sp}(F:c6 P w K mg base CX k f fd ps sp)
  (h:∀vs H Q E,UJ vs H Q E->sp vs H Q E):c6 P w K mg base CX k f fd ps UJ:=
 ⟨fun vs H Q E q=>F.len vs H Q E (h _ _ _ _ q),fun A outer s H args us vs Q E hr he hp hb hv hs=>F.run A outer s H args us vs Q E hr he hp hb hv (h _ _ _ _ hs)⟩
theorem BS.make{w:World}{outer:List Env}(e:BS P w K mg base A outer s H)(C:Addr)(us:List Value)(kw:List (Str×Value)) :
  BS P w K mg base (A.under (.builtin "type.__call__" ⟨.ref C::us,kw⟩)) outer s H:=⟨by first|exact e.frames|(simpa[Around.under,Code.envs,Code.isFrame,pushEnvs]using e.frames),e.mod,e.bs,e.bsz,e.funs,e.frf,e.hok,e.bare⟩
section
variable{s':Shared}
theorem bT.env0(I:bT X aj σ H s):BS X.prog X.w X.K X.mg X.base X.A X.stack s H:=
 ⟨I.ok.frames,I.ok.mod,I.bs,aN I.ok.bsz I.sz,I.stack,I.stkFree,I.hok,I.bare⟩
theorem bT.after{Q:VK}(I:bT X aj σ H s)(h:CE X.stack X.prog X.w H s Q u s')(hk:s.toks<=s'.toks):EP X aj σ Q u s':=by
 obtain⟨v,H',os,bare,un,hok,r,q⟩:=h
 obtain⟨hh,g,d,t,os'⟩:=s'
 obtain rfl:os'=s.os:=os
 exact⟨v,H',I.call (h':=hh) (g':=g) (d':=d) (t':=t) (ch:=[]) un hok bare (fun b z=>absurd z #[15]) hk,r,q⟩
end
def qc(K:Frag)(fd:FuncData)(ps:List Str)(ds:List Value):Prop:=
 ∀(s:Shared) (us:List Value),K.In s.heap->(us++ds).length=ps.length->BindsTo s fd ⟨us,[]⟩ (ps.zip (us++ds))
theorem qc.all(h:∀us:List Value,us.length=ps.length->bindArgs fd ⟨us,[]⟩=pure (ps.zip us)):qc K fd ps []:=fun s us _ hl=>by
 rw[bx]at hl ⊢
 exact .of_eq (h us hl)
def MV(CX:Ej)(X:Cx)(E:XK):Prop:=∀(aj:List (Addr×Obj)) (σ:St) (H:Hp) (s:Shared) (e:Value) (s':Shared),bT X aj σ H s->s.toks<=s'.toks->CX X.stack H s E e s'->X.xe e s'
section
variable{CX:Ej}{k:Nat}{f:Addr}{sp:Sp}{dvs:List V}{ds:List Value}{E:XK}{x m:Str}{ta:TE}{t:TA}
structure Mk(K:Frag)(C f:Addr):Prop where
 makes:makesIn K C=true
 init:findIn K (.ref C) "__init__"=some (some (.ref f))
 fn:isFn K (.ref f)=true
 kp:keepIn K (.ref C)=true
theorem FH{Q:VK}(M:Mk X.K C f)(F:c6 X.prog X.w X.K X.mg X.base CX k f fd ps sp)(hr:iK (k+1) X.A)(hb:qc X.K fd ps ds)(hd:cL 0 dvs ds)
  (hx:MV CX X E) (I:bT X aj σ H s) (r:cL s.toks vs us)
  (h:∀x dx,H x=none->H dx=none->dx≠x->sp (.ref x::(vs++dvs)) (fW (fW H dx (.own x)) x (.ins C dx [])) (fun v H2=>v=.non/\Q (.ref x) H2) E) :
  wpAny #[3] X.A (call (.ref C) us) (EP X aj σ Q) X.xe s:=by
 have hq:=h #[6] s.heap.objs.size (I.hok.fresh (bp _)) (I.hok.fresh (az _)) (bd (b7 _))
 have I2:=bT.made (C:=C) I
 have r2:cL _ (V.ref #[6]::(vs++dvs)) (Value.ref #[6]::(us++ds)):=.cons rfl ((r.append (hd.up (cn _))).up (by first|exact az _|exact iu _ _|omega))
 have hl:(Value.ref #[6]::us++ds).length=ps.length:=by
  have e:=r2.length
  rw[F.len _ _ _ _ hq]at e
  exact e.symm
 refine up (qV (FD (f:=f) I.kIn M.makes M.init (dg.mp M.fn) (iw (F.run _ X.stack _ _ ⟨Value.ref #[6]::us,[]⟩ (Value.ref #[6]::(us++ds)) _ _ E (hr.make C us [])
  (I2.env0.make C us []) (.inl I2.pos) (hb _ (Value.ref #[6]::us) I2.kIn hl) r2 hq) fun r s' hq'=>?_)))
 cases r with
 |error e=>exact fun kt=>hx aj σ _ _ e s' I2 kt hq'
 |ok fl=>
  cases fl with
  |ret u=>
   have kq:s.toks<=s'.toks->_:=fun kt=>I2.after hq' kt
   refine⟨?_,fun kt=>?_⟩
   ·obtain⟨v,H',_,_,_,_,rv,ev,_⟩:=hq'
    subst ev
    exact rv
   ·obtain⟨v,H',I3,rv,ev,q3⟩:=kq kt
    exact⟨V.ref #[6],H',I3,rfl,q3⟩
  |next=>exact False.elim hq'
  |brk=>exact False.elim hq'
  |cont=>exact False.elim hq'
end
section
variable{CX:Ej}{k:Nat}{f:Addr}{sp:Sp}{E:XK}{x m:Str}{UY:Pos}{U9:List Keyword}{ta:TE}{t tk:TA}{nm:Option Str}
variable{g:List Value->List Value->List Value}{gV:List V->List V->List V}
end
structure bh(N P:List Str)(sc:Scope):Prop where
 kind:sc.kind=.function
 co:sc.isCoroutine=false
 gen:sc.isGenerator=false
 nd:N.Nodup
 pre:N.take P.length=P
 par:∀x∈P,sc.names.lookup x=some .local\/sc.names.lookup x=some .cell
 nofree:∀y∈sc.names,y.2≠.free
theorem xj{x:Str}:∀{binds:List (Str×Value)} {m:Str->Option Value},(∀v,(x,v)∉binds)->bindL kindOf binds m x=m x
 |[],_,_=>rfl
 |(n,v)::r,m,h=>by
  unfold bindL
  rw[xj fun w hw=>h w (aS _ hw)]
  split
  ·have:x≠n:=by rintro rfl;exact h v bC
   simp[this]
  ·rfl
theorem xk{x:Str}:∀{binds:List (Str×Value)} {m:Str->Option Value},(∀v,(x,v)∉binds)->bindC kindOf binds m x=m x
 |[],_,_=>rfl
 |(n,v)::r,m,h=>by
  unfold bindC
  rw[xk fun w hw=>h w (aS _ hw)]
  split
  ·rfl
  ·have:x≠n:=by rintro rfl;exact h v bC
   simp[this]
theorem xl{x:Str}:∀{P:List Str} {vs:List Value} {i:Nat} {m:Str->Option Value},P.Nodup->P[i]?=some x->vs[i]?=some v->kindOf x=some .local ->
  bindL kindOf (P.zip vs) m x=some v
 |[],_,_,_,_,h,_,_=>by simp at h
 |_::_,[],_,_,_,_,h,_=>by simp at h
 |p::P,w::vs,0,m,nd,h1,h2,hk=>by
  simp at h1 h2;subst h1;subst h2
  show bindL kindOf ((p,w)::P.zip vs) m p=_
  unfold bindL
  rw[xj fun v hv=>(iV.mp nd).1 (nS hv).1,aE hk]
  simp
 |p::P,w::vs,i+1,m,nd,h1,h2,hk=>by
  show bindL kindOf ((p,w)::P.zip vs) m x=_
  unfold bindL
  exact xl (i:=i) (iV.mp nd).2 (by simpa using h1) (by simpa using h2) hk
theorem xn{x:Str}:∀{P:List Str} {vs:List Value} {i:Nat} {m:Str->Option Value},P.Nodup->P[i]?=some x->vs[i]?=some v->kindOf x≠some .local ->
  bindC kindOf (P.zip vs) m x=some v
 |[],_,_,_,_,h,_,_=>by simp at h
 |_::_,[],_,_,_,_,h,_=>by simp at h
 |p::P,w::vs,0,m,nd,h1,h2,hk=>by
  simp at h1 h2;subst h1;subst h2
  show bindC kindOf ((p,w)::P.zip vs) m p=_
  unfold bindC
  rw[xk fun v hv=>(iV.mp nd).1 (nS hv).1,aL hk]
  simp
 |p::P,w::vs,i+1,m,nd,h1,h2,hk=>by
  show bindC kindOf ((p,w)::P.zip vs) m x=_
  unfold bindC
  exact xn (i:=i) (iV.mp nd).2 (by simpa using h1) (by simpa using h2) hk
def tV(N:List Str)(vs:List V):St:=vs.map some++List.replicate (N.length-vs.length) none
def BT(CX:Ej)(P:Program)(w:World)(K:Frag)(mg:Str->Option Value)(base:Heap)(N:List Str)(fG:Str)(scope:Scope)(f:Addr)(cd:Value)(A:Around)(outer:List Env)(s:Shared)(H:Hp)(E:XK):Cx where
 prog:=P
 w:=w
 K:=K
 mg:=mg
 base:=base
 A:=A.deeper (envOfC fG scope s.heap.objs.size f cd)
 N:=N
 s₀:=s
 H₀:=H
 env:=envOfC fG scope s.heap.objs.size f cd
 outer:=outer
 stack:=envOfC fG scope s.heap.objs.size f cd::outer
 ex:=[]
 calm:=true
 fn:=fun _=>true
 pn:=[]
 xe:=fun e s'=>wpAny (model P w) (A.deeper (envOfC fG scope s.heap.objs.size f cd)) (leaving (envOfC fG scope s.heap.objs.size f cd) e) (fun _ s''=>CX outer H s E e s'') (fun e' s''=>CX outer H s E e' s'') s'
theorem mB{sc:Scope}{n:Nat}{x:Str}(h:sc.names.lookup x=some .cell):∃c,(cellsFrom n sc.names []).lookup x=some c:=by
 have q:=PySem.W.cellsFrom_some sc.names n [] (.inl h)
 exact Option.isSome_iff_exists.mp q
theorem BU{globals:Addr}{n:Str}{func:Option Addr}{code:Value}{builtins:Addr}{Q:Env->Shared->Prop}
  (hk:scope.kind=.function) (hl:scope.names.lookup n=some .local)
  (hQ:∀env,env=newEnv scope s.heap.objs.size globals (cellsFrom #[6] scope.names []) fG func code none builtins ->
   ∀s',s.toks<s'.toks->InCallC s env.locals (bindL env.kindOf [(n,v)] fun _=>none) env.cells (bindC env.kindOf [(n,v)] fun _=>none) s'->Q env s') :
  wpAny M A (newFunctionEnv scope globals [] [(n,v)] fG func code none builtins) Q E s:=by
 simp only[newFunctionEnv,Option.isSome_none,fJ,j_]
 refine af (wpAny_alloc ?_)
 refine af (wpAny_layCells _ (fun name kind cells=>by cases hkc:kind==NameKind.cell<;>simp[hkc]) _ _ _ _ ?_)
 have ok:=cellsFrom_ok scope.names (s.heap.push { cls:=.type "frame",data:=.dict #[] }) #[6] [] ⟨fun _ _ hm=>(nomatch hm),List.Pairwise.nil⟩ (by rw[bv];exact az _)
 rw[bv]at ok
 rw[show({ s with heap:=s.heap.push { cls:=.type "frame",data:=.dict #[] } }:Shared).heap.objs.size=s.heap.objs.size+1 from bv ..]
 have x:InCallC s s.heap.objs.size (fun _=>none) (cellsFrom #[6] scope.names []) (fun _=>none) { s with heap:=pushCells (s.heap.push { cls:=.type "frame",data:=.dict #[] }) scope.names }:=
  ⟨⟨⟨_,_,rfl⟩,(Heap.Ns.new s.heap (.type "frame")).keeps (kB _ _),fun b o e=>kB _ _ b o (av _ e),az _⟩,
   fun n c hc=>(ok.empty n c (PySem.mem_of_lookup hc)).1,ok.apart,fun n c hm=>(ok.empty n c hm).2⟩
 refine af ?_
 rw[kC]
 refine af (af (n5 (env:=newEnv scope s.heap.objs.size globals (cellsFrom #[6] scope.names []) fG func code none builtins) hl x.toInCall.ns (fun h' hn' hs'=>ay ?_) (by show(scope.kind==_||(scope.kind==_&&_))=false;rw[hk];rfl)))
 show wpAny M A (forIn [] _ _) _ _ _
 rw[py]
 refine ay (ay (hQ _ rfl _ (b7 _) ?_))
 have e1:bindL (newEnv scope s.heap.objs.size globals (cellsFrom #[6] scope.names []) fG func code none builtins).kindOf [(n,v)] (fun _=>none)=fun y=>if y=n then some v else none:=by
  show(if _=some NameKind.local then _ else _)=_;exact aE hl
 have e2:bindC (newEnv scope s.heap.objs.size globals (cellsFrom #[6] scope.names []) fG func code none builtins).kindOf [(n,v)] (fun _=>none)=fun _=>none:=by
  show(if _=some NameKind.local then _ else _)=_;exact aE hl
 rw[e1,e2]
 refine⟨⟨?_,hn',fun b o e=>?_,x.toInCall.fresh⟩,fun k c hc=>?_,x.apart,x.above⟩
 ·exact⟨h',_,rfl⟩
 ·exact hs'.extBut b o (bd (aP (aH e) x.toInCall.fresh)) (x.toInCall.keep b o e)
 ·exact(x.cell k c hc).sameBut hs' (eh (x.above k c (PySem.mem_of_lookup hc)))
theorem Ek{CX:Ej}{w:World}{N:List Str}{f:Addr}{cd:Value}{outer:List Env}{s1:Shared}{E:XK}
  (S:bh N ps scope) (hd:A.handled=none) (e0:BS P w K mg base A outer s H) (hl:vs.length=ps.length) (r:cL s.toks vs us) (kW:s.toks<=s1.toks) (T':0<s1.toks)
  (x:InCallC s s.heap.objs.size (bindL (envOfC fG scope s.heap.objs.size f cd).kindOf (ps.zip us) fun _=>none) (cellsFrom #[6] scope.names []) (bindC (envOfC fG scope s.heap.objs.size f cd).kindOf (ps.zip us) fun _=>none) s1) :
  bT (BT CX P w K mg base N fG scope f cd A outer s H E) [] (tV N vs) H s1:=by
 have p_:ps.length<=N.length:=by have:=ib List.length S.pre;rw[aM]at this;omega
 obtain⟨h1,tk,rfl,hk⟩:=x.done
 have noA:∀b:Addr,b∉(BT CX P w K mg base N fG scope f cd A outer s H E).ex:=fun b z=>absurd (show b∈([]:List Addr)from z) #[15]
 refine⟨⟨e0.mod,S.kind,rfl,rfl,az _,fun y z c h1 h2=>?_,fun y hy=>?_,fun y c _ h=>?_,fun _=>hd,Around.frames_deeper e0.frames,.inr ⟨rfl,rfl⟩,fun b z=>absurd z (noA b),e0.bs,e0.bsz,fun b _ _=>noA b,fun b z=>absurd z (noA b),e0.funs,e0.frf⟩,
  rfl,e0.bare,Un.kept hk,⟨_,x.toInCall.ns,fun i y v h1 h2 h3=>?_⟩,fun y c h=>⟨_,x.cell y c h⟩,e0.hok.fresh (az _),fun y c h=>?_,fun p hp=>absurd (show p∈([]:List (Addr×Obj))from hp) #[15],(e0.hok.kept hk).up kW,?_,T',kW⟩
 ·exact name_of_addr x.apart (PySem.mem_of_lookup h1) (PySem.mem_of_lookup h2)
 ·have hy:scope.names.lookup y=some .cell\/scope.names.lookup y=some .free:=hy
  rcases hy with hy|hy
  ·exact mB hy
  ·exact absurd rfl (S.nofree _ (PySem.mem_of_lookup hy))
 ·exact fY (x.above y c (PySem.mem_of_lookup h))
 ·have hi:i<vs.length:=by
   unfold tV at h2
   by_cases hi:i<vs.length
   ·exact hi
   ·rw[aY (by simpa using hi)]at h2
    rw[jf]at h2
    split at h2<;>cases h2
  have ha:vs[i]?=some v:=by
   unfold tV at h2
   rw[aK (by simpa using hi),aJ]at h2
   cases e:vs[i]? with
   |none=>rw[e]at h2;cases h2
   |some a=>rw[e]at h2;cases h2;rfl
  obtain⟨u,hu,rv⟩:=r.get ha
  have hp:ps[i]?=some y:=by
   rw[<- S.pre,cO #[0]];exact h1
  have ndP:ps.Nodup:=by rw[<- S.pre];exact S.nd.sublist (List.take_sublist _ _)
  refine⟨u,rv.up kW,?_⟩
  rcases S.par y (cw hp)with k|k
  ·exact .inl ⟨k,xl ndP hp hu k⟩
  ·obtain⟨c,e⟩:=mB (n:=s.heap.objs.size+1) k
   refine .inr ⟨.inl k,c,e,?_⟩
   have q:=x.cell y c e
   rw[xn ndP hp hu (by show scope.names.lookup y≠_;rw[k];decide)]at q
   exact q
 ·exact e0.hok.fresh (fY (x.above y c (PySem.mem_of_lookup h)))
 ·unfold tV
  show _=N.length
  rw[ah,aF,List.length_replicate]
  omega
theorem P8{CX:Ej}{w:World}{k:Nat}{f:Addr}{params:Arguments}{body:List Stmt}{dV kV sE pm fA ct oc:Value}{an od:Option Addr}
  {Md:Array (Option Value)} {N ps:List Str} {sp:Sp} (lk:K.lookup f=some ⟨oc,od,.func (fnOf name fG params body scope dV kV sE pm an fA ct),Md⟩) (Fb:codeIn K fA fG=true) (S:bh N ps scope)
  (len:∀vs H Q E,sp vs H Q E->vs.length=ps.length)
  (BA:∀(A:Around) (outer:List Env) (s:Shared) (H:Hp) (vs:List V) (Q:VK) (E:XK),iK k (A.deeper (envOfC fG scope s.heap.objs.size f fA))->sp vs H Q E ->
   ∃t,D' (BT CX P w K mg base N fG scope f fA A outer s H E) body t/\t { nx:=fun _ H'=>Q .non H',rt:=Q } (tV N vs) H) :
  c6 P w K mg base CX (k+1) f (fnOf name fG params body scope dV kV sE pm an fA ct) ps sp:=by
 refine⟨len,fun A outer s H args us vs Q E hr e0 hp hb r Mg=>?_⟩
 have hl:=len _ _ _ _ Mg
 have KX:K.In s.heap:=e0.mod.kin.keeps fun b o e=>(e0.bs b o e).1
 have lim:s.heap.NoLimit:=e0.mod.nolimit.keeps fun b o e=>(e0.bs b o e).1
 have jG:∀y∈ps.zip us,scope.names.lookup y.1=some .local\/(scope.names.lookup y.1=some .cell/\((cellsFrom #[6] scope.names []).lookup y.1).isSome=true):=fun zq hy=>by
  obtain⟨n,v⟩:=zq
  rcases S.par n (nS hy).1 with q|q
  ·exact .inl q
  ·exact .inr ⟨q,PySem.W.cellsFrom_some _ _ _ (.inl q)⟩
 refine codeAny_call_function hr.depth (KX _ _ lk) rfl S.co S.gen rfl (PySem.W.codeRec_of KX Fb) (hb _ _ _ _ ?_)
 suffices hh:∀env,env=newEnv scope s.heap.objs.size mainGlobals (cellsFrom #[6] scope.names []) (fG++".<locals>.") (some f) fA none builtinsNs->∀s1,s.toks<=s1.toks->0<s1.toks->InCallC s env.locals (bindL env.kindOf (ps.zip us) fun _=>none) env.cells (bindC env.kindOf (ps.zip us) fun _=>none) s1->s1.heap.NoLimit/\codeAny (model P w) A (Code.func body env) (CR CX outer P w H s Q E) s1 by
  rcases hp with hp|⟨n,e1,hn⟩
  ·exact up (wpAny_newFunctionEnv_cells S.kind jG fun env he s1 x kW=>hh env he s1 kW (aP hp kW) x)
  ·subst e1
   have hus:us.length=1:=r.length.symm.trans hl
   obtain⟨u,rfl⟩:∃u,us=[u]:=gF.mp hus
   exact BU S.kind hn fun env he s1 hlt x=>hh env he s1 (fY hlt) (gG (cn _) hlt) x
 intro env he s1 kW T' x
 subst he
 refine⟨lim.keeps x.toInCall.keep,codeAny_func ?_⟩
 obtain⟨t,ht,hq⟩:=BA A outer s H vs Q E (hr.deeper _) Mg
 have I:bT (BT CX P w K mg base N fG scope f fA A outer s H E) [] (tV N vs) H s1:=Ek S hr.hd e0 hl r kW T' x
 refine lj (ht [] s1 (tV N vs) H _ I hq) (fun fl s' hs=>?_) fun e s' hs=>hs
 have kJ:∀{σ':St} {H':Hp} {v:V} {u:Value},bT (BT CX P w K mg base N fG scope f fA A outer s H E) [] σ' H' s'->cS _ v u->Q v H'->CE outer P w H s Q u s':=
  fun{σ' H' v u} J rv q=>⟨v,H',J.os,J.bare,J.base,J.hok,rv,q⟩
 cases fl with
 |ret u=>
  obtain⟨v,σ',H',J,rv,q⟩:=hs
  exact kJ J rv q
 |next=>
  obtain⟨σ',H',J,q⟩:=hs
  exact kJ (v:=V.non) (u:=Value.none) J rfl q
 |brk=>
  obtain⟨_,_,_,q⟩:=hs
  exact False.elim q
 |cont=>
  obtain⟨_,_,_,q⟩:=hs
  exact False.elim q
end L2
namespace L2
open PySem PySem.Spec PyProof.Rows
section
variable{x:Str}{t:TA}{id:String}{r:List V->Hp->VK->Prop}
def Tq(r:List V->Hp->VK->Prop)(t:TA):TE:=fun σ H Q=>t σ H fun vs H1=>r vs H1 Q
theorem zY(hc:i' X (.builtin id) r)(hg:Gl X x)(hm:X.mg x=none)(hv:bootBuiltins x=some (.builtin id))(ha:PA X (e::es) t)(hn:x ≠ "__name__":=by decide)(IJ:(x==("__debug__":Str))=false:=by decide)
  (he:starEach (e::es) X.env=(false,eval e X.env)::starEach es X.env:=by rfl) (p_:(backTo pos (starEach es X.env)).any (·.1)=false:=by rfl):PE X (.Call (.Name x p) (e::es) [] pos) (Tq r t):=by
 intro aj s σ H Q I h
 refine fK (on I hg hm hv ?_ hn IJ)
 exact jQ (jC (ha pos aj s σ H _ I h) fun us s1 kt1 ⟨vs,H1,I1,r1,q1⟩=>hc aj s1 σ H1 vs us Q I1 r1 q1) he p_
theorem El(hc:i' X (.type T) r)(hg:Gl X x)(hm:X.mg x=none)(hv:bootBuiltins x=some (.type T))(ha:PA X (e::es) t)(hn:x ≠ "__name__":=by decide)(IJ:(x==("__debug__":Str))=false:=by decide)
  (he:starEach (e::es) X.env=(false,eval e X.env)::starEach es X.env:=by rfl) (p_:(backTo pos (starEach es X.env)).any (·.1)=false:=by rfl):PE X (.Call (.Name x p) (e::es) [] pos) (Tq r t):=by
 intro aj s σ H Q I h
 refine fK (on I hg hm hv ?_ hn IJ)
 exact dS (jC (ha pos aj s σ H _ I h) fun us s1 kt1 ⟨vs,H1,I1,r1,q1⟩=>hc aj s1 σ H1 vs us Q I1 r1 q1) he p_
end
end L2
namespace HT
open PySem PyProof.Rows
section
open PySem.SeqAt
open PySem.AutoSeq1 (wpAny_loadPart')
open PySem.MeetsSeq PySem.MeetsSeq2 PySem.MeetsSeq3
end
section
variable{w:World}
theorem cat_tup{t b:Addr}{vs ws:List Value}(ht:IsTup s.heap t vs.toArray)(hb:IsTup s.heap b ws.toArray)(hv:vs≠[])
  (h1:ws=[]->Q (.ref t) s) (h2:ws≠[]->Q (.ref s.heap.objs.size) { s with heap:=s.heap.push { cls:=.type "tuple",data:=.seq (vs++ws).toArray } })
  (hsz:vs.length+ws.length<=sizeLine):wpAny #[8] A (binaryOp .Add (.ref t) (.ref b)) Q E s:=by
 obtain⟨⟨cls,dd,data,sl⟩,ho,hc,n,hd⟩:=id ht
 obtain⟨⟨cls2,dd2,data2,sl2⟩,ho2,hc2,n2,hd2⟩:=id hb
 simp only at hc hd hc2 hd2
 subst hc hd hc2 hd2
 have e:vs.toArray++ws.toArray=(vs++ws).toArray:=by simp
 by_cases hw:ws=[]
 ·exact su ⟨_,ho,rfl⟩ ⟨_,ho2,rfl⟩ mL qt PySem.F.slot_tuple_add PySem.F.entry_tuple_add (PySem.F.args_tuple_add_2 _ _)
   (tuple_addW1 t b vs.toArray ws.toArray n n2 dd dd2 sl sl2 (by simpa using hv) (by simp[hw])) ⟨ho,ho2,h1 hw⟩
 ·refine su ⟨_,ho,rfl⟩ ⟨_,ho2,rfl⟩ mL qt PySem.F.slot_tuple_add PySem.F.entry_tuple_add (PySem.F.args_tuple_add_2 _ _)
   (tuple_addW2 t b vs.toArray ws.toArray n n2 dd dd2 sl sl2 (by simpa using hv) (by simpa using hw) (by rw[aV,aV];exact hsz)) ⟨ho,ho2,?_⟩
  rw[e]
  exact h2 hw
noncomputable def sIx(n d:Nat):Option Int->Nat
 |none=>d
 |some v=>if v<0 then(v+(n:Int)).toNat else min v.toNat n
theorem sIx_none(n d:Nat):sIx n d none=d:=rfl
theorem sIx_nat(n d k:Nat):sIx n d (some (k:Int))=min k n:=by
 show(if (k:Int)<0 then((k:Int)+(n:Int)).toNat else min (k:Int).toNat n)=min k n
 rw[aL #[0],bV]
theorem sIx_le(n d:Nat)(hd:d<=n)(o:Option Int):sIx n d o<=n:=by
 cases o with
 |none=>exact hd
 |some v=>
  show(if v<0 then(v+(n:Int)).toNat else min v.toNat n)<=n
  by_cases hv:v<0
  ·rw[aE hv];omega
  ·rw[aL hv];exact Nat.min_le_right _ _
theorem Dc(v:Int)(n d:Nat):(if v<0 then max (v+(n:Int)) 0 else min v (n:Int))=((sIx n d (some v):Nat):Int):=by
 show(if v<0 then max (v+(n:Int)) 0 else min v (n:Int))=(((if v<0 then(v+(n:Int)).toNat else min v.toNat n):Nat):Int)
 by_cases hv:v<0
 ·simp only[aE hv];omega
 ·simp only[aL hv];omega
theorem BV(lo hi:Option Int)(n:Nat):Builtin.Slice.sliceAdjust lo hi 1 (n:Int)=(((sIx n 0 lo:Nat):Int),((sIx n n hi:Nat):Int)):=by
 have h1:¬ ((1:Int)<0):=by omega
 unfold Builtin.Slice.sliceAdjust
 simp only[h1,j_]
 refine Prod.ext ?_ ?_
 ·cases lo with
  |none=>rfl
  |some v=>exact Dc v n 0
 ·cases hi with
  |none=>rfl
  |some v=>exact Dc v n n
theorem BW(i j:Nat):Builtin.Slice.slicePlaces (i:Int) (j:Int) 1=j-i:=by
 unfold Builtin.Slice.slicePlaces
 have h1:(1:Int)>0:=by omega
 simp only[h1,f6,Int.ediv_one]
 split<;>omega
theorem u4{o:Option Int}{Q:Option Int->Shared->Prop}(p:IsPart v o)(h:Q o s):wpAny #[8] A (Builtin.Slice.slicePartIndex v) Q E s:=by
 cases p with
 |none=>exact slicePart_none h
 |int i t=>exact slicePart_int h
theorem sliceApplied_gen{sl:Addr}{vl vu:Value}{lo hi:Option Int}{Q:Int×Int×Nat->Shared->Prop}(hs:s.heap.IsSliceOf sl vl vu .none)(pl:IsPart vl lo)(pu:IsPart vu hi)
  (h:Q (((sIx n 0 lo:Nat):Int),1,sIx n n hi-sIx n 0 lo) s):wpAny #[8] A (Builtin.Slice.sliceApplied (.ref sl) (pure (n:Int))) Q E s:=by
 obtain⟨os,hos,hcs,Ma⟩:=id hs
 unfold Builtin.Slice.sliceApplied Builtin.Slice.sliceFields
 refine af (af (dh hos Ma (x:=vl) rfl (af (dh hos Ma (x:=vu) rfl (af (dh hos Ma (x:=.none) rfl (ay ?_)))))))
 refine af (slicePart_none ?_)
 show wpAny _ _ (if ((1:Int)==0)=true then _ else _) _ _ s
 rw[aL #[12]]
 refine af (u4 pl (af (u4 pu (af (ay ?_)))))
 show wpAny _ _ (match Builtin.Slice.sliceAdjust lo hi 1 (n:Int)with|(lo,hi)=>pure (lo,(1:Int),Builtin.Slice.slicePlaces lo hi 1)) _ _ s
 rw[BV lo hi n]
 show wpAny _ _ (pure (((sIx n 0 lo:Nat):Int),(1:Int),Builtin.Slice.slicePlaces ((sIx n 0 lo:Nat):Int) ((sIx n n hi:Nat):Int) 1)) _ _ s
 rw[BW]
 exact ay h
theorem FJ(xs:Array Value)(i k:Nat):((List.range k).filterMap fun(m:Nat)=>xs[((i:Int)+(m:Int)*1).toNat]?).toArray=((xs.toList.drop i).take k).toArray:=by
 have e:(fun(m:Nat)=>xs[((i:Int)+(m:Int)*1).toNat]?)=fun m=>xs[i+m]?:=by
  funext m
  have:((i:Int)+(m:Int)*1).toNat=i+m:=by omega
  rw[this]
 rw[e]
 have:=pick_run xs i k
 rw[List.filterMap_map]at this
 have e2:((fun x=>xs[x]?)∘fun x=>i+x)=fun m=>xs[i+m]?:=rfl
 rw[e2]at this
 rw[this]
theorem getItem_tuple_cut{t sl:Addr}{items:Array Value}{vl vu:Value}{lo hi:Option Int}(ht:IsTup s.heap t items)(hs:s.heap.IsSliceOf sl vl vu .none)(pl:IsPart vl lo)(pu:IsPart vu hi)
  (hw:¬ (sIx items.size 0 lo=0/\sIx items.size items.size hi=items.size))
  (h:Q (.ref s.heap.objs.size) { s with heap:=s.heap.push { cls:=.type "tuple",data:=.seq ((items.toList.drop (sIx items.size 0 lo)).take (sIx items.size items.size hi-sIx items.size 0 lo)).toArray } })
  (hsz:items.size<=sizeLine):wpAny #[8] A (getItem (.ref t) (.ref sl)) Q E s:=by
 have htake:sizeOk (.seq ((items.toList.drop (sIx items.size 0 lo)).take (sIx items.size items.size hi-sIx items.size 0 lo)).toArray):=by
  show((items.toList.drop (sIx items.size 0 lo)).take (sIx items.size items.size hi-sIx items.size 0 lo)).toArray.size<=sizeLine
  rw[aV,aM,cx,eD]
  omega
 have hj:sIx items.size items.size hi<=items.size:=sIx_le _ _ (az _) hi
 obtain⟨os,hos,hcs,Ma⟩:=id hs
 have hTs:s.TypeIs (.ref sl) "slice":=⟨os,hos,hcs⟩
 unfold getItem
 try with_reducible refine dm ?_
 first|refine af (ay ?_)|skip
 refine af (wpAny_sequenceKey ht.typeIs #[12] ?_)
 refine af (bP (name:=Str.ofString "__getitem__") ht.typeIs eK
  (b8 eK ht.typeIs entry_tuple_getitem ?_ (args_tuple_getitem _ _)))
 show wpAny _ _ (Builtin.Tuple.tupleItemsOf (.ref t) >>= _) _ _ s
 refine af (tupleItemsOf_ ht ?_)
 refine af (iy hTs ?_)
 rw[aE #[12]]
 refine af (sliceApplied_gen hs pl pu ?_)
 have hno:¬ ((((sIx items.size 0 lo:Nat):Int)==0&&(1:Int)==1&&(sIx items.size items.size hi-sIx items.size 0 lo)==items.size)=true):=by
  intro q
  rw[dB,dB]at q
  have q1:((sIx items.size 0 lo:Nat):Int)=0:=mM q.1.1
  have q2:sIx items.size items.size hi-sIx items.size 0 lo=items.size:=mM q.2
  exact hw ⟨by omega,by omega⟩
 show wpAny _ _ (if (((sIx items.size 0 lo:Nat):Int)==0&&(1:Int)==1&&(sIx items.size items.size hi-sIx items.size 0 lo)==items.size)=true then _ else _) _ _ s
 rw[aL hno,FJ]
 first
  |exact af (m:=Builtin.Tuple.tupleExact _) (cz (ay ⟨_,rfl,ay h⟩) htake)
  |exact af (m:=Builtin.Tuple.tupleExact _) (cz (af (ay (ay ⟨_,rfl,ay h⟩))) htake)
  |exact af (af (m:=Builtin.Tuple.tupleExact _) (cz (ay (ay ⟨_,rfl,ay h⟩)) htake))
  |exact af (af (m:=Builtin.Tuple.tupleExact _) (cz (ay ⟨_,rfl,ay h⟩) htake))
end
end HT
namespace L2
open PySem PySem.Spec PyProof.Rows
abbrev TO:=St->Hp->(Option Int->Hp->Prop)->Prop
def PO(X:Cx)(e:Option Expr)(t:TO):Prop:=
 ∀(aj:List (Addr×Obj)) (s:Shared) (σ:St) (H:Hp) (Q:Option Int->Hp->Prop),bT X aj σ H s->t σ H Q ->
  wpAny #[3] X.A (evalPart e X.env) (fun u s'=>∃o H',bT X aj σ H' s'/\IsPart u o/\Q o H') X.xe s
def JG:TO:=fun _ H Q=>Q none H
def P9(t:TE):TO:=fun σ H Q=>t σ H fun x H1=>∃i,x=.int i/\Q (some i) H1
section
variable{lo hi:Option Expr}{tl th:TO}
theorem JH:PO X none JG:=by
 intro aj s σ H Q I h
 rw[evalPart_none]
 exact ay ⟨none,H,I,.none,h⟩
theorem JI(h:PE X e te):PO X (some e) (P9 te):=by
 intro aj s σ H Q I hw
 rw[evalPart_some]
 refine jC (h aj s σ H _ I hw) fun u s1 kt1 zq=>?_
 obtain⟨x,H1,I1,r1,q1⟩:=zq
 obtain⟨i,rfl,q⟩:=q1
 obtain⟨t,rfl⟩:=r1
 exact⟨some i,H1,I1,.int i t,q⟩
def P_(X:Cx)(r:V->Option Int->Option Int->Hp->VK->Prop):Prop:=
 ∀(aj:List (Addr×Obj)) (s:Shared) (σ:St) (H:Hp) (x:V) (v vl vu:Value) (lo hi:Option Int) (sl:Addr) (Q:VK),bT X aj σ H s->cS s.toks x v->s.heap.IsSliceOf sl vl vu .none->IsPart vl lo->IsPart vu hi->r x lo hi H Q ->
  ∃T id,typeLookup (.type T) "__getitem__"=pure (some (.builtin id))/\s.TypeIs v T/\wpAny #[3] X.A (getItem v (.ref sl)) (EP X aj σ Q) X.xe s
def UR(r:V->Option Int->Option Int->Hp->VK->Prop)(te:TE)(tl th:TO):TE:=fun σ H Q=>te σ H fun x H1=>tl σ H1 fun l H2=>th σ H2 fun u H3=>r x l u H3 Q
theorem FK{r:V->Option Int->Option Int->Hp->VK->Prop}(hr:P_ X r)(he:PE X e te)(hl:PO X lo tl)(hu:PO X hi th):PE X (.Subscript e (.Slice lo hi none p2) pos) (UR r te tl th):=by
 intro aj s σ H Q I h
 refine Subscript_ (jC (he aj s σ H _ I h) fun v s1 kt1 zq=>?_)
 obtain⟨x,H1,I1,r1,q1⟩:=zq
 refine wpAny_Slice (jC (hl aj s1 σ H1 _ I1 q1) fun vl s2 kt2 ⟨l,H2,I2,pl,q2⟩=>jC (hu aj s2 σ H2 _ I2 q2) fun vu s3 kt3 zq=>?_)
 obtain⟨u,H3,I3,pu,q3⟩:=zq
 rw[evalPart_none]
 refine ay ?_
 have I4:bT X aj σ H3 { s3 with heap:=s3.heap.push { cls:=.type "slice",data:=.fields #[vl,vu,.none] } }:=I3.kept (t':=s3.toks) fun b ob q=>av _ q
 obtain⟨T,id,hT,ht,hg⟩:=hr aj { s3 with heap:=s3.heap.push { cls:=.type "slice",data:=.fields #[vl,vu,.none] } } σ H3 x v vl vu l u s3.heap.objs.size Q I4 (r1.up (aN kt2 kt3)) (Heap.IsSliceOf.new ..) pl pu q3
 show wpAny #[3] X.A (subscriptTail e (.Slice lo hi none p2) v (.ref s3.heap.objs.size)) (EP X aj σ Q) X.xe { s3 with heap:=s3.heap.push { cls:=.type "slice",data:=.fields #[vl,vu,.none] } }
 exact tail_any (ops:=[.ref s3.heap.objs.size,v]) ht hT hg (by with_unfolding_all rfl)
noncomputable def u5(xs:List V)(lo hi:Option Int):List V:=(xs.drop (HT.sIx xs.length 0 lo)).take (HT.sIx xs.length xs.length hi-HT.sIx xs.length 0 lo)
theorem tW(xs:List V)(lo hi:Option Int):(u5 xs lo hi).length<=xs.length:=by
 unfold u5
 rw[aM,cx]
 omega
def Tr(K:Frag):V->Option Int->Option Int->Hp->VK->Prop:=fun x lo hi H Q=>∃a xs,x=.ref a/\f_ K H a xs /\
 ¬ (HT.sIx xs.length 0 lo=0/\HT.sIx xs.length xs.length hi=xs.length)/\∀p,H p=none->Q (.ref p) (fW H p (.tup (u5 xs lo hi)))
theorem MW:P_ X (Tr X.K):=by
 intro aj s σ H x v vl vu lo hi sl Q I rx hs pl pu h
 obtain⟨a,xs,rfl,hx,hw,q⟩:=h
 cases rx
 obtain⟨bI,r,ht,hz⟩:=I.tuple hx
 have fX:bI.toArray.size=xs.length:=by rw[aV];exact r.length.symm
 refine⟨"tuple",_,eK.lookup,ht.typeIs,?_⟩
 refine HT.getItem_tuple_cut ht hs pl pu (by rw[fX];exact hw) ?_ (by rw[fX];exact hz)
 rw[fX]
 refine⟨.ref s.heap.objs.size,_,I.laid (t':=s.toks) (o:=.tup (u5 xs lo hi)) (fun b ob q=>av _ q) (az _) ?_,rfl,q _ (I.hok.fresh (az _))⟩
 exact⟨aN (tW xs lo hi) hz,_,(r.drop (HT.sIx xs.length 0 lo)).take (HT.sIx xs.length xs.length hi-HT.sIx xs.length 0 lo),IsTup.new _ _⟩
def P'(K:Frag):R2:=fun x y H Q=>∃a b xs ys,x=.ref a/\y=.ref b/\f_ K H a xs/\f_ K H b ys/\xs≠[]/\xs.length+ys.length<=sizeLine /\
 (ys=[]->Q (.ref a) H)/\(ys≠[]->∀p,H p=none->Q (.ref p) (fW H p (.tup (xs++ys))))
theorem cL.nil_iff{xs:List V}(r:cL nk xs us):us=[]↔xs=[]:=by
 cases r with
 |nil=>simp
 |cons _ _=>simp
theorem JJ:oo X (binaryOp .Add) (P' X.K):=by
 intro aj s σ H x y v u Q I rx ry h
 obtain⟨a,b,xs,ys,rfl,rfl,ha,hb,hx,hz,q1,q2⟩:=h
 cases rx
 cases ry
 obtain⟨bI,r1,p1,_⟩:=I.tuple ha
 obtain⟨its2,r2,p2,_⟩:=I.tuple hb
 refine HT.cat_tup p1 p2 (fun z=>hx (r1.nil_iff.mp z)) (fun z=>⟨.ref a,H,I,rfl,q1 (r2.nil_iff.mp z)⟩) (fun z=>?_) (by rw[<- r1.length,<- r2.length];exact hz)
 refine⟨.ref s.heap.objs.size,_,I.laid (t':=s.toks) (o:=.tup (xs++ys)) (fun b ob q=>av _ q) (az _) ?_,rfl,q2 (fun w=>z (r2.nil_iff.mpr w)) _ (I.hok.fresh (az _))⟩
 exact⟨by rw[ah];exact hz,_,r1.append r2,IsTup.new _ _⟩
theorem zZ:i' X (.type "tuple") (fun xs H Q=>∃a ys,xs=[.ref a]/\f_ X.K H a ys/\Q (.ref a) H):=by
 intro aj s σ H xs us Q I r h
 obtain⟨a,ys,rfl,ha,q⟩:=h
 obtain⟨u,rfl,ru⟩:=oq r
 cases ru
 obtain⟨bI,_,p1,_⟩:=I.tuple ha
 exact call_tuple_same (items:=bI.toArray) p1 ⟨.ref a,H,I,rfl,q⟩
end
end L2
namespace L2
open PySem PySem.Spec PyProof.Rows
noncomputable def De(n:Nat)(i:Int):Option Nat:=if 0<=i then(if i<n then some i.toNat else none)else if -(n:Int)<=i then some (i+n).toNat else none
def sK(xs:List α)(i:Int):Option α:=(De xs.length i).bind fun j=>xs[j]?
theorem Df{i:Int}(h:De n i=some j):seqIndex? i n=some j/\j<n/\-(n:Int)<=i/\i<n:=by
 unfold De at h
 by_cases h0:0<=i
 ·rw[aE h0]at h
  by_cases h1:i<n
  ·rw[aE h1]at h
   have e:i.toNat=j:=bq h
   exact⟨by rw[seqIndex_of h0 h1,e],by omega,by omega,h1⟩
  ·rw[aL h1]at h;cases h
 ·rw[aL h0]at h
  by_cases h1:-(n:Int)<=i
  ·rw[aE h1]at h
   have e:(i+n).toNat=j:=bq h
   exact⟨by rw[sw #[0] h1,e],by omega,h1,by omega⟩
  ·rw[aL h1]at h;cases h
theorem yt{xs:List α}{i:Int}{v:α}(h:sK xs i=some v):∃j,seqIndex? i xs.length=some j/\xs[j]?=some v/\j<xs.length/\-(xs.length:Int)<=i/\i<xs.length:=by
 unfold sK at h
 cases e:De xs.length i with
 |none=>rw[e]at h;cases h
 |some j=>
  rw[e]at h
  obtain⟨h1,h2,h3,h4⟩:=Df e
  exact⟨j,h1,h,h2,h3,h4⟩
def Dg(b:Expr):Prop:=∀o i,subscripted b false o i=operate [o,i] (getItem o i)
def Je(X:Cx)(r:R2):Prop:=
 ∀(value slice:Expr) (aj:List (Addr×Obj)) (s:Shared) (σ:St) (H:Hp) (x y:V) (v u:Value) (Q:VK),bT X aj σ H s->cS s.toks x v->cS s.toks y u->r x y H Q ->
  subscripted slice false v u=operate [v,u] (getItem v u)->wpAny #[3] X.A (subscriptTail value slice v u) (EP X aj σ Q) X.xe s
def Em(X:Cx)(id:String)(r:V->List V->Hp->VK->Prop):Prop:=
 ∀(aj:List (Addr×Obj)) (s:Shared) (σ:St) (H:Hp) (x:V) (xs:List V) (v:Value) (us:List Value) (Q:VK),bT X aj σ H s->cS s.toks x v->cL s.toks xs us->r x xs H Q ->
  wpAny #[3] X.A (call (.builtin id) (v::us)) (EP X aj σ Q) X.xe s
section
variable{a b:Expr}{ta tb:TE}
theorem Je.or{r r':R2}(h:Je X r)(h':Je X r'):Je X (fun x y H Q=>r x y H Q\/r' x y H Q):=by
 intro value slice aj s σ H x y v u Q I rx ry q hs
 rcases q with q|q
 ·exact h value slice aj s σ H x y v u Q I rx ry q hs
 ·exact h' value slice aj s σ H x y v u Q I rx ry q hs
theorem Qa{r:R2}(hr:Je X r)(ha:PE X a ta)(hb:PE X b tb)(hs:Dg b):PE X (.Subscript a b pos) (PZ r ta tb):=by
 intro aj s σ H Q I h
 exact Subscript_ (ME ha hb I h fun v u s2 x y H2 I2 rx ry q=>hr a b aj s2 σ H2 x y v u Q I2 rx ry q (hs _ _))
def Qb(K:Frag):R2:=fun x y H Q=>∃p xs i v,x=.ref p/\y=.int i/\sF K H p xs/\sK xs i=some v/\Q v H
def Qc(K:Frag):R2:=fun x y H Q=>∃p xs i v,x=.ref p/\y=.int i/\f_ K H p xs/\sK xs i=some v/\Q v H
def Qd:R2:=fun x y H Q=>∃z i c,x=.str z/\y=.int i/\z.length<=sizeLine/\sK z.cps.toList i=some c/\Q (.str ⟨#[c]⟩) H
theorem JK:Je X (Qb X.K):=by
 intro value slice aj s σ H x y v u Q I rx ry h hs
 obtain⟨p,xs,i,z,rfl,rfl,hq,he,q⟩:=h
 cases rx
 obtain⟨t,rfl⟩:=ry
 obtain⟨bI,r,pl,hz⟩:=I.list hq
 obtain⟨j,h1,h2,h3,h4,h5⟩:=yt he
 obtain⟨w,ew,om⟩:=r.get h2
 have hl:=r.length
 have hn:=sI
 have kJ:EP X aj σ Q w s:=⟨z,H,I,om,q⟩
 by_cases h0:0<=i
 ·have hj:i.toNat=j:=by
   rw[seqIndex_of h0 h5]at h1
   exact bq h1
  exact item_listR pl.isList h0 #[0] (by rw[hj];simpa using ew) kJ hs
 ·have hj:(i+(bI.toArray.size:Int)).toNat=j:=by
   rw[sw #[0] h4]at h1
   rw[aV,<- hl]
   exact bq h1
  exact nq (x:=w) pl.isList.typeIs slot_list_getitem.lookup
   (wpAny_getItem_list_neg (Q:=fun r s'=>r=w/\EP X aj σ Q r s') pl.isList #[0] (by rw[aV]<;>omega) #[0] (by rw[hj];simpa using ew) ⟨rfl,kJ⟩) hs
theorem MX:Je X (Qc X.K):=by
 intro value slice aj s σ H x y v u Q I rx ry h hs
 obtain⟨p,xs,i,z,rfl,rfl,hq,he,q⟩:=h
 cases rx
 obtain⟨t,rfl⟩:=ry
 obtain⟨bI,r,pl,hz⟩:=I.tuple hq
 obtain⟨j,h1,h2,h3,h4,h5⟩:=yt he
 obtain⟨w,ew,om⟩:=r.get h2
 have hl:=r.length
 have hn:=sI
 have kJ:EP X aj σ Q w s:=⟨z,H,I,om,q⟩
 exact nq (x:=w) pl.typeIs slot_tuple_getitem.lookup
  (getItem_tuple (j:=j) (Q:=fun r s'=>r=w/\EP X aj σ Q r s') pl #[0] #[0] (by rw[aV,<- hl];exact h1) (by simpa using ew) ⟨rfl,kJ⟩) hs
theorem MY:Je X Qd:=by
 intro value slice aj s σ H x y v u Q I rx ry h hs
 obtain⟨z,i,c,rfl,rfl,hz,he,q⟩:=h
 obtain⟨t,rfl⟩:=rx
 obtain⟨t',rfl⟩:=ry
 obtain⟨j,h1,h2,h3,h4,h5⟩:=yt he
 have hl:z.cps.toList.length=z.length:=by simp[Str.length]
 rw[hl]at h1 h4 h5
 have hn:=sI
 exact tail_any (ly s z t) slot_str_getitem.lookup (getItem_str (c:=c) (by
  have e1:decide (i < -(2^63:Int))=false:=aW #[0]
  have e2:decide (i≥2^63)=false:=aW #[0]
  rw[e1,e2,mq]) (by rw[h1];simpa using h2) ⟨.str ⟨#[c]⟩,H,I.tok _,I.tkS,q⟩) hs
def US(K:Frag):R2:=fun x y H Q=>Qb K x y H Q\/Qc K x y H Q\/Qd x y H Q
theorem MZ:Je X (US X.K):=JK.or (MX.or MY)
theorem BX(bI:List Value)(n j:Nat)(u:Value):Obj.mapSeq (·.setIfInBounds j u) { cls:=.type "list",data:=.seq bI.toArray n }={ cls:=.type "list",data:=.seq (bI.set j u).toArray n }:=by
 simp[Obj.mapSeq]
theorem bT.lst{p:Addr}{xs:List V}(I:bT X aj σ H s)(h:H p=some (.lst xs)) :
  ∃(bI:List Value) (n:Nat),cL s.toks xs bI/\s.heap.get? p=some { cls:=.type "list",data:=.seq bI.toArray n }/\xs.length<=sizeLine:=by
 obtain⟨z,bI,n,r,e⟩:=I.hok p _ h
 exact⟨bI,n,r,e,z⟩
theorem bT.lstUpd{p:Addr}{xs ys:List V}{its':List Value}{f:Obj->Obj}(I:bT X aj σ H s)(h:H p=some (.lst xs))
  (ho:s.heap.get? p=some { cls:=.type "list",data:=.seq bI.toArray n }) (hf:f { cls:=.type "list",data:=.seq bI.toArray n }={ cls:=.type "list",data:=.seq its'.toArray n' }) (r:cL s.toks ys its') (hz:ys.length<=sizeLine) (t:Nat) (hk:s.toks<=t:=by first|exact az _|exact bp _|assumption|omega) :
  bT X aj σ (fW H p (.lst ys)) { s with heap:=s.heap.update p f,toks:=t }:=by
 have e:(s.heap.update p f).get? p=some { cls:=.type "list",data:=.seq its'.toArray n' }:=by
  rw[dH f ho (by rw[hf]<;>rfl),hf]
 refine I.write (x:=p) (e:=p) (by rw[h];trivial) (.inl rfl) (fun b u hb q=>(cK _ _ (Ne.symm hb)).trans q) ⟨_,e⟩ ?_
 exact⟨hz,its',n',r.up hk,e⟩
def Qe:V->V->V->Hp->(Hp->Prop)->Prop:=fun o i v H Q=>∃p xs k j,o=.ref p/\i=.int k/\H p=some (.lst xs)/\De xs.length k=some j/\Q (fW H p (.lst (xs.set j v)))
theorem FL:Ea X Qe:=by
 intro aj s σ H o i v ov iv u Q I ro ri rv h
 obtain⟨p,xs,k,j,rfl,rfl,hp,hj,q⟩:=h
 cases ro
 obtain⟨t,rfl⟩:=ri
 obtain⟨bI,n,r,ho,hz⟩:=I.lst hp
 obtain⟨h1,h2,h3,h4⟩:=Df hj
 have hl:=r.length
 have hn:=sI
 have I':bT X aj σ (fW H p (.lst (xs.set j v))) { s with heap:=s.heap.update p (Obj.mapSeq (·.setIfInBounds j u)) }:=
  I.lstUpd hp ho (BX bI n j u) (r.set rv j) (by rw[nT];exact hz) s.toks
 by_cases h0:0<=k
 ·have hk:k.toNat=j:=by
   rw[seqIndex_of h0 h4]at h1
   exact bq h1
  exact PySem.W.ki_setAt ho h0 #[0] (by rw[aV,<- hl];exact h4) (by rw[hk];exact⟨_,I',q⟩)
 ·have hk:(k+(bI.toArray.size:Int)).toNat=j:=by
   rw[sw #[0] h3]at h1
   rw[aV,<- hl]
   exact bq h1
  exact PySem.W.ki_setBack ho #[0] (by rw[aV,<- hl];exact h3) #[0] (by rw[hk];exact⟨_,I',q⟩)
theorem yu(lo hi:Option Int)(n:Nat):(sliceBounds lo hi none n).1=((HT.sIx n 0 lo:Nat):Int)/\(sliceBounds lo hi none n).2.1=((HT.sIx n n hi:Nat):Int)/\(sliceBounds lo hi none n).2.2=1:=by
 refine⟨?_,?_,rfl⟩
 ·cases lo with
  |none=>simp[sliceBounds,HT.sIx]
  |some i=>
   simp only[sliceBounds,HT.sIx,Option.getD_none,show(1:Int)>0 by decide,f6]
   by_cases h:i<0
   ·simp only[h,f6]<;>omega
   ·simp only[h,j_]<;>omega
 ·cases hi with
  |none=>simp[sliceBounds,HT.sIx]
  |some i=>
   simp only[sliceBounds,HT.sIx,Option.getD_none,show(1:Int)>0 by decide,f6]
   by_cases h:i<0
   ·simp only[h,f6]<;>omega
   ·simp only[h,j_]<;>omega
theorem wG(bI:List Value)(lo hi:Option Int):slicePick bI.toArray lo hi none=((bI.drop (HT.sIx bI.length 0 lo)).take (HT.sIx bI.length bI.length hi-HT.sIx bI.length 0 lo)).toArray:=by
 obtain⟨h1,h2,h3⟩:=yu lo hi bI.toArray.size
 unfold slicePick
 rw[h1,h2,h3]
 simp only[sliceRange_one,pick_run,aV]<;>rfl
def Ts(K:Frag):V->Option Int->Option Int->Hp->VK->Prop:=fun x lo hi H Q=>∃a xs,x=.ref a/\sF K H a xs/\∀p,H p=none->Q (.ref p) (fW H p (.lst (u5 xs lo hi)))
theorem JL:P_ X (Ts X.K):=by
 intro aj s σ H x v vl vu lo hi sl Q I rx hs pl pu h
 obtain⟨a,xs,rfl,hx,q⟩:=h
 cases rx
 obtain⟨bI,r,ht,hz⟩:=I.list hx
 have fX:=r.length
 refine⟨"list",_,slot_list_getitem.lookup,ht.isList.typeIs,?_⟩
 refine wpAny_getItem_list_slice ht.isList hs pl pu .none #[15] ?_ (by rw[aV]<;>omega)
 rw[wG,<- fX]
 refine⟨.ref s.heap.objs.size,_,I.laid (t':=s.toks) (o:=.lst (u5 xs lo hi)) (fun b ob q=>av _ q) (az _) ?_,rfl,q _ (I.hok.fresh (az _))⟩
 exact⟨aN (tW xs lo hi) hz,_,0,(r.drop (HT.sIx xs.length 0 lo)).take (HT.sIx xs.length xs.length hi-HT.sIx xs.length 0 lo),aC _ rfl⟩
theorem qY:i' X (.builtin "len") (fun xs H Q=>∃p ys,xs=[.ref p]/\(sF X.K H p ys\/f_ X.K H p ys)/\Q (.int ys.length) H):=by
 intro aj s σ H xs us Q I r h
 obtain⟨p,ys,rfl,hq,q⟩:=h
 obtain⟨u,rfl,rx⟩:=oq r
 cases rx
 have hn:=sI
 rcases hq with hq|hq
 ·obtain⟨bI,r',pl,hz⟩:=I.list hq
  have fX:=r'.length
  exact Calls.call_len_list pl.isList (by simp only[aV]<;>omega) ⟨.int ys.length,H,I.tok _,⟨s.toks+1,by rw[aV,fX]⟩,q⟩
 ·obtain⟨bI,r',pl,hz⟩:=I.tuple hq
  have fX:=r'.length
  exact len_tuple pl (by simp only[aV]<;>omega) ⟨.int ys.length,H,I.tok _,⟨s.toks+1,by rw[aV,fX]⟩,q⟩
theorem yw:i' X (.builtin "len") (fun xs H Q=>∃z,xs=[.str z]/\z.length<=sizeLine/\Q (.int z.length) H):=by
 intro aj s σ H xs us Q I r h
 obtain⟨z,rfl,hz,q⟩:=h
 obtain⟨u,rfl,t,rfl⟩:=oq r
 have hn:=sI
 exact len_str #[0] ⟨.int z.length,H,I.tok _,⟨_,rfl⟩,q⟩
theorem yx:i' X (.type "list") (fun xs H Q=>∃p ys,xs=[.ref p]/\(sF X.K H p ys\/f_ X.K H p ys)/\∀l,H l=none->Q (.ref l) (fW H l (.lst ys))):=by
 intro aj s σ H xs us Q I r h
 obtain⟨p,ys,rfl,hq,q⟩:=h
 obtain⟨u,rfl,rx⟩:=oq r
 cases rx
 have kJ:∀(bI:List Value),cL _ ys bI->ys.length<=sizeLine->∀(h':Heap) (c':Nat),(∀b o',s.heap.get? b=some o'->h'.get? b=some o') ->
   h'.get? s.heap.objs.size=some { cls:=.type "list",dict:=none,data:=.seq bI.toArray c',slots:=#[] }->EP X aj σ Q (.ref s.heap.objs.size) { s with heap:=h' }:=fun bI r' hz h' c' kp e=>
  ⟨.ref s.heap.objs.size,_,I.laid (t':=s.toks) kp (az _) (show fq X.prog X.w _ _ h' _ (.lst ys)from⟨hz,bI,c',r',e⟩),rfl,q _ (I.hok.fresh (az _))⟩
 rcases hq with hq|hq
 ·obtain⟨bI,r',pl,hz⟩:=I.list hq
  have fX:=r'.length
  obtain⟨o,ho,hc,n,hd⟩:=pl.isList
  exact call_list_seq p (.inl rfl) ho hc hd (fun h' c' kp e=>kJ bI r' hz h' c' kp e) (by simp only[aV]<;>omega)
 ·obtain⟨bI,r',pl,hz⟩:=I.tuple hq
  have fX:=r'.length
  obtain⟨o,ho,hc,n,hd⟩:=pl
  exact call_list_seq p (.inr rfl) ho hc hd (fun h' c' kp e=>kJ bI r' hz h' c' kp e) (by simp only[aV]<;>omega)
theorem wH:i' X (.type "tuple") (fun xs H Q=>∃p ys,xs=[.ref p]/\((sF X.K H p ys/\∀l,H l=none->Q (.ref l) (fW H l (.tup ys)))\/(f_ X.K H p ys/\Q (.ref p) H))):=by
 intro aj s σ H xs us Q I r h
 obtain⟨p,ys,rfl,h⟩:=h
 obtain⟨u,rfl,rx⟩:=oq r
 cases rx
 rcases h with⟨hq,q⟩|⟨hq,q⟩
 ·obtain⟨bI,r',pl,hz⟩:=I.list hq
  have fX:=r'.length
  refine call_tuple_list pl.isList (fun h' kp=>?_) (by simp only[aV]<;>omega)
  have I1:bT X aj σ H { s with heap:=h' }:=I.kept (t':=s.toks) kp
  have I2:bT X aj σ (fW H h'.objs.size (.tup ys)) { s with heap:=h'.push { cls:=.type "tuple",data:=.seq bI.toArray } }:=
   I1.laid (t':=s.toks) (fun b o e=>av _ e) (az _) (show fq X.prog X.w _ _ _ _ (.tup ys)from⟨hz,bI,r',IsTup.new _ _⟩)
  exact⟨.ref h'.objs.size,_,I2,rfl,q _ (I1.hok.fresh (az _))⟩
 ·obtain⟨bI,r',pl,hz⟩:=I.tuple hq
  exact call_tuple_same pl ⟨.ref p,H,I,rfl,q⟩
def Sq(K:Frag)(T:String)(x:V)(H:Hp):Prop:=match x with
 |.str _=>T="str"
 |.int _=>T="int"
 |.ref p=>(T="list"/\∃xs,sF K H p xs)\/(T="tuple"/\∃o,K.lookup p=some o/\o.cls=.type "tuple"/\o.dict=none) \/
   (T="dict"/\((∃kvs,H p=some (.dK kvs))\/∃kvs,H p=some (.dT kvs)))\/(T="set"/\∃S n,H p=some (.set S n))
 |_=>False
theorem BY{x:V}(I:bT X aj σ H s)(r:cS s.toks x v)(ty:Sq X.K T x H) :
  s.TypeIs v T/\∀a,v=.ref a->∃ob,s.heap.get? a=some ob/\ob.dict=none:=by
 cases x with
 |str z=>
  obtain⟨t,rfl⟩:=r
  cases(show T="str" from ty)
  exact⟨ly s z t,fun _ e=>nomatch e⟩
 |int i=>
  obtain⟨t,rfl⟩:=r
  cases(show T="int" from ty)
  exact⟨typeIs_int s i t,fun _ e=>nomatch e⟩
 |ref p=>
  cases r
  rcases ty with⟨rfl,xs,hq⟩|⟨rfl,o,hk,hc,hd⟩|⟨rfl,hk⟩|⟨rfl,S,n,hk⟩
  ·obtain⟨bI,_,pl,_⟩:=I.list hq
   refine⟨pl.isList.typeIs,fun a e=>?_⟩
   cases e
   obtain⟨o,n,e,c,hd,_⟩:=pl
   exact⟨o,e,hd⟩
  ·refine⟨⟨o,I.kIn p o hk,hc⟩,fun a e=>?_⟩
   cases e
   exact⟨o,I.kIn _ o hk,hd⟩
  ·have z:∃o,s.heap.get? p=some o/\o.ExactDict:=by
    rcases hk with⟨kvs,hk⟩|⟨kvs,hk⟩
    ·obtain⟨_,_,_,_,o,_,_,e,ex,_⟩:=I.hok p _ hk
     exact⟨o,e,ex⟩
    ·obtain⟨_,_,_,_,o,_,_,e,ex,_⟩:=I.hok p _ hk
     exact⟨o,e,ex⟩
   obtain⟨o,e,ex⟩:=z
   refine⟨⟨o,e,ex.1⟩,fun a e2=>?_⟩
   cases e2
   exact⟨o,e,ex.2.1⟩
  ·obtain⟨o,_,_,_,e,ex,_⟩:=I.hok p _ hk
   refine⟨⟨o,e,ex.1⟩,fun a e2=>?_⟩
   cases e2
   exact⟨o,e,ex.2.1⟩
 |_=>exact False.elim ty
variable{to:TE}{t:TA}{id:String}{r:V->List V->Hp->VK->Prop}
end
end L2
namespace L2
open PySem PySem.Spec PyProof.Rows
def Uo(X:Cx)(id:String)(r:V->List V->Hp->VK->Prop):Prop:=
 ∀(aj:List (Addr×Obj)) (s:Shared) (σ:St) (H:Hp) (x:V) (xs:List V) (v:Value) (us:List Value) (Q:VK),bT X aj σ H s->cS s.toks x v->cL s.toks xs us->r x xs H Q ->
  wpAny #[3] X.A (call (.builtin id) (v::us)) (EP X aj σ Q) X.xe s
theorem cL.one{x:V}(h:cL nk [x] us):∃u,us=[u]/\cS nk x u:=by cases h with|cons r t=>cases t;exact⟨_,rfl,r⟩
theorem cL.two{x:V}(h:cL nk [x,y] us):∃u v,us=[u,v]/\cS nk x u/\cS nk y v:=by cases h with|cons r t=>obtain⟨v,rfl,q⟩:=cL.one t;exact⟨_,v,rfl,r,q⟩
theorem cL.zero:∀{us:List Value},cL nk [] us->us=[]
 |_,.nil=>rfl
theorem cL.dropLast{xs:List V}(h:cL nk xs us):cL nk xs.dropLast us.dropLast:=by
 induction h with
 |nil=>exact .nil
 |cons r t ih=>
  cases t with
  |nil=>exact .nil
  |cons q t'=>exact .cons r ih
theorem BZ(l:List α):l.eraseIdx (l.length-1)=l.dropLast:=by
 induction l with
 |nil=>rfl
 |cons a r ih=>
  cases r with
  |nil=>rfl
  |cons b r=>
   have e:(a::b::r).length-1=((b::r).length-1)+1:=by
    have h1:(a::b::r).length=r.length+2:=rfl
    have h2:(b::r).length=r.length+1:=rfl
    omega
   rw[e,List.eraseIdx_cons_succ,ih]
   all_goals rfl
section
variable{l b:Addr}{xs ys zs:List V}
theorem bT.lset{its':List Value}{f:Array Value->Array Value}(I:bT X aj σ H s)(hH:H l=some (.lst xs))
  (e:s.heap.get? l=some { cls:=.type "list",data:=.seq bI.toArray n }) (hf:f bI.toArray=its'.toArray) (hv:cL t' ys its') (hz:ys.length<=sizeLine) (hk:s.toks<=t':=by first|exact az _|exact bp _|assumption|omega) :
  bT X aj σ (fW H l (.lst ys)) { s with heap:=s.heap.update l (Obj.mapSeq f),toks:=t' }:=by
 have q:=PySem.IsL.update e f
 rw[hf]at q
 refine I.write (x:=l) (e:=l) (by rw[hH];exact trivial) (.inl rfl) (fun b' u hb hu=>(cK s.heap (Obj.mapSeq f) (Ne.symm hb)).trans hu) ⟨_,q⟩ ?_
 exact⟨hz,its',_,hv,q⟩
theorem bT.lnew{t':Nat}(I:bT X aj σ H s)(hv:cL t' ys bI)(hz:ys.length<=sizeLine)(hk:s.toks<=t':=by first|exact az _|exact bp _|assumption|omega) :
  bT X aj σ (fW H s.heap.objs.size (.lst ys)) { s with heap:=s.heap.push { cls:=.type "list",data:=.seq bI.toArray },toks:=t' }:=
 I.laid (fun _ _ q=>av _ q) (az _) ⟨hz,bI,0,hv,aC _ rfl⟩
theorem bT.fresh(I:bT X aj σ H s):H s.heap.objs.size=none:=I.hok.fresh (az _)
theorem bT.lstM(I:bT X aj σ H s)(hH:H l=some (.lst xs)):xs.length<=sizeLine/\∃(bI:List Value) (n:Nat),cL s.toks xs bI/\xs.length=bI.length/\s.heap.get? l=some { cls:=.type "list",data:=.seq bI.toArray n }:=by
 obtain⟨z,bI,n,r,e⟩:=I.hok l _ hH
 exact⟨z,bI,n,r,r.length,e⟩
end
section
def Dh:V->List V->Hp->VK->Prop:=fun x vs H Q=>∃l xs y,x=.ref l/\vs=[y]/\H l=some (.lst xs)/\xs.length<sizeLine/\Q .non (fW H l (.lst (xs++[y])))
theorem En:Uo X "list.append" Dh:=by
 intro aj s σ H x vs v us Q I rx rv h
 obtain⟨l,xs,y,rfl,rfl,hH,hz,q⟩:=h
 cases rx
 obtain⟨u,rfl,ru⟩:=rv.one
 obtain⟨z,bI,n,r,hl,e⟩:=I.lstM hH
 refine qW F.slot_list_append ⟨_,e,rfl⟩ F.entry_list_append (F.args_list_append_2 _ _) (PySem.list_append l bI.toArray n u (by rw[aV];omega)) ⟨e,?_⟩
 refine⟨.non,_,I.lset (its':=bI++[u]) hH e #[15] (r.append (.cons ru .nil)) ?_,rfl,q⟩
 rw[ah,cf]
 omega
def Qf:V->List V->Hp->VK->Prop:=fun x vs H Q=>∃l xs y,x=.ref l/\vs=[]/\H l=some (.lst xs)/\xs[xs.length-1]?=some y/\Q y (fW H l (.lst xs.dropLast))
theorem M0:Uo X "list.pop" Qf:=by
 intro aj s σ H x vs v us Q I rx rv h
 obtain⟨l,xs,y,rfl,rfl,hH,hy,q⟩:=h
 cases rx
 have hus:=rv.zero
 subst hus
 obtain⟨z,bI,n,r,hl,e⟩:=I.lstM hH
 obtain⟨u,hu,ru⟩:=r.get hy
 have hy':bI.toArray[bI.toArray.size-1]?=some u:=by
  show bI.toArray[bI.length-1]?=some u
  rw[<- fN,<- hl]
  exact hu
 refine qW F.slot_list_pop ⟨_,e,rfl⟩ F.entry_list_pop (F.args_list_pop_1 _) (MeetsSeq.list_pop_last l bI.toArray n u hy' (by rw[aV];omega)) ⟨e,?_⟩
 refine⟨y,_,I.lset (its':=bI.dropLast) hH e ?_ r.dropLast ?_,ru,q⟩
 ·show bI.toArray.eraseIdxIfInBounds (bI.toArray.size-1)=bI.dropLast.toArray
  rw[aV,List.eraseIdxIfInBounds_toArray,BZ]
 ·rw[List.length_dropLast]
  omega
def Tt:R2:=fun x y H Q=>∃l b xs zs,x=.ref l/\y=.ref b/\H l=some (.lst xs)/\H b=some (.lst zs)/\xs.length+zs.length<=sizeLine/\∀p,H p=none->Q (.ref p) (fW H p (.lst (xs++zs)))
theorem M2:oo X (binaryOp .Add) Tt:=by
 intro aj s σ H x y v u Q I rx ry h
 obtain⟨l,b,xs,zs,rfl,rfl,hH,hB,hz,q⟩:=h
 cases rx
 cases ry
 obtain⟨z,bI,n,r,hl,e⟩:=I.lstM hH
 obtain⟨z2,its2,n2,r2,hl2,e2⟩:=I.lstM hB
 refine PySem.P.add_list e e2 ?_ (by rw[aV,aV];omega)
 have ea:bI.toArray++its2.toArray=(bI++its2).toArray:=by simp
 rw[ea]
 exact⟨.ref _,_,I.lnew (t':=s.toks) (r.append r2) (by rw[ah];omega),rfl,q _ I.fresh⟩
end
section
variable{w:World}
end
section
end
end L2
namespace Att
open PySem PySem.W PySem.Calls PyProof.Rows
theorem uo{P:Params}:∀(ns:List Int) (vs:List Value),WellAll P h vs (ns.map WData.int)->IntsAre vs ns:=by
 intro ns
 induction ns with
 |nil=>
  intro vs w
  rw[sy]at w
  cases w
  exact .nil
 |cons n ns ih=>
  intro vs w
  rw[aU]at w
  cases w with
  |cons a b=>
   cases a
   exact .cons _ _ (ih _ b)
theorem Eo{l:OpenLaw}(hn:l.most=some n){P:Params}{args:List WData}{uH:List Value}
  (BE:l.row.toRowW.claim.pre args=true) (Uf:WellAll P h uH args) :
  ∃a vs ns,uH=[Value.ref a]/\args=[WData.list (ns.map WData.int)]/\h.get? a=some { cls:=.type "list",data:=.seq vs.toArray }/\IntsAre vs ns/\ns.length<=n:=by
 have hsh:WShape.hasAll [] args [.list .int]=true:=(pre_splitW BE).1
 have hc:l.pre.holds [] { args:=args }=true:=(pre_splitW BE).2
 obtain⟨d,r,rfl,h1,h2⟩:=hasAllW_cons hsh
 obtain rfl:=hasAllW_nil h2
 obtain⟨xs,rfl,h3⟩:=hasW_list h1
 obtain⟨ns,rfl⟩:=items_int h3
 have fX:ns.length<=n:=by
  unfold OpenLaw.pre at hc
  have h4:(WTm.not (.lt (.lit (.int (n:Int))) (.len (.arg 0)))).holds [] { args:=[.list (ns.map .int)] }=true:=by
   have h4:=(holds_andW hc).1
   rw[hn]at h4
   exact h4
  have h5:=condW_of h4 (w_not (w_lt w_lit (w_len_list (w_arg rfl))))
  rw[aF]at h5
  refine Nat.le_of_not_lt fun q=>?_
  have q':(n:Int)<((ns.length:Nat):Int):=by omega
  first
   |(rw[bw q']at h5;exact absurd h5 (by decide))
   |(simp at h5;omega)
 cases Uf with
 |cons w1 w2=>
  cases w2
  cases w1 with
  |list ho hall=>exact⟨_,_,ns,rfl,rfl,ho,uo ns _ hall,fX⟩
theorem Ep(l:OpenLaw)(args:List WData):l.row.toRowW.claim.post args (.bool true) args=true:=
 postW_of (r:=l.row.toRowW) (X:=(true==true))
  (show WShape.has [] (.bool true) .bool=true by first|rfl|decide|simp[WShape.has,WShape.arms,WShape.armsAll])
  (show(WTm.eq .res (.lit (.bool true))).value [] { args:=args,res:=some (.bool true),after:=args }=some (.bool (true==true))from w_eq_bool (w_res rfl) w_lit) rfl
theorem attach_call{l:OpenLaw}{q:Program}{yj:List Str}{d:DefRec}
  (hn:l.most=some n) (R7:d.params.defaults=[])
  (call:∀(w:World) (s₀ s₁:Shared) (mg mb:Str->Option Value) (fa:Addr) (o:Obj) (pm cd sE:Value) (a:Addr) (vs:List Value) (ns:List Int),
   Ground q yj [] XP w s₀ mg mb s₁.heap->YP w s₁.heap ->
   s₁.heap.get? fa=some o->o.data=.func (docDef d.name d.params d.body d.scope pm cd sE)->s₁.heap.CodeRec cd d.name->mg d.name=some (.ref fa) ->
   s₁.heap.get? a=some { cls:=.type "list",data:=.seq vs.toArray }->IntsAre vs ns->ns.length<=n->s₁.gens=#[] ->
   codeAny (model l.prog w) callerA (.call (.ref fa) ⟨[.ref a],[]⟩) (fun r s'=>r=.ok (.ret (.bool true))/\OldK s₁.heap s'.heap/\s'.os=s₁.os/\AllBare s'.gens) s₁) :
  WalkO q yj XP YP l.row.toRowW d [] (fun f vs=>PySem.call f vs):=by
 intro w s₀ s₁ mg mb G Y fa o pm cd sE dV kV ho hd Fb hD hmg hg args uH as BE hlay hrd Uf hlo
 obtain rfl:dV=.none:=Dflts.none hD R7
 obtain rfl:kV=.none:=Dflts.noKw hD
 obtain⟨a,vs,ns,rfl,rfl,hobj,hints,fX⟩:=Eo hn BE Uf
 refine enter_call (iw (call w s₀ s₁ mg mb fa o pm cd sE a vs ns G Y ho (fd_plain hd) Fb hmg hobj hints fX hg) fun r s' hq=>?_)
 obtain⟨rfl,h2,h3,h4⟩:=hq
 exact⟨.inl ⟨.bool true,.bool true,[],rfl,fun _=>rfl,.bool true,Ep l _,fun _=>⟨List.Pairwise.nil,fun _ hm=>(nomatch hm)⟩⟩,h2,h3,h4⟩
section
variable{w:World}
end
end Att
namespace L2
open PySem PySem.Spec PyProof.Rows
theorem xo:∀{vs:List Value} {ns:List Int},IntsAre vs ns->cL nk (ns.map V.int) vs
 |_,_,.nil=>.nil
 |_,_,.cons n t h=>.cons ⟨t,rfl⟩ (xo h)
def JM(H:Hp):Prop:=∀b,H b=none\/∃o xs,H b=some (.frz o (.lst xs))
theorem FM{P:Program}{w:World}{mb:Str->Option Value}{CX:Ej}{k:Nat}{fa a:Addr}{fd:FuncData}{x:Str}{sp:Sp}{s₁:Shared}{vs:List Value}
  (KX:K.In s₁.heap) (Ua:s₁.heap.Ns mainGlobals mg) (hb:s₁.heap.Ns builtinsNs mb) (U0:∀x:Str,x ≠ "__name__"->mb x=bootBuiltins x) (T_:s₁.heap.NoLimit) (hg:s₁.gens=#[])
  (ha:s₁.heap.get? a=some { cls:=.type "list",data:=.seq vs.toArray }) (hi:IntsAre vs ns) (hl:ns.length<=sizeLine) (hr:iK k callerA)
  (F:∀base:Heap,K.In base->base.Ns mainGlobals mg->c6 P w K mg base CX k fa fd [x] sp) (R':∀(s:Shared) (u:Value),BindsTo s fd ⟨[u],[]⟩ [(x,u)]) (Pi:fd.scope.names.lookup x=some .local)
  (Mg:∀H:Hp,JM H->sF K H a (ns.map V.int)->sp [.ref a] H (fun v _=>v=.bl true) fun _ _ _=>False)
  (Ue:∀H e s',CX [] H s₁ (fun _ _ _=>False) e s'->False) :
  codeAny (model P w) callerA (.call (.ref fa) ⟨[.ref a],[]⟩) (fun r s'=>r=.ok (.ret (.bool true))/\OldK s₁.heap s'.heap/\s'.os=s₁.os/\AllBare s'.gens) s₁:=by
 have rv:cL 0 _ _:=xo hi
 have lenV:=hi.length
 have core:∀H:Hp,JM H->sF K H a (ns.map V.int)->pI P w s₁.toks H s₁.heap->(∀b,H b≠none->b=a)->(H a≠none->K.lookup a=none) ->
   codeAny (model P w) callerA (.call (.ref fa) ⟨[.ref a],[]⟩) (fun r s'=>r=.ok (.ret (.bool true))/\OldK s₁.heap s'.heap/\s'.os=s₁.os/\AllBare s'.gens) s₁:=by
  intro H hO hS hok hA hK
  have base_of:∀{b:Addr} {o:Obj},s₁.heap.get? b=some o->H b=none->(yo s₁.heap H).get? b=some o:=fun e n=>Fk e n
  have noA:∀{b:Addr} {o:Obj} {es:Array DictEntry} {ep:Nat},s₁.heap.get? b=some o->o.data=.dict es ep->H b=none:=fun{b o es ep} e d=>by
   cases q:H b with
   |none=>rfl
   |some u=>
    have e':b=a:=hA b (by rw[q];simp)
    subst e'
    rw[ha]at e;cases e
    have d':Data.seq vs.toArray _=Data.dict es ep:=d
    cases d'
  have nsK:∀{b:Addr} {m:Str->Option Value},s₁.heap.Ns b m->(yo s₁.heap H).Ns b m:=fun{b m} ⟨o,es,ep,e,d,r⟩=>⟨o,es,ep,base_of e (noA e d),d,r⟩
  have hKb:K.In (yo s₁.heap H):=fun b o e=>base_of (KX b o e) (by
   cases q:H b with
   |none=>rfl
   |some u=>
    have e':b=a:=hA b (by rw[q];simp)
    subst e'
    rw[hK (by rw[q];simp)]at e;cases e)
  have hM:Mod K mg (yo s₁.heap H):=⟨hKb,nsK Ua,⟨mb,nsK hb,U0⟩,let ⟨mc,h1,h2⟩:=T_;⟨mc,nsK h1,h2⟩⟩
  have e0:BS P w K mg (yo s₁.heap H) callerA [] s₁ H:=⟨rfl,hM,fun b o e=>Jm e,Nat.le_of_eq (D9 _ _),trivial,fun b hb=>absurd (show b∈([]:List Addr)from hb) #[15],hok,.of_eq hg⟩
  refine iw ((F _ hKb (nsK Ua)).run callerA [] s₁ H ⟨[.ref a],[]⟩ [.ref a] [.ref a] _ _ hr e0 (.inr ⟨x,rfl,Pi⟩) (R' s₁ (.ref a)) (.cons rfl .nil) (Mg H hO hS)) fun r s' h=>?_
  cases r with
  |error e=>exact(Ue H e s' h).elim
  |ok fl=>
   cases fl with
   |next=>exact False.elim h
   |brk=>exact False.elim h
   |cont=>exact False.elim h
   |ret u=>
    obtain⟨v,H',os,bare,un,hok',r',q⟩:=h
    have q':v=.bl true:=q
    subst q'
    obtain rfl:u=Value.bool true:=r'
    refine⟨rfl,OldK.of_keep fun b o e=>?_,os,bare⟩
    cases q:H b with
    |none=>exact un.keep b o e q (by intro z;exact absurd (show b∈([]:List Addr)from z) (by simp)) (by simp)
    |some u=>
     rcases hO b with z|⟨ob,xs,z⟩
     ·rw[q]at z;cases z
     ·have z2:=un.frzs b ob _ z
      obtain⟨e1,_⟩:=hok b _ z
      obtain⟨e2,_⟩:=hok' b _ z2
      rw[e]at e1;cases e1
      exact e2
 cases hk:K.lookup a with
 |some o=>
  have e:=KX a o hk
  rw[ha]at e
  cases e
  refine core (fun _=>none) (fun _=>.inl rfl) (.inr ⟨_,vs.toArray,_,hk,rfl,rfl,rfl,by rw[aV,lenV];exact hl,by simpa using rv⟩) (fun b u z=>by have z':(none:Option HO)=some u:=z;cases z') (fun b z=>absurd rfl z) fun z=>absurd rfl z
 |none=>
  refine core (fun b=>if b=a then some (.frz { cls:=.type "list",data:=.seq vs.toArray } (.lst (ns.map V.int)))else none) (fun b=>?_) (.inl (.inr ⟨{ cls:=.type "list",data:=.seq vs.toArray },aE rfl⟩)) (fun b u z=>?_) (fun b z=>?_) fun _=>hk
  ·by_cases hb:b=a
   ·exact .inr ⟨_,_,aE hb⟩
   ·exact .inl (aL hb)
  ·by_cases hb:b=a
   ·have z':=(aE hb).symm.trans z
    cases z'
    subst hb
    exact⟨ha,by rw[aF];exact hl,vs,_,rv.up (cn _),ha⟩
   ·have z':=(aL hb).symm.trans z
    cases z'
  ·by_cases hb:b=a
   ·exact hb
   ·exact absurd (aL hb) z
end L2
namespace L2
open PySem PySem.Spec PyProof.Rows
theorem walk_of{l:PySem.W.OpenLaw}{n k:Nat}{q:Program}{yj:List Str}{d:DefRec}{K:Params->Frag}{CX:World->Ej}{sp:World->Sp}{x:Str}
  (hn:l.most=some n) (Sd:n<=sizeLine) (R7:d.params.defaults=[]) (hr:iK k callerA)
  (hY:∀(w:World) (h:Heap),YP w h->(K w.params).In h)
  (F:∀(w:World) (mg:Str->Option Value) (fa:Addr) (h:Heap),(K w.params).In h->h.Ns mainGlobals mg->mg d.name=some (.ref fa) ->
   ∃fd:FuncData,fd.scope.names.lookup x=some .local/\(∀(s:Shared) (u:Value),BindsTo s fd ⟨[u],[]⟩ [(x,u)]) /\
    ∀base:Heap,(K w.params).In base->base.Ns mainGlobals mg->c6 l.prog w (K w.params) mg base (CX w) k fa fd [x] (sp w))
  (Mg:∀(w:World) (H:Hp) (a:Addr) (ns:List Int),ns.length<=n->JM H->sF (K w.params) H a (ns.map V.int)->sp w [.ref a] H (fun v _=>v=.bl true) fun _ _ _=>False)
  (Ue:∀(w:World) (H:Hp) (s:Shared) (e:Value) (s':Shared),CX w [] H s (fun _ _ _=>False) e s'->False) :
  PySem.W.WalkO q yj XP YP l.row.toRowW d [] (fun f vs=>PySem.call f vs):=by
 refine Att.attach_call hn R7 fun w s₀ s₁ mg mb fa o pm cd sE a vs ns G Y ho hd Fb hmg hobj hints fX hg=>?_
 have KX:=hY w _ Y
 obtain⟨fd,Pi,hb,hF⟩:=F w mg fa _ KX G.T.g hmg
 exact FM KX G.T.g G.T.b G.T.builtins G.T.nolimit hg hobj hints (aN fX Sd) hr hF hb Pi (fun H hO hS=>Mg w H a ns fX hO hS) fun H e s'=>Ue w H s₁ e s'
end L2
namespace L2
open PySem PySem.Spec PyProof.Rows
noncomputable def ig(s:Stmt):Arguments:=match s with
 |.FunctionDef _ a _ _ _ _ _ _ _ _=>a
 |_=>{ posonlyargs:=[],args:=[],vararg:=none,kwonlyargs:=[],kw_defaults:=[],kwarg:=none,defaults:=[] }
noncomputable def gB(s:Stmt):List Stmt:=match s with
 |.FunctionDef _ _ b _ _ _ _ _ _ _=>b
 |_=>[]
noncomputable def aQ(s:Stmt):Scope:=match s with
 |.FunctionDef _ _ _ _ _ _ sc _ _ _=>sc
 |_=>{ kind:=.function,names:=[],isGenerator:=false,isCoroutine:=false }
structure iC(K:Frag)(x fG:Str)(st:Stmt)(f:Addr)(fd:FuncData):Prop where
 ex:∃(oc:Value) (od:Option Addr) (kV sE pm:Value) (an:Option Addr) (fA ct:Value) (Md:Array (Option Value)),
  fd=fnOf x fG (ig st) (gB st) (aQ st) .none kV sE pm an fA ct/\K.lookup f=some ⟨oc,od,.func fd,Md⟩/\codeIn K fA fG=true
 kp:keepIn K (.ref f)=true
section
variable{w:World}
theorem iC.binds{x:Str}{st:Stmt}{f:Addr}(F:iC K x fG st f fd)
  (h:∀(kV sE pm:Value) (an:Option Addr) (fA ct:Value) (us:List Value),us.length=ps.length->bindArgs (fnOf x fG (ig st) (gB st) (aQ st) .none kV sE pm an fA ct) ⟨us,[]⟩=pure (ps.zip us)):qc K fd ps []:=by
 obtain⟨oc,od,kV,sE,pm,an,fA,ct,Md,rfl,lk,Fb⟩:=F.ex
 exact .all (h kV sE pm an fA ct)
theorem yy{x:Str}{st:Stmt}{f:Addr}{oc:Value}{od an:Option Addr}{Md:Array (Option Value)}{kV sE pm fA ct:Value}(l:K.lookup f=some ⟨oc,od,.func (fnOf x fG (ig st) (gB st) (aQ st) .none kV sE pm an fA ct),Md⟩)
  (c:codeIn K fA fG=true) (k:keepIn K (.ref f)=true):iC K x fG st f (fnOf x fG (ig st) (gB st) (aQ st) .none kV sE pm an fA ct):=⟨⟨oc,od,kV,sE,pm,an,fA,ct,Md,rfl,l,c⟩,k⟩
end
theorem K1{k:Nat}(hr:iK k A):A.units+1<cLine:=gG (Nat.add_le_add_left (by decide:1<=64) _) hr.units
section
theorem pv(i:Nat){x:Str}{pos:Pos}(hN:X.N[i]?=some x:=by rfl)(hv:PF X.env.scope x:=by first|exact Or.inl rfl|exact Or.inr (Or.inl rfl)|exact Or.inr (Or.inr rfl))(hd:(x==("__debug__":Str))=false:=by decide)
  (Fb:(x==("__classdict__":Str))=false:=by decide):PE X (.Name x pos) (PH i):=Mm hN hv hd Fb
end
def uq(H H':Hp):Prop:=∀b o,H b=some o->H' b=some o
theorem uq.refl(H:Hp):uq H H:=fun _ _ h=>h
end L2
namespace L2
open PySem PySem.Spec PyProof.Rows
section
variable{κ:Type}[DecidableEq κ]
noncomputable def pX(kvs:List (κ×V))(k:κ):Option V:=(kvs.find? fun kv=>decide (kv.1=k)).map (·.2)
noncomputable def sL(kvs:List (κ×V))(k:κ)(v:V):List (κ×V):=
 if (kvs.any fun kv=>decide (kv.1=k))=true then kvs.map (fun kv=>if kv.1=k then(kv.1,v)else kv)else kvs++[(k,v)]
theorem qZ{p:κ×V}{r:List (κ×V)}{k:κ}(e:p.1=k):pX (p::r) k=some p.2:=by simp[pX,dr,e]
theorem q5{p:κ×V}{r:List (κ×V)}{k:κ}(e:¬ p.1=k):pX (p::r) k=pX r k:=by simp[pX,dr,e]
theorem z9(k:κ):∀kvs:List (κ×V),(kvs.any fun kv=>decide (kv.1=k))=(pX kvs k).isSome
 |[]=>rfl
 |p::r=>by
  rw[ms]
  by_cases e:p.1=k
  ·simp only[qZ e,bw e,Bool.true_or,Option.isSome_some]
  ·rw[q5 e,aW e,Bool.false_or];exact z9 k r
theorem tX(kvs:List (κ×V))(k:κ)(v:V):(sL kvs k v).length<=kvs.length+1:=by
 unfold sL
 split
 ·rw[aF];omega
 ·rw[ah,bg,kD];omega
theorem mS.isSome_eq{o:Option V}{u:Option Value}(r:mS nk o u):o.isSome=u.isSome:=by
 cases o with
 |none=>cases u with
  |none=>rfl
  |some _=>exact(show False from r).elim
 |some _=>cases u with
  |none=>exact(show False from r).elim
  |some _=>rfl
theorem mS.getD{o:Option V}{u:Option Value}{d:V}{d':Value}(r:mS nk o u)(rd:cS nk d d'):cS nk (o.getD d) (u.getD d'):=by
 cases o with
 |none=>cases u with
  |none=>exact rd
  |some _=>exact(show False from r).elim
 |some _=>cases u with
  |none=>exact(show False from r).elim
  |some _=>exact r
theorem KV.val{kvs:List (κ×V)}{vs:List (κ×Value)}(r:KV nk kvs vs)(k:κ):mS nk (pX kvs k) (valueAt vs k):=by
 unfold KV at r
 induction r with
 |nil=>exact True.intro
 |@cons p q ps qs h t ih=>
  obtain⟨h1,h2⟩:=h
  by_cases e:p.1=k
  ·have e':q.1=k:=h1.symm.trans e
   have b:valueAt (q::qs) k=some q.2:=by simp[valueAt,dr,e']
   rw[qZ e,b];exact h2
  ·have e':¬ q.1=k:=fun z=>e (h1.trans z)
   have b:valueAt (q::qs) k=valueAt qs k:=by simp[valueAt,dr,e']
   rw[q5 e,b];exact ih
theorem KV.any{kvs:List (κ×V)}{vs:List (κ×Value)}(r:KV nk kvs vs)(k:κ):(kvs.any fun kv=>decide (kv.1=k))=vs.any fun kv=>decide (kv.1=k):=by
 unfold KV at r
 induction r with
 |nil=>rfl
 |cons h t ih=>rw[ms,ms,ih,h.1]
theorem KV.repl{kvs:List (κ×V)}{vs:List (κ×Value)}(r:KV nk kvs vs)(k:κ)(ry:cS nk y u) :
  KV nk (kvs.map fun kv=>if kv.1=k then(kv.1,y)else kv) (vs.map fun kv=>if kv.1=k then(kv.1,u)else kv):=by
 unfold KV at r ⊢
 induction r with
 |nil=>exact .nil
 |@cons p q ps qs h t ih=>
  rw[aU,aU]
  refine .cons ?_ ih
  obtain⟨h1,h2⟩:=h
  by_cases e:p.1=k
  ·rw[aE e,aE (h1.symm.trans e)];exact⟨h1,ry⟩
  ·rw[aL e,aL (fun z=>e (h1.trans z))];exact⟨h1,h2⟩
theorem KV.put{kvs:List (κ×V)}{vs:List (κ×Value)}(r:KV nk kvs vs)(k:κ)(ry:cS nk y u):KV nk (sL kvs k y) (stored vs k u):=by
 unfold sL stored
 rw[r.any k]
 by_cases e:(vs.any fun kv=>decide (kv.1=k))=true
 ·rw[aE e,aE e];exact r.repl k ry
 ·rw[aL e,aL e];exact Paired.snoc r ⟨rfl,ry⟩
theorem KV.length{kvs:List (κ×V)}{vs:List (κ×Value)}(r:KV nk kvs vs):kvs.length=vs.length:=Paired.length r
end
theorem FN{w:World}{k:jY}(r:cS nk (kV k) u):(gA P w).is k u=true:=by
 cases k with
 |inl i=>obtain⟨t,e⟩:=(show ∃t,u=Value.int i t from r);subst e;exact zS P w i t
 |inr x=>obtain⟨t,e⟩:=(show ∃t:Tk _ x,u=Value.str x t.1 from r);subst e;exact zT P w x t
theorem xp{w:World}:∀{ks:List jY} {us:List Value},cL nk (ks.map kV) us->ItemsAre (gA P w) ks us
 |[],_,r=>by rw[sy]at r;cases r;exact .nil
 |k::ks,_,r=>by
  rw[aU]at r
  cases r with
  |cons h t=>exact .cons (FN h) (xp t)
abbrev KT(nk:Nat)(H:Hp):List (List jY×V)->List (List jY×Addr×Value)->Prop:=Paired fun p q=>p.1=q.1/\H q.2.1=some (.tup (p.1.map kV))/\cS nk p.2 q.2.2
theorem KT.val{kvs:List (List jY×V)}(r:KT nk H kvs xs)(k:List jY):mS nk (pX kvs k) ((atKey xs k).map (·.2)):=by
 induction r with
 |nil=>exact True.intro
 |@cons p q ps qs h t ih=>
  obtain⟨h1,_,h2⟩:=h
  by_cases e:p.1=k
  ·have e':q.1=k:=h1.symm.trans e
   have b:atKey (q::qs) k=some q.2:=by simp[atKey,dr,e']
   rw[qZ e,b];exact h2
  ·have e':¬ q.1=k:=fun z=>e (h1.trans z)
   have b:atKey (q::qs) k=atKey qs k:=by simp[atKey,dr,e']
   rw[q5 e,b];exact ih
theorem KT.repl{kvs:List (List jY×V)}(r:KT nk H kvs xs)(k:List jY)(ry:cS nk y u) :
  KT nk H (kvs.map fun kv=>if kv.1=k then(kv.1,y)else kv) (xs.map (putAt k u)):=by
 induction r with
 |nil=>exact .nil
 |@cons p q ps qs h t ih=>
  rw[aU,aU]
  refine .cons ?_ ih
  obtain⟨h1,h2,h3⟩:=h
  unfold putAt
  by_cases e:p.1=k
  ·rw[aE e,aE (h1.symm.trans e)];exact⟨h1,h2,ry⟩
  ·rw[aL e,aL (fun z=>e (h1.trans z))];exact⟨h1,h2,h3⟩
theorem KT.put{kvs:List (List jY×V)}(r:KT nk H kvs xs)(k:List jY){b:Addr}(hb:H b=some (.tup (k.map kV)))(ry:cS nk y u) :
  KT nk H (sL kvs k y) (storedH xs k b u):=by
 have e:(kvs.any fun kv=>decide (kv.1=k))=(atKey xs k).isSome:=by
  rw[z9,(r.val k).isSome_eq,Option.isSome_map]
 unfold sL storedH
 rw[e]
 by_cases q:(atKey xs k).isSome=true
 ·rw[aE q,aE q];exact r.repl k ry
 ·rw[aL q,aL q];exact Paired.snoc r ⟨rfl,hb,ry⟩
theorem KT.keeps{kvs:List (List jY×V)}(r:KT nk H kvs xs)(ht:∀b ys,H b=some (.tup ys)->H' b=some (.tup ys)):KT nk H' kvs xs:=
 Paired.mapP r fun _ _ z=>⟨z.1,ht _ _ z.2.1,z.2.2⟩
section
variable{w:World}{a:Addr}
theorem K2{u:HO}(ok:pI P w nk H h)(e:Rd H a u):fq P w nk H h a u:=e.ok ok
theorem FP{kvs:List (jY×V)}(ok:pI P w nk H h)(e:Rd H a (.dK kvs)):kvs.length<=sizeLine/\(a==sysModules)=false/\∃vs,KV nk kvs vs/\h.DictOf (gA P w) a vs:=
 show fq P w _ H h a (.dK kvs)from K2 ok e
theorem Qg{kvs:List (jY×V)}(ok:pI P w nk H h)(e:H a=some (.dK kvs)):kvs.length<=sizeLine/\(a==sysModules)=false/\∃vs,KV nk kvs vs/\h.DictOf (gA P w) a vs:=FP ok (.inl e)
theorem B0{ks:List jY}(ok:pI P w nk H h)(e:H a=some (.tup (ks.map kV))):(tupleKind (gA P w)).is h ks a:=by
 obtain⟨_,bI,r,o,h1,h2,n,h3⟩:=(show fq P w _ H h a (.tup (ks.map kV))from ok a _ e)
 exact⟨o,bI.toArray,n,h1,h2,h3,by simpa using xp r⟩
theorem FQ{kvs:List (List jY×V)}(ok:pI P w nk H h)(e:Rd H a (.dT kvs)):kvs.length<=sizeLine/\(a==sysModules)=false /\
  ∃xs,KT nk H kvs xs/\h.DictOfH (tupleKind (gA P w)) a xs:=by
 obtain⟨z,y,xs,r,o,es,ep,h1,h2,h3,h4,h5⟩:=(show fq P w _ H h a (.dT kvs)from K2 ok e)
 refine⟨z,y,xs,r,o,es,ep,h1,h2,h3,h4,fun x hx=>?_,h5⟩
 have all:∀{l:List (List jY×V)} {m:List (List jY×Addr×Value)},KT nk H l m->∀x∈m,(tupleKind (gA P w)).is h x.1 x.2.1:=by
  intro l m q
  induction q with
  |nil=>intro x hx;exact nomatch hx
  |@cons p q ps qs hq t ih=>
   intro x hx
   rcases aT.mp hx with e|hx
   ·subst e
    exact B0 ok (by rw[<- hq.1];exact hq.2.1)
   ·exact ih x hx
 exact all r x hx
theorem Qh{kvs:List (List jY×V)}(ok:pI P w nk H h)(e:H a=some (.dT kvs)):kvs.length<=sizeLine/\(a==sysModules)=false /\
  ∃xs,KT nk H kvs xs/\h.DictOfH (tupleKind (gA P w)) a xs:=FQ ok (.inl e)
end
def Er(H:Hp)(a:Addr)(y:V)(r:Option V):Prop:=
 (∃kvs k,Rd H a (.dK kvs)/\y=kV k/\r=pX kvs k)\/∃kvs k b,Rd H a (.dT kvs)/\y=.ref b/\H b=some (.tup (k.map kV))/\r=pX kvs k
def JN(H:Hp)(a:Addr)(y v:V)(H':Hp):Prop:=
 (∃kvs k,H a=some (.dK kvs)/\y=kV k/\kvs.length<sizeLine/\H'=fW H a (.dK (sL kvs k v))) \/
 ∃kvs k b,H a=some (.dT kvs)/\y=.ref b/\H b=some (.tup (k.map kV))/\kvs.length<sizeLine/\H'=fW H a (.dT (sL kvs k v))
theorem JN.k{a:Addr}{kvs:List (jY×V)}{k:jY}{v:V}(e:H a=some (.dK kvs))(hl:kvs.length<sizeLine):JN H a (kV k) v (fW H a (.dK (sL kvs k v))):=.inl ⟨kvs,k,e,rfl,hl,rfl⟩
section
variable{a:Addr}{v:V}{r:Value}{o:Option V}
theorem bT.big(I:bT X aj σ H s):sysModules<s.heap.objs.size:=by
 have h:mainGlobals<s.heap.objs.size:=(I.mod.glob.keeps I.bk).lt
 exact nr #[12] h
theorem Di{ob:HO}(I:bT X aj σ H s)(mu:PD (H a))(hs:Heap.SameBut a s.heap h')(he:∃q,h'.get? a=some q)(new:fq X.prog X.w s.toks (fW H a ob) h' a ob)(hk:s.toks<=t':=by first|exact az _|exact bp _|assumption|omega) :
  bT X aj σ (fW H a ob) { s with heap:=h',toks:=t' }:=
 I.write (x:=a) (e:=a) mu (.inl rfl) (fun b q hb z=>(hs.2 b hb).trans z) he (new.up hk)
theorem M3{w:World}{kvs:List (jY×V)}{vs:List (jY×Value)}(z:kvs.length<=sizeLine)(hd:(a==sysModules)=false)(rel:KV nk kvs vs)(dd:h'.DictOf (gA P w) a vs) :
  fq P w nk H' h' a (.dK kvs):=⟨z,hd,vs,rel,dd⟩
theorem Es{Q:Unit->Shared->Prop}(hu:A.units+1<cLine)(I:bT X aj σ H s)(g:JN H a y v H')(ry:cS s.toks y u)(rv:cS s.toks v r)(h:∀s',bT X aj σ H' s'->Q () s') :
  wpAny #[3] A (setItem (.ref a) u r) Q E s:=by
 rcases g with⟨kvs,k,e,ey,l,eH⟩|⟨kvs,k,b,e,ey,eb,l,eH⟩
 ·subst ey eH
  obtain⟨z,hd,vs,rel,dd⟩:=Qg I.hok e
  have hz:vs.length<=sizeLine:=by rw[<- rel.length];exact z
  have hl:(sL kvs k v).length<=sizeLine:=by have:=tX kvs k v;omega
  refine wpAny_setItem_pairs (hsz:=hz) (FN ry) dd fun h' dd' hs=>h _ ?_
  have he:∃q,h'.get? a=some q:=let ⟨q,_,_,hq,_⟩:=dd';⟨q,hq⟩
  exact Di I (by rw[e];exact True.intro) hs he (M3 hl hd (rel.put k rv) dd')
 ·subst ey eH
  cases(show u=Value.ref b from ry)
  obtain⟨z,hd,xs,rel,dd⟩:=Qh I.hok e
  have hz:xs.length<=sizeLine:=by rw[<- Paired.length rel];exact z
  have hl:(sL kvs k v).length<=sizeLine:=by have:=tX kvs k v;omega
  refine wpAny_setItem_heap (hsz:=hz) (tupleKind_room_in1 hu) (B0 I.hok eb) dd fun h' dd' hs=>h _ ?_
  obtain⟨q,es,ep,hq,h2,h3,h4,_,h5⟩:=dd'
  refine Di I (by rw[e];exact True.intro) hs ⟨q,hq⟩ ⟨hl,hd,_,(rel.put k eb rv).keeps fun c ys ec=>?_,q,es,ep,hq,h2,h3,h4,h5⟩
  rw[c_ (PB ec e (fun z=>nomatch z))]
  exact ec
end
section
variable{a:Addr}{kvs:List (jY×V)}{k:jY}
end
section
variable{i value:Expr}{Uj:Pos}{td ty tv:TE}
end
theorem FR{w:World}(h:Heap)(hb:sysModules<h.objs.size):fq P w nk H (h.push { cls:=.type "dict",data:=.dict #[] }) h.objs.size (.dK []):=
 ⟨cn _,bz.mpr (Ne.symm (bd hb)),[],.nil,Heap.DictOf.new h⟩
def M4:TE:=fun _ H Q=>∀p,H p=none->Q (.ref p) (fW H p (.dK []))
section
theorem FU:PE X (.Dict [] [] pos) M4:=fun aj s σ H Q I h=>
 wpAny_Dict_empty ⟨.ref s.heap.objs.size,_,I.laid (a:=s.heap.objs.size) (o:=.dK []) (t':=s.toks) (fun _ _ q=>av _ q) (az _) (FR s.heap I.big),rfl,h _ (I.hok.fresh (az _))⟩
end
structure M1(X:Cx)(o:Expr)(m:Str)(fH:Pos)(e:Expr)(dG:Pos):Prop where
 base:attributeBase o m X.env (eval o X.env)=eval o X.env
 few:((backTo dG (starEach [e] X.env)).all (fun x=>!x.1)&&(backToKw dG (keywordEach [] X.env)).all (fun x=>x.1.isSome)
  && decide (([e]:List Expr).length+([]:List Keyword).length+(if ([]:List Keyword).isEmpty then 0 else 1)<30))=true
 line:(fH.endLine==dG.line)=true
 trees:backTo dG (starEach [e] X.env)=[(false,eval e X.env)]
def Uq(H:Hp)(a:Addr):Prop:=(∃kvs,Rd H a (.dK kvs))\/∃kvs,Rd H a (.dT kvs)
theorem M5{a:Addr}(I:bT X aj σ H s)(d:Uq H a) :
  s.TypeIs (.ref a) "dict"/\(∀b,Value.ref a=.ref b->∃ob,s.heap.get? b=some ob/\ob.dict=none)/\(a==sysModules)=false:=by
 rcases d with⟨kvs,e⟩|⟨kvs,e⟩
 ·obtain⟨_,hd,vs,_,dd⟩:=FP I.hok e
  refine⟨dd.typeIs,fun b q=>?_,hd⟩
  cases q
  obtain⟨ob,_,_,h1,h2,_⟩:=dd
  exact⟨ob,h1,h2.2.1⟩
 ·obtain⟨_,hd,xs,_,dd⟩:=FQ I.hok e
  refine⟨dd.typeIs,fun b q=>?_,hd⟩
  cases q
  obtain⟨ob,_,_,h1,h2,_⟩:=dd
  exact⟨ob,h1,h2.2.1⟩
section
variable{a:Addr}{d:V}{r:Value}{o:Option V}
theorem M6(hu:A.units+1<cLine)(I:bT X aj σ H s)(g:Er H a y o)(ry:cS s.toks y u)(h:∀w' s',bT X aj σ H s'->cS s'.toks (o.getD .non) w'->Q w' s') :
  wpAny #[3] A (call (.builtin "dict.get") [.ref a,u]) Q E s:=by
 rcases g with⟨kvs,k,e,ey,l⟩|⟨kvs,k,b,e,ey,eb,l⟩
 ·subst ey
  obtain⟨z,hd,vs,rel,dd⟩:=FP I.hok e
  refine call_meetsIn PySem.F.slot_dict_get dd.typeIs PySem.F.entry_dict_get (PySem.F.args_dict_get_2 _ _) (meets_dict_get (gA X.prog X.w) a (FN ry) hd) ⟨_,dd.mapOf,h _ _ (I.tok _) ?_⟩
  rw[l]
  exact((rel.val k).getD (show cS s.toks .non Value.none from rfl)).up (iu _ _)
 ·subst ey
  cases(show u=Value.ref b from ry)
  obtain⟨z,hd,xs,rel,dd⟩:=FQ I.hok e
  refine call_meetsIn PySem.F.slot_dict_get dd.typeIs PySem.F.entry_dict_get (PySem.F.args_dict_get_2 _ _) (meetsH_dict_get (tupleKind (gA X.prog X.w)) a b hd) ⟨tupleKind_room_in1 hu,k,xs,B0 I.hok eb,dd,h _ _ (I.tok _) ?_⟩
  rw[l]
  exact((rel.val k).getD (show cS s.toks .non Value.none from rfl)).up (iu _ _)
end
def M7(td ty:TE):TE:=fun σ H Q=>td σ H fun x H1=>∃a,x=.ref a/\Uq H1 a/\ty σ H1 fun y H2=>∃o,Er H2 a y o/\Q (o.getD .non) H2
section
variable{f:Expr}{td ty tx:TE}
theorem FV(hu:X.A.units+1<cLine)(ho:PE X o td)(he:PE X e ty)(m:M1 X o "get" fH e dG):PE X (.Call (.Attribute o "get" fH) [e] [] dG) (M7 td ty):=by
 intro aj s σ H Q I h
 refine wpAny_Call_method m.base m.few m.line PySem.F.plainAttrs_dict PySem.F.slot_dict_get PySem.F.type_dict_get (jC (ho aj s σ H _ I h) fun u s1 kt1 zq=>?_)
 obtain⟨x,H1,I1,rx,a,ex,d,q1⟩:=zq
 subst ex
 obtain rfl:u=Value.ref a:=rx
 obtain⟨t1,t2,_⟩:=M5 I1 d
 refine⟨t1,t2,?_⟩
 rw[m.trees]
 refine gH rfl (ic (eP (jC (he aj s1 σ H1 _ I1 q1) fun iv s2 kt2 ⟨y,H2,I2,ry,ov,g,q2⟩=>fZ ?_)))
 exact M6 hu I2 g ry fun w' s3 I3 om=>⟨_,H2,I3,om,q2⟩
end
section
variable{a:Addr}{kvs:List (jY×V)}
end
section
variable{a:Addr}
end
end L2
namespace L2
open PySem PySem.Spec PyProof.Rows
section
end
section
variable{κ:Type}[DecidableEq κ]
end
end L2
set_option maxHeartbeats 4000000
namespace L2
open PySem PySem.Spec PyProof.Rows
theorem sM{t:Sem α}{Q Q':α->Shared->Prop}(h:wpAny M A t Q (fun _ _=>False) s)(hQ:∀a s',s.toks<=s'.toks->Q a s'->Q' a s'):wpAny M A t Q' E s:=
 up (lj h (fun a s' q k=>hQ a s' k q) fun _ _ z=>z.elim)
abbrev dY(X:Cx)(nm:List Str)(scope:Scope)(cl:List (Str×Addr))(C:Addr)(s0:Shared)(H0:Hp)(fp:List Addr):Cx:=
 { X with N:=nm,s₀:=s0,H₀:=H0,env:=compEnvC scope cl C X.env,outer:=X.stack,stack:=X.stack,ex:=fp,fn:=fun _=>false,pn:=[],xe:=fun _ _=>False }
def FW(X:Cx)(mR:List Expr)(t:TT):Prop:=
 ∀(aj:List (Addr×Obj)) (s:Shared) (σ:St) (H:Hp) (Q:Bool->Hp->Prop),bT X aj σ H s->t σ H Q ->
  wpAny #[3] X.A (forIn mR true fun c r=>if r=true then do let ok <- isTrue c X.env (eval c X.env);pure (ForInStep.yield ok)else pure (ForInStep.yield r)) (TP X aj σ Q) X.xe s
def Tu:TT:=fun _ H Q=>Q true H
theorem JO:FW X [] Tu:=fun _ _ _ H _ I h=>wpAny_tests_nil ⟨H,I,h⟩
theorem JP{t:TT}(hc:PT X c t):FW X [c] t:=fun aj s σ H Q I h=>wpAny_tests_one (hc aj s σ H Q I h)
def qd(cap:List (Option Nat))(σ:St):St:=cap.map fun o=>o.bind fun j=>(σ[j]?).join
def u6(cap:List (Option Nat))(wi:TI)(g:TG)(tc:TT)(te:TE):TE:=fun σ H Q=>wi σ H fun J H1=>∃W:Nat->Nat->List V->Hp->Prop,(∃m,W 0 m [] H1)/\∀i m ys H2,W i m ys H2 ->
 (J.stop i H2/\ys.length<=sizeLine/\∀p,H2 p=none->Q (.ref p) (fW H2 p (.lst ys))) \/
 (J.go i H2/\∀x H3,J.yld i H2 x H3->g x (qd cap σ) H3 fun σ2 H4=>tc σ2 H4 fun b H5=>if b=true then te σ2 H5 fun y H6=>ys.length<sizeLine/\∃m',m'<m/\W (i+1) m' (ys++[y]) H6 else ∃m',m'<m/\W (i+1) m' ys H5)
theorem Un.cellK{fs ex:List Addr}(u:Un fs ex H H' h h'){c:Addr}{v:Option Value}(x:h.IsCell c v)(n:H c=none)(he:c∉ex):h'.IsCell c v:=by
 obtain⟨o,ho,hd⟩:=x
 obtain⟨sl,q⟩:=u.any ho n he
 exact⟨_,q,hd⟩
structure u7(X:Cx)(scope:Scope)(cl:List (Str×Addr))(x:Str):Prop where
 vis:PF X.env.scope x
 nl:X.env.scope.names.lookup x≠some .local
 cl:cl.lookup x=X.env.cells.lookup x
 kd:(relabel scope X.env).names.lookup x=some .cell\/(relabel scope X.env).names.lookup x=some .free
theorem l7:∀(names:List (Str×NameKind)) (n:Nat) (iS:List (Str×Addr)) {y:Str} {c:Addr},(y,c)∈cellsFrom n names iS->(y,NameKind.cell)∈names\/(y,c)∈iS
 |[],_,_,_,_,h=>.inr h
 |(x,k)::r,n,iS,y,c,h=>by
  have h:(y,c)∈(if k==.cell then cellsFrom (n+1) r ((x,n)::iS)else cellsFrom n r iS):=h
  split at h
  ·rename_i hk
   rcases l7 r _ _ h with q|q
   ·exact .inl (aS _ q)
   ·rcases aT.mp q with e|q
    ·cases e
     exact .inl (by rw[mM hk];exact bC)
    ·exact .inr q
  ·rcases l7 r _ _ h with q|q
   ·exact .inl (aS _ q)
   ·exact .inr q
theorem ja:∀{l:List (Str×β)} {x:Str} {b:β},l.lookup x=some b->(x,b)∈l
 |[],_,_,h=>by simp at h
 |(y,c)::r,x,b,h=>by
  rw[jR]at h
  cases hx:x==y with
  |true=>rw[hx]at h;have:=mM hx;subst this;cases h;exact bC
  |false=>rw[hx]at h;exact aS _ (ja h)
theorem jT:∀(names:List (Str×NameKind)) (n:Nat) (iS:List (Str×Addr)),cellsFrom n names iS=cellsFrom n names []++iS
 |[],_,_=>rfl
 |(x,k)::r,n,iS=>by
  show(if k==.cell then cellsFrom (n+1) r ((x,n)::iS)else cellsFrom n r iS)=(if k==.cell then cellsFrom (n+1) r [(x,n)]else cellsFrom n r [])++iS
  split
  ·rw[jT r (n+1) ((x,n)::iS),jT r (n+1) [(x,n)],ak];rfl
  ·exact jT r n iS
abbrev e_(X:Cx)(nm:List Str)(scope:Scope)(cl:List (Str×Addr))(C:Addr)(s0:Shared)(H0:Hp)(fp:List Addr):Cx:=
 { dY X nm scope cl C s0 H0 fp with fn:=fun y=>scope.names.lookup y==some .cell }
theorem JQ{M:Model}{A:Around}{E:Value->Shared->Prop}{globals:Addr}{Q:Env->Shared->Prop}
  (hQ:∀h':Heap,h'.Ns s.heap.objs.size (fun x=>([]:List (Str×Value)).reverse.lookup x)->(∀b o,s.heap.get? b=some o->h'.get? b=some o)->CellsOk h' #[6] (cellsFrom #[6] scope.names []) ->
   Q (newEnv scope s.heap.objs.size globals (cellsFrom #[6] scope.names []++cl) fG none .none (some env) builtinsNs) { s with heap:=h' }) :
  wpAny M A (newFunctionEnv scope globals cl [] fG none .none (some env)) Q E s:=by
 simp only[newFunctionEnv,Option.isSome_some,f6]
 refine af (wpAny_alloc ?_)
 refine af (wpAny_layCells _ (fun name kind cells=>by cases hkc:kind==NameKind.cell<;>simp[hkc]) _ _ _ _ ?_)
 have ok:=cellsFrom_ok scope.names (s.heap.push { cls:=.type "dict",data:=.dict #[] }) #[6] [] ⟨fun _ _ hm=>(nomatch hm),List.Pairwise.nil⟩ (by rw[bv];exact az _)
 rw[bv]at ok
 rw[show({ s with heap:=s.heap.push { cls:=.type "dict",data:=.dict #[] } }:Shared).heap.objs.size=s.heap.objs.size+1 from bv ..,jT _ _ cl]
 exact af (ay (ay (hQ _ ((Heap.Ns.new s.heap (.type "dict")).keeps (kB _ _)) (fun b o e=>kB _ _ b o (av _ e)) ok)))
section
variable{wi:TI}{g:TG}{tc:TT}
theorem yz{prog:Program}{w:World}{A:Around}{E:Value->Shared->Prop}{l:Addr}{u:Value}{Q:Value->Shared->Prop}
  (e:s.heap.get? l=some { cls:=.type "list",data:=.seq bI.toArray n }) (hz:bI.length<sizeLine)
  (h:∀(h':Heap) (n' tk:Nat),h'.get? l=some { cls:=.type "list",data:=.seq (bI++[u]).toArray n' }->(∀b o,b≠l->s.heap.get? b=some o->h'.get? b=some o)->Q .none { s with heap:=h',toks:=tk }) :
  wpAny #[8] A (call (.builtin "list.append") [.ref l,u]) Q E s:=by
 refine qW F.slot_list_append ⟨_,e,rfl⟩ F.entry_list_append (F.args_list_append_2 _ _) (PySem.list_append l bI.toArray n u (by rw[aV];omega)) ⟨e,?_⟩
 have q:=PySem.IsL.update e (fun a=>a.push u)
 have q2:(s.heap.update l (Obj.mapSeq fun x=>x.push u)).get? l=some { cls:=.type "list",data:=.seq (bI++[u]).toArray (if ((bI.toArray.push u).size==bI.toArray.size)=true then n else n+1) }:=by
  rw[show(s.heap.update l (Obj.mapSeq fun x=>x.push u)).get? l=_ from q];simp
 exact h _ _ s.toks q2 fun b o hb ho=>(cK s.heap (Obj.mapSeq _) (Ne.symm hb)).trans ho
structure z_(X:Cx)(aj:List (Addr×Obj))(H:Hp)(s:Shared)(C:Addr)(m:Str->Option Value):Prop where
 ns:s.heap.Ns C m
 fr:H C=none
 nl:C≠X.env.locals
 nf:C∉X.fs
 hi:X.s₀.heap.objs.size<=C
 nc:∀x c,X.env.cells.lookup x=some c->c≠C
 np:∀p∈X.pn++aj,p.1≠C
theorem z_.off{m:Str->Option Value}(B:z_ X aj H s C m)(I:bT X aj σ H s)(hs:Heap.SameBut C s.heap h'):bT X aj σ H { s with heap:=h' }:=I.turned (t':=s.toks) (it:=C) (fun b o hb e=>hs.extBut b o hb e) B.fr B.nl (.inr B.hi) B.nc B.np
theorem FX{Me:List (Addr×Obj)}{σ2:St}{H1:Hp}{s2:Shared}
  (uL:∀(i j:Nat),cap[i]?=some (some j)->∃x,nm[i]?=some x/\X.N[j]?=some x/\u7 X scope cl x) (fX:cap.length=nm.length)
  (I2:bT X aj σ H1 s2) (R9:∀b∈fp,∀x c,X.env.cells.lookup x=some c->c≠b)
  (I:bT (e_ X nm scope cl C s2 H1 fp) Me σ2 H s):bT (e_ X nm scope cl C s2 H1 fp) Me (qd cap σ) H s:=by
 refine⟨I.ok,I.os,I.bare,I.base,?_,I.cell,I.free,I.freeC,I.pin,I.hok,by show(qd cap σ).length=nm.length;unfold qd;rw[aF];exact fX,I.pos,I.tk⟩
 obtain⟨m,hn,_⟩:=I.loc
 refine⟨m,hn,fun i x v e1 e2 e3=>?_⟩
 unfold qd at e2
 rw[aJ]at e2
 cases hc:cap[i]? with
 |none=>rw[hc]at e2;cases e2
 |some oj=>
  cases oj with
  |none=>rw[hc]at e2;cases e2
  |some j=>
   rw[hc]at e2
   have e2':(σ[j]?).join=some v:=by simpa using e2
   have e2:σ[j]?=some (some v):=by
    cases hs:σ[j]? with
    |none=>rw[hs]at e2';cases e2'
    |some ov=>rw[hs]at e2';simp at e2';rw[e2']
   obtain⟨x',f1,f2,k⟩:=uL i j hc
   have hx:x'=x:=by
    have z:nm[i]?=some x:=e1
    rw[f1]at z;exact bq z
   subst hx
   obtain⟨m2,_,hl2⟩:=I2.loc
   obtain⟨u,r,l⟩:=hl2 j x' v f2 e2 k.vis
   refine⟨u,r.up I.tk,?_⟩
   rcases l with⟨kl,_⟩|⟨_,c,hcc,hG⟩
   ·exact absurd kl k.nl
   ·refine .inr ⟨k.kd,c,by rw[<- hcc];exact k.cl,?_⟩
    exact I.base.cellK hG (I2.freeC _ _ hcc) fun z=>R9 c z _ _ hcc rfl
theorem B1{Qk:VK}(jH:X.calm=true)(wC:closureFor scope X.env=pure cl)(Bu:∀x c,cl.lookup x=some c->X.env.cells.lookup x=some c)
  (jG:scope.kind=.function) (qL:∀x∈scope.names,x.2=.local->scope.names.lookup x.1=some .local) (U1:∀y∈scope.names,y.2=.cell->cl.lookup y.1=none)
  (C_:∀x,scope.names.lookup x≠some .cell->#[11]->∃c,cl.lookup x=some c)
  (uL:∀(i j:Nat),cap[i]?=some (some j)->∃x,nm[i]?=some x/\X.N[j]?=some x/\u7 X scope cl x/\(x,NameKind.cell)∉scope.names) (fX:cap.length=nm.length)
  (hi:PI X tg d_ wi) (hg:∀k C s0 H0 fp,PG (e_ X nm scope (cellsFrom k scope.names []++cl) C s0 H0 fp) tg g) (ht:∀k C s0 H0 fp,FW (e_ X nm scope (cellsFrom k scope.names []++cl) C s0 H0 fp) mR tc)
  (he:∀k C s0 H0 fp,PE (e_ X nm scope (cellsFrom k scope.names []++cl) C s0 H0 fp) qU te) (hs:∀x,foldedSetIterable d_ X.env x=pure x)
  (I:bT X aj σ H s) (h:u6 cap wi g tc te σ H Qk) (kJ:∀(s4:Shared) (C D:Addr) (m4:Str->Option Value) (Hn:Hp),bT X aj σ Hn s4->z_ X aj Hn s4 C m4->Qk (.ref D) Hn->compPost #[3] X.A X.xe use Qv (.ref D) C (.ok .next) s4) :
  wpAny #[3] X.A (comprehension #[10] scope X.env (firstIterPos [⟨tg,d_,mR,0⟩] pos) (newList []) (firstAsync [⟨tg,d_,mR,0⟩]) (firstIter [⟨tg,d_,mR,0⟩] X.env) use) Qv X.xe s:=by
 refine wpAny_comprehension_free (use:=use) rfl hs wC jG qL (Da (hi aj s σ H _ I h) fun v s1 h1=>Da h1 fun Uh s2 h2=>?_)
 obtain⟨it,fp,tn,J,H1,e,I2,T,c5,f2,W,⟨m0,w0⟩,turn⟩:=h2
 subst e
 have hfpn:∀b∈fp,b<s2.heap.objs.size:=fun b hb=>let ⟨o,ho,_⟩:=T.obj _ _ c5 b hb;aH ho
 have hfpc:∀b∈fp,∀x c,X.env.cells.lookup x=some c->c≠b:=fun b hb=>(f2 b hb).2.2.2.2.1
 refine cz (JQ (fun h₁ hns₁ hsb₁ cok=>?_))
 dsimp only at hns₁ hsb₁ cok ⊢
 generalize hH2:s2.heap.push { cls:=.type "list",dict:=none,data:=.seq ([]:List Value).toArray }=G2 at hns₁ hsb₁ cok ⊢
 have hC:G2.objs.size=s2.heap.objs.size+1:=by rw[<- hH2,bv]
 have hDC:s2.heap.objs.size≠G2.objs.size:=by rw[hC];exact bd (b7 _)
 have old:∀b o,s2.heap.get? b=some o->h₁.get? b=some o:=fun b o e=>hsb₁ b o (hH2▸av _ e)
 have hacc:h₁.get? s2.heap.objs.size=some { cls:=.type "list",data:=.seq ([]:List Value).toArray }:=hsb₁ _ _ (hH2▸aC _ rfl)
 have both:∀y c,(cellsFrom (G2.objs.size+1) scope.names []++cl).lookup y=some c->(cellsFrom (G2.objs.size+1) scope.names []).lookup y=some c\/cl.lookup y=some c:=fun y c e=>by
  rw[i9]at e
  cases h:(cellsFrom (G2.objs.size+1) scope.names []).lookup y with
  |none=>rw[h]at e;exact .inr e
  |some b=>rw[h]at e;exact .inl e
 have ownhi:∀y c,(cellsFrom (G2.objs.size+1) scope.names []).lookup y=some c->h₁.IsCell c none/\G2.objs.size+1<=c:=fun y c e=>cok.empty y c (PySem.mem_of_lookup e)
 have cllow:∀y c,cl.lookup y=some c->c<s2.heap.objs.size:=fun y c e=>by obtain⟨v,hv⟩:=I2.cell y c (Bu _ _ e);exact hv.lt
 have hcap0:=uL
 have uL:∀(i j:Nat),cap[i]?=some (some j)->∃x,nm[i]?=some x/\X.N[j]?=some x/\u7 X scope (cellsFrom (G2.objs.size+1) scope.names []++cl) x:=fun i j e=>by
  obtain⟨x,q1,q2,k,q3⟩:=hcap0 i j e
  refine⟨x,q1,q2,k.vis,k.nl,?_,k.kd⟩
  rw[i9]
  cases h:(cellsFrom (G2.objs.size+1) scope.names []).lookup x with
  |none=>exact k.cl
  |some c=>
   rcases l7 _ _ _ (PySem.mem_of_lookup h)with z|z
   ·exact absurd z q3
   ·cases z
 have okB:#[2].Ok:=by
  refine⟨I2.ok.mod,jG,I2.ok.glob,I2.ok.blt,by show s2.heap.objs.size<=G2.objs.size;omega,fun x y c h1 h2=>?_,fun x hx=>?_,fun x c h0 hc=>?_,fun hc=>I2.ok.hd jH,I2.ok.frames,.inl rfl,?_,?_,?_,?_,?_,?_,?_⟩
  ·rcases both x c h1 with q1|q1<;>rcases both y c h2 with q2|q2
   ·exact name_of_addr cok.apart (PySem.mem_of_lookup q1) (PySem.mem_of_lookup q2)
   ·exact absurd (cllow y c q2) (i_.mpr (aN #[0] (ownhi x c q1).2))
   ·exact absurd (cllow x c q1) (i_.mpr (aN #[0] (ownhi y c q2).2))
   ·exact I2.ok.inj x y c (Bu _ _ q1) (Bu _ _ q2)
  ·show ∃c,(cellsFrom (G2.objs.size+1) scope.names []++cl).lookup x=some c
   rw[i9]
   by_cases hq:scope.names.lookup x=some .cell
   ·obtain⟨c,e⟩:=mB (n:=G2.objs.size+1) hq
    exact⟨c,by rw[e];rfl⟩
   ·obtain⟨c,e⟩:=C_ x hq hx
    cases h:(cellsFrom (G2.objs.size+1) scope.names []).lookup x with
    |none=>exact⟨c,e⟩
    |some b=>exact⟨b,rfl⟩
  ·have hq:scope.names.lookup x=some .cell:=by simpa using h0
   obtain⟨b,e⟩:=mB (n:=G2.objs.size+1) hq
   have hc:(cellsFrom (G2.objs.size+1) scope.names []++cl).lookup x=some c:=hc
   rw[i9,e]at hc
   cases hc
   have:=(ownhi x _ e).2
   show s2.heap.objs.size<=_
   omega
  ·intro b hb
   exact⟨bd (aP (hfpn b hb) (by show _<=G2.objs.size;omega)),fun x c hx=>(both x c hx).elim (fun q=>eh (aP (hfpn b hb) (aN #[0] (ownhi x c q).2))) fun q=>hfpc b hb x c (Bu _ _ q)⟩
  ·exact fun b o hb=>I2.bs b o hb
  ·exact aN I2.ok.bsz I2.sz
  ·intro b o hb z
   rcases(f2 b z).2.2.2.1 with q|q
   ·exact I2.ok.noex b o hb q
   ·exact absurd (aH (I2.ok.bs b o hb).1) (i_.mpr q)
  ·intro b hb z
   rcases aT.mp (I2.stkSub b z)with q|q
   ·exact(f2 b hb).2.1 q
   ·exact(f2 b hb).2.2.1 q
  ·exact I2.stack
  ·exact I2.stkFree
 have I4:bT #[2] [] (qd cap σ) H1 { s2 with heap:=h₁ }:=by
  refine FX uL fX I2 hfpc (σ2:=List.replicate nm.length none) ⟨okB,rfl,I2.bare,Un.kept old,⟨_,hns₁,fun i x v _ e2=>?_⟩,fun x c hx=>?_,?_,fun x c hx=>(both x c hx).elim (fun q=>I2.hok.fresh (by have:=(ownhi x c q).2;omega)) fun q=>I2.freeC x c (Bu _ _ q),fun p hp=>absurd hp #[15],I2.hok.kept old,by simp,I2.pos,az _⟩
  ·rw[jf]at e2;split at e2<;>cases e2
  ·rcases both x c hx with q|q
   ·exact⟨none,(ownhi x c q).1⟩
   ·obtain⟨v,hv⟩:=I2.cell x c (Bu _ _ q)
    exact⟨v,hv.keeps old⟩
  ·exact I2.hok.fresh (by show _<=G2.objs.size;omega)
 have hsz0:∀{Hx:Hp} {sx:Shared} {px:List (Addr×Obj)} {σx:St},bT #[2] px σx Hx sx->Hx s2.heap.objs.size=none->∀{oa:Obj},sx.heap.get? s2.heap.objs.size=some oa->(∀v,oa.data≠.cell v) ->
   bT #[2] [(s2.heap.objs.size,oa)] σx Hx sx:=fun{Hx sx px σx} Ix hn {oa} ho hd=>Ix.pins_of fun p hp=>by
  have e:p=(s2.heap.objs.size,oa):=by simpa using hp
  subst e
  exact⟨ho,hn,hDC,fun z=>by
   obtain⟨_,o,q,_⟩:=I2.stack.mem z
   exact absurd (aH q) (dL _),hd⟩
 have hfpB:∀{Hx:Hp} {oa:Obj},(∀b∈fp,Hx b=none)->∀b∈fp,sH #[2] [(s2.heap.objs.size,oa)] Hx b:=fun{Hx oa} hn b hb=>
  ⟨hn b hb,(okB.exf b hb).1,okB.exfs b hb,.inl hb,(okB.exf b hb).2,fun p hp=>by
   have e:p=(s2.heap.objs.size,oa):=by simpa using hp
   subst e
   exact eh (hfpn b hb)⟩
 have hcalmB:#[2].calm=true:=jH
 have loop:∀sx:Shared,sx={ s2 with heap:=h₁ } ->
   codeAny #[3] X.A (.compLoop #[10] 0 (.ref it) (.ref s2.heap.objs.size) (compEnvC scope (cellsFrom (G2.objs.size+1) scope.names []++cl) G2.objs.size X.env))
    (compPost #[3] X.A X.xe use Qv (.ref s2.heap.objs.size) G2.objs.size) sx:=by
  rintro sx rfl
  refine codeAny_loop rfl (fun n s'=>∃i ys H',bT #[2] [] (qd cap σ) H' s'/\tn i s'.heap/\(∀b∈fp,H' b=none)/\H' s2.heap.objs.size=none /\
   (∃bI k,cL s'.toks ys bI/\s'.heap.get? s2.heap.objs.size=some { cls:=.type "list",data:=.seq bI.toArray k })/\W i n ys H') ?_ m0
   ⟨0,[],H1,I4,T.keep _ _ _ c5 (fun b _ o e=>old b o e),fun b hb=>(f2 b hb).1,I2.fresh,⟨[],0,.nil,hacc⟩,w0⟩
  rintro n s3 ⟨i,ys,H3,I3,lW,fr3,na3,⟨bI,ka,rv,ea⟩,w3⟩
  show wpAny _ X.A ((compTurn #[10] 0 (.ref it) (.ref s2.heap.objs.size) (compEnvC scope (cellsFrom (G2.objs.size+1) scope.names []++cl) G2.objs.size X.env)).onRaise (fun x=>do noteFrame x (compEnvC scope (cellsFrom (G2.objs.size+1) scope.names []++cl) G2.objs.size X.env);theTreesLotGoes x)) _ _ s3
  refine wpAny_noted ?_
  rw[compTurn_list]
  refine af (qr ?_)
  have I3p:=hsz0 I3 na3 ea (fun v z=>by cases z)
  rcases turn i n ys H3 w3 with⟨stop,hz,qn⟩|⟨go,step⟩
  ·refine af (sM (T.done #[2] rfl rfl rfl hcalmB i _ s3 _ H3 (fun _ _=>False) I3p (hfpB fr3) lW stop) (fun r s4 kt4 hr=>?_))
   obtain⟨hr,I4'⟩:=hr
   subst hr
   refine ay ?_
   obtain⟨m4,hn4,_⟩:=id I4'.loc
   have pa:=I4'.pin (s2.heap.objs.size,{ cls:=.type "list",data:=.seq bI.toArray ka }) #[15]
   have ne:∀b o,s2.heap.get? b=some o->b≠s2.heap.objs.size/\b≠G2.objs.size:=fun b o e=>⟨bd (aH e),bd (by rw[hC];exact cU (aH e))⟩
   have I5:bT X aj σ (fW H3 s2.heap.objs.size (.lst ys)) s4:=by
    refine I2.call' (ch:=fp) I4'.os ⟨fun b o e n hb hx=>?_,fun b o e n hb hx=>?_,fun b o e n hx=>?_,fun b o e hx=>?_,fun b xs e=>?_,fun b o u e=>?_,fun b ps e=>?_⟩ ?_ I4'.bare (fun b hb=>?_) I4'.tk
    ·exact I4'.base.keep b o e n hb hx
    ·exact I4'.base.slot b o e n hb hx
    ·rw[c_ (ne b o e).1];exact I4'.base.free b o e n hx
    ·exact I4'.base.there b o e hx
    ·have q:=I4'.base.tups b xs e
     rw[c_ (fB q na3)];exact q
    ·have q:=I4'.base.frzs b o u e
     rw[c_ (fB q na3)];exact q
    ·obtain⟨mr,q⟩:=I4'.base.tbls b ps e
     exact⟨mr,by rw[c_ (fB q na3)];exact q⟩
    ·intro b o e
     by_cases hb:b=s2.heap.objs.size
     ·subst hb
      rw[gJ]at e;cases e
      exact⟨hz,bI,ka,rv.up kt4,pa.1⟩
     ·rw[c_ hb]at e
      exact(I4'.hok b o e).stay (fun c u hc q=>q) (fun c q=>by rw[c_ (fB q na3)];exact q) fun c xs q=>by rw[c_ (fB q na3)];exact q
    ·obtain⟨_,g1,_,g3,g4,g5⟩:=f2 b hb
     exact⟨g3,g1,g4,g5⟩
   have lC:s2.heap.objs.size<=G2.objs.size:=by rw[hC];exact bp _
   exact kJ s4 G2.objs.size _ m4 _ I5 ⟨hn4,by rw[c_ (Ne.symm hDC)];exact I4'.free,eh (aP I2.lt lC),I2.nofs lC,aN I2.sz lC,fun x c hx z=>(by
    obtain⟨v,o,ho,_⟩:=I2.cell x c hx
    exact absurd (aH ho) (by rw[z];exact i_.mpr lC)),fun p hp z=>(by
    have:=(I2.pin p hp).1
    exact absurd (aH this) (by rw[z];exact i_.mpr lC))⟩ (qn _ na3)
  ·refine af (sM (T.item #[2] rfl rfl rfl hcalmB i _ s3 _ H3 (fun _ _=>False) I3p (hfpB fr3) lW go) (fun r s4 kt4 hr=>?_))
   obtain⟨u,hr,h4⟩:=hr
   subst hr
   dsimp only
   refine af (sM h4 (fun _ s5 kt5 h5=>?_))
   obtain⟨x,H5,I5,r5,y5,st5,fr5⟩:=h5
   have I5':=I5.pinned (hfpB fr5) (T.obj _ _ st5)
   refine af (sM (hg _ _ _ _ _ _ s5 _ H5 x u _ I5' r5 (step x H5 y5)) (fun _ s6 kt6 h6=>?_))
   obtain⟨σ6,H6,I6,q6⟩:=h6
   refine af (sM (ht _ _ _ _ _ _ s6 σ6 H6 _ I6 q6) (fun ok s7 kt7 h7=>?_))
   obtain⟨H7,I7,q7⟩:=h7
   have back:∀{H8:Hp} {s8:Shared} {Pv:List V} {its':List Value} {k':Nat},bT #[2] [] σ6 H8 s8->(∀b∈fp,∀o,s5.heap.get? b=some o->s8.heap.get? b=some o)->(∀b∈fp,H8 b=none)->H8 s2.heap.objs.size=none ->
     cL s8.toks Pv its'->s8.heap.get? s2.heap.objs.size=some { cls:=.type "list",data:=.seq its'.toArray k' }->(∃m',m'<n/\W (i+1) m' Pv H8) ->
     ∃m,m<n/\∃i ys H',bT #[2] [] (qd cap σ) H' s8/\tn i s8.heap/\(∀b∈fp,H' b=none)/\H' s2.heap.objs.size=none /\
      (∃bI k,cL s8.toks ys bI/\s8.heap.get? s2.heap.objs.size=some { cls:=.type "list",data:=.seq bI.toArray k })/\W i m ys H':=
    fun{H8 s8 Pv its' k'} I8 kf f8 n8 rv8 e8 ⟨m',hm,w8⟩=>⟨m',hm,i+1,Pv,H8,FX uL fX I2 hfpc I8,T.keep _ _ _ st5 kf,f8,n8,⟨its',k',rv8,e8⟩,w8⟩
   cases ok with
   |false=>
    refine ay ⟨rfl,?_⟩
    have q7':∃m',m'<n/\W (i+1) m' ys H7:=by simpa using q7
    have pa:=I7.pin (s2.heap.objs.size,{ cls:=.type "list",data:=.seq bI.toArray ka }) #[15]
    refine back (I7.pins_of fun p hp=>absurd hp #[15]) (fun b hb o e=>?_) (fun b hb=>?_) pa.2.1 (rv.up #[0]) pa.1 q7'
    ·exact(I7.pin (b,o) (aR _ (aR _ (jJ hb e)))).1
    ·obtain⟨o,e,d⟩:=T.obj _ _ st5 b hb
     exact(I7.pin (b,o) (aR _ (aR _ (jJ hb e)))).2.1
   |true=>
    rw[aE rfl]at q7
    refine af (af (sM (he _ _ _ _ _ _ s7 σ6 H7 _ I7 q7) (fun xv s8 kt8 h8=>?_)))
    obtain⟨y,H8,I8,r8,hzy,q8⟩:=h8
    have pa:=I8.pin (s2.heap.objs.size,{ cls:=.type "list",data:=.seq bI.toArray ka }) #[15]
    refine af (up (yz pa.1 (by rw[<- rv.length];exact hzy) fun h' k' tk e9 sb hk=>?_))
    refine ay (ay ⟨rfl,?_⟩)
    have I9:bT #[2] [] σ6 H8 { s8 with heap:=h',toks:=tk }:=
     (bT.pins_of (pins':=[]) I8 fun p hp=>absurd hp #[15]).turned (it:=s2.heap.objs.size) (fun b o hb e=>sb b o hb e) pa.2.1 hDC (.inr (az _)) (fun x c hx z=>by
      rcases both x c hx with q|q
      ·exact i_.mpr (ownhi x c q).2 (by rw[z];omega)
      ·exact dL _ (by have:=cllow x c q;rw[z]at this;exact this)) (fun p hp=>absurd hp #[15])
    refine back I9 (fun b hb o e=>?_) (fun b hb=>?_) pa.2.1 ((rv.up #[0]).append (.cons (r8.up hk) .nil)) e9 q8
    ·exact sb b o (bd (hfpn b hb)) (I8.pin (b,o) (aR _ (aR _ (jJ hb e)))).1
    ·obtain⟨o,e,d⟩:=T.obj _ _ st5 b hb
     exact(I8.pin (b,o) (aR _ (aR _ (jJ hb e)))).2.1
 exact codeAny_compStart_list (loop _ rfl) (T.self _ _ _ _ _ (T.keep _ _ _ c5 fun b _ o e=>old b o e) (loop _ rfl))
theorem q9:∀(names:List (Str×NameKind)) (n:Nat),(∀y∈names,y.2≠.cell)->cellsFrom n names []=[]
 |[],_,_=>rfl
 |(x,k)::r,n,h=>by
  show(if k==.cell then cellsFrom (n+1) r [(x,n)]else cellsFrom n r [])=[]
  rw[aL (by have:=h (x,k) #[15];simpa using this)]
  exact q9 r n fun y hy=>h y (by simp[hy])
theorem xq{Qk:VK}(jH:X.calm=true)(wC:closureFor scope X.env=pure cl)(Bu:∀x c,cl.lookup x=some c->X.env.cells.lookup x=some c)
  (jG:scope.kind=.function) (qL:∀x∈scope.names,x.2=.local->scope.names.lookup x.1=some .local) (hG:∀y∈scope.names,y.2≠.cell)
  (C_:∀x,#[11]->∃c,cl.lookup x=some c)
  (uL:∀(i j:Nat),cap[i]?=some (some j)->∃x,nm[i]?=some x/\X.N[j]?=some x/\u7 X scope cl x) (fX:cap.length=nm.length)
  (hi:PI X tg d_ wi) (hg:∀C s0 H0 fp,PG #[9] tg g) (ht:∀C s0 H0 fp,FW #[9] mR tc)
  (he:∀C s0 H0 fp,PE #[9] qU te) (hs:∀x,foldedSetIterable d_ X.env x=pure x)
  (I:bT X aj σ H s) (h:u6 cap wi g tc te σ H Qk) (kJ:∀(s4:Shared) (C D:Addr) (m4:Str->Option Value) (Hn:Hp),bT X aj σ Hn s4->z_ X aj Hn s4 C m4->Qk (.ref D) Hn->compPost #[3] X.A X.xe use Qv (.ref D) C (.ok .next) s4) :
  wpAny #[3] X.A (comprehension #[10] scope X.env (firstIterPos [⟨tg,d_,mR,0⟩] pos) (newList []) (firstAsync [⟨tg,d_,mR,0⟩]) (firstIter [⟨tg,d_,mR,0⟩] X.env) use) Qv X.xe s:=by
 have nc:∀k,cellsFrom k scope.names []++cl=cl:=fun k=>by rw[q9 _ _ hG];rfl
 have nx:∀C s0 H0 fp,e_ X nm scope cl C s0 H0 fp=dY X nm scope cl C s0 H0 fp:=fun C s0 H0 fp=>by
  have:(fun y=>scope.names.lookup y==some .cell)=fun _=>false:=funext fun y=>by
   rw[bz]
   exact fun e=>hG _ (ja e) rfl
  unfold e_ dY
  rw[this]
 exact B1 jH wC Bu jG qL (fun y hy h=>absurd h (hG y hy)) (fun x _ h=>C_ x h) (fun i j h=>let ⟨x,a,b,d⟩:=uL i j h;⟨x,a,b,d,fun z=>hG _ z rfl⟩) fX hi
  (fun k C s0 H0 fp=>by rw[nc,nx];exact hg C s0 H0 fp) (fun k C s0 H0 fp=>by rw[nc,nx];exact ht C s0 H0 fp) (fun k C s0 H0 fp=>by rw[nc,nx];exact he C s0 H0 fp) hs I h kJ
theorem JR(jH:X.calm=true)(wC:closureFor scope X.env=pure cl)(Bu:∀x c,cl.lookup x=some c->X.env.cells.lookup x=some c)
  (jG:scope.kind=.function) (qL:∀x∈scope.names,x.2=.local->scope.names.lookup x.1=some .local) (hG:∀y∈scope.names,y.2≠.cell)
  (C_:∀x,#[11]->∃c,cl.lookup x=some c)
  (uL:∀(i j:Nat),cap[i]?=some (some j)->∃x,nm[i]?=some x/\X.N[j]?=some x/\u7 X scope cl x) (fX:cap.length=nm.length)
  (hi:PI X tg d_ wi) (hg:∀C s0 H0 fp,PG #[9] tg g) (ht:∀C s0 H0 fp,FW #[9] mR tc)
  (he:∀C s0 H0 fp,PE #[9] qU te) (hs:∀x,foldedSetIterable d_ X.env x=pure x:=by intro _;rfl) :
  PE X #[10] (u6 cap wi g tc te):=by
 intro aj s σ H Q I h
 rw[eval_ListComp]
 exact xq jH wC Bu jG qL hG C_ uL fX hi hg ht he hs I h fun s4 C D m4 Hn I4 B q=>⟨m4,B.ns,fun h' hs'=>⟨.ref D,Hn,B.off I4 hs',rfl,q⟩⟩
end
end L2
namespace L2
open PySem PySem.Spec PyProof.Rows
noncomputable def tx(l:List Nat):Str:=⟨l.toArray⟩
theorem M8(l:List Nat):(tx l).cps.toList=l:=rfl
theorem Qi(z:Str):tx z.cps.toList=z:=by cases z;rfl
theorem i6(l:List Nat):(tx l).length=l.length:=by show l.toArray.size=_;simp
theorem B2(a b:List Nat):tx a++tx b=tx (a++b):=by
 show(⟨a.toArray++b.toArray⟩:Str)=⟨(a++b).toArray⟩
 simp
theorem yA{a b:List Nat}:tx a=tx b↔a=b:=⟨fun h=>by have:=ib (fun z:Str=>z.cps.toList) h;exact this,fun h=>by rw[h]⟩
noncomputable def Tv(uH:List V):It:=⟨fun i _=>i<uH.length,fun i H x H'=>H'=H/\uH[i]?=some x,fun i _=>uH.length<=i⟩
section
def jm(l:List Nat):List V:=l.map fun c=>.str (tx [c])
def Tw(tl:TE):TI:=fun σ H R=>tl σ H fun x H1=>∃l,x=.str (tx l)/\R (Tv (jm l)) H1
theorem u8{w:World}{K:Frag}{tg:Expr}{l:List Nat}{t:Tok}{ty:String}(C6:["enumerate","zip","dict_itemiterator","dict_reverseitemiterator","odict_iterator","itertools.zip_longest","itertools.pairwise"].contains ty=false)
  (next:∀{A:Around} {s:Shared} {i c:Nat} {Q:Option Value->Shared->Prop} {E:Value->Shared->Prop},s.heap.IsStrIter it ty (tx l) t i->(tx l).cps[i]?=some c ->
   (∀h',h'.IsStrIter it ty (tx l) t (i+1)->Heap.SameBut it s.heap h'->Q (some (.str ⟨#[c]⟩ s.toks)) { s with heap:=h',toks:=s.toks+1 })->wpAny (model P w) A (pyNext (.ref it)) Q E s)
  (stop:∀{A:Around} {s:Shared} {i:Nat} {Q:Option Value->Shared->Prop} {E:Value->Shared->Prop},A.handled=none->s.heap.IsStrIter it ty (tx l) t i->(tx l).cps[i]?=none ->
   (∀h',Heap.ExtBut it s.heap h'->Q none { s with heap:=h' })->wpAny (model P w) A (pyNext (.ref it)) Q E s)
  (R_:∀(A:Around) (i:Nat) (s:Shared) (Q:Value->Shared->Prop) (E:Value->Shared->Prop),s.heap.IsStrIter it ty (tx l) t i->Q (.ref it) s->wpAny (model P w) A (pyIter (.ref it)) Q E s) :
  BI P w K tg (Tv (jm l)) [it] it (fun i h=>h.IsStrIter it ty (tx l) t i) where
 mem:=by simp
 obj:=fun i h st b hb=>by
  have e:b=it:=by simpa using hb
  subst e
  obtain⟨o,e,_,d⟩:=st
  exact⟨o,e,fun v z=>by rw[d]at z;cases z⟩
 keep:=fun i h h' st k=>by
  obtain⟨o,e,r⟩:=st
  exact⟨o,k it #[15] o e,r⟩
 item:=by
  intro X hP hw hK hc i aj s σ H E I hf st hg
  subst hP hw hK
  obtain⟨f0,f1,f2,f3,f4,f5⟩:=hf it #[15]
  have hg:i<l.length:=by have hg:i<(jm l).length:=hg;simpa[jm]using hg
  obtain⟨c,hx⟩:∃c,l[i]?=some c:=⟨_,aq hg⟩
  refine next st (c:=c) (by simpa[tx]using hx) fun h' bn hs=>?_
  have I1:bT X aj σ H { s with heap:=h',toks:=s.toks+1 }:=I.turned (fun b o hb e=>hs.extBut b o hb e) f0 f1 f3 f4 f5
  obtain⟨o,e,cl,d⟩:=id bn
  exact⟨_,rfl,Db (s:={ s with heap:=h',toks:=s.toks+1 }) e cl d C6 ⟨.str (tx [c]),H,I1,I.tkS,⟨rfl,by unfold jm;rw[aJ,hx];rfl⟩,bn,fun b hb=>(hf b hb).1⟩⟩
 done:=by
  intro X hP hw hK hc i aj s σ H E I hf st hg
  subst hP hw hK
  obtain⟨f0,f1,f2,f3,f4,f5⟩:=hf it #[15]
  have hg:l.length<=i:=by have hg:(jm l).length<=i:=hg;simpa[jm]using hg
  exact stop (I.ok.hd hc) st (by simpa[tx]using hg) fun h' hs=>⟨rfl,I.turned (t':=s.toks) (fun b o hb e=>hs b o hb e) f0 f1 f3 f4 f5⟩
 self:=fun A i s Q E st h=>R_ A i s Q E st h
theorem M9{l:Expr}{tl:TE}(hl:PE X l tl):PI X tg l (Tw tl):=by
 intro aj s σ H R I h
 refine jC (hl aj s σ H _ I h) fun v s1 kt1 zq=>?_
 obtain⟨x,H1,I1,r1,q1⟩:=zq
 obtain⟨l,e,q⟩:=q1
 subst e
 obtain⟨t,rfl⟩:=r1
 have fp:∀b∈[s1.heap.objs.size],sH X aj H1 b:=fun b hb=>by
  have e:b=s1.heap.objs.size:=by simpa using hb
  subst e
  exact I1.fpOk (az _) (I1.hok.fresh (az _))
 cases ha:(tx l).cps.all (· < 128)
 ·exact lX ha ⟨s1.heap.objs.size,[s1.heap.objs.size],_,_,H1,rfl,I1.kept (t':=s1.toks) fun b o e=>av _ e,u8 (l:=l) (t:=t.1) (ty:="str_iterator") #[12] (fun a b c=>jy a b c) (fun hh a b c=>wpAny_pyNext_wide_end hh a b c) (fun A i s Q E st h=>wpAny_pyIter_striter_wide st h),⟨_,aC _ rfl,rfl,rfl⟩,fp,q⟩
 ·exact lD ha ⟨s1.heap.objs.size,[s1.heap.objs.size],_,_,H1,rfl,I1.kept (t':=s1.toks) fun b o e=>av _ e,u8 (l:=l) (t:=t.1) (ty:="str_ascii_iterator") #[12] (fun a b c=>jg a b c) (fun hh a b c=>wpAny_pyNext_ascii_end hh a b c) (fun A i s Q E st h=>wpAny_pyIter_striter_ascii st h),⟨_,aC _ rfl,rfl,rfl⟩,fp,q⟩
noncomputable def B3(l:List Nat)(lo hi:Option Int):List Nat:=(l.drop (HT.sIx l.length 0 lo)).take (HT.sIx l.length l.length hi-HT.sIx l.length 0 lo)
theorem Aa(l:List Nat)(lo hi:Option Int):(B3 l lo hi).length<=l.length:=by unfold B3;rw[aM,cx];omega
theorem B4(l:List Nat)(i k:Nat):((List.range k).map fun(m:Nat)=>i+m).filterMap (fun j=>l[j]?)=(l.drop i).take k:=by
 induction k generalizing i with
 |zero=>simp
 |succ k ih=>
  rw[nu,aU,b9]
  have e:((fun m=>i+m)∘Nat.succ)=fun m=>(i+1)+m:=by funext m;simp[Function.comp];omega
  rw[e]
  by_cases h:i<l.length
  ·rw[gc]
   simp only[sA,aq h]
   rw[ih (i+1),fQ h,List.take_succ_cons]
  ·rw[gc]
   have h':l.length<=i:=by omega
   simp only[sA,cm h']
   rw[ih (i+1),nv h',nv #[0]]
   simp
theorem K4(v:Int)(n d:Nat):(if (1:Int)>0 then max 0 (min (if v<0 then v+(n:Int)else v) (n:Int))else max (-1) (min (if v<0 then v+(n:Int)else v) ((n:Int)-1)))=((HT.sIx n d (some v):Nat):Int):=by
 rw[aE #[0]]
 show _=(((if v<0 then(v+(n:Int)).toNat else min v.toNat n):Nat):Int)
 by_cases hv:v<0
 ·simp only[aE hv];omega
 ·simp only[aL hv];omega
theorem M_(lo hi:Option Int)(n:Nat):Builtin.Str.strSliceIndices lo hi 1 n=(List.range (HT.sIx n n hi-HT.sIx n 0 lo)).map fun(m:Nat)=>HT.sIx n 0 lo+m:=by
 have key:∀a b:Nat,sliceRange (a:Int) (b:Int) 1=(List.range (b-a)).map fun(m:Nat)=>a+m:=fun a b=>by
  unfold sliceRange
  have e:(if (1:Int)>0 then(if (a:Int)<(b:Int)then((b:Int)-a+1-1)/1 else 0)else(if (a:Int)>b then((a:Int)-b-1-1)/(-1)else 0)).toNat=b-a:=by
   rw[aE #[0]]
   by_cases h:(a:Int)<b
   ·rw[aE h];omega
   ·rw[aL h];omega
  dsimp only
  rw[e]
  refine eY fun k _=>?_
  omega
 unfold Builtin.Str.strSliceIndices
 rw[<- key]
 dsimp only
 congr 1
 ·cases lo with
  |none=>rfl
  |some v=>exact K4 v n 0
 ·cases hi with
  |none=>rfl
  |some v=>exact K4 v n n
theorem FY(l:List Nat)(lo hi:Option Int):Txt.slice (tx l) lo hi=tx (B3 l lo hi):=by
 unfold Txt.slice
 rw[M_,i6]
 split
 ·rename_i h
  simp only[beq_self_eq_true,Bool.true_and,dg,aF,List.length_range]at h
  unfold B3
  have h1:=HT.sIx_le l.length l.length (az _) hi
  have h2:=HT.sIx_le l.length 0 (cn _) lo
  by_cases hz:l.length=0
  ·have:l=[]:=gz hz
   subst this;simp
  ·have e0:HT.sIx l.length 0 lo=0:=by omega
   rw[e0,List.drop_zero,bB #[0]]
 ·unfold B3 tx
  have:∀j:Nat,(l.toArray)[j]?=l[j]?:=fun j=>by simp
  simp only[this]
  rw[B4]
def Tx:V->Option Int->Option Int->Hp->VK->Prop:=fun x lo hi H Q=>∃l,x=.str (tx l)/\l.length<=sizeLine/\Q (.str (tx (B3 l lo hi))) H
theorem Dj{o:Option Int}(p:IsPart v o):∃q:Option (Int×Tok),v=partValue q/\q.map (·.1)=o:=by
 cases p with
 |none=>exact⟨none,rfl,rfl⟩
 |int i t=>exact⟨some (i,t),rfl,rfl⟩
theorem M':P_ X Tx:=by
 intro aj s σ H x v vl vu lo hi sl Q I rx hs pl pu h
 obtain⟨l,e,hz,q⟩:=h
 subst e
 obtain⟨t,rfl⟩:=rx
 obtain⟨pl',rfl,rfl⟩:=Dj pl
 obtain⟨pu',rfl,rfl⟩:=Dj pu
 refine⟨"str",_,F.slot_str_getitem.lookup,ly _ _ _,?_⟩
 refine wpAny_getItem_str_slice (l:=pl') (u:=pu') (st:=none) hs rfl ?_
 have e:=FY l (pl'.map (·.1)) (pu'.map (·.1))
 unfold Txt.slice at e
 have hl:(tx (B3 l (pl'.map (·.1)) (pu'.map (·.1)))).length<=sizeLine:=by rw[i6];exact aN (Aa l _ _) hz
 show(if ((1:Int)==1&&(Builtin.Str.strSliceIndices (pl'.map (·.1)) (pu'.map (·.1)) 1 (tx l).length).length==(tx l).length)=true then Made.val (.str (tx l) t.1)else Made.str ⟨((Builtin.Str.strSliceIndices (pl'.map (·.1)) (pu'.map (·.1)) 1 (tx l).length).filterMap ((tx l).cps[·]?)).toArray⟩).post (EP X aj σ Q) s
 split
 ·rename_i hc
  rw[aE hc]at e
  rw[<- e]at q
  exact⟨.str (tx l),H,I,⟨t,rfl⟩,q⟩
 ·rename_i hc
  rw[aL hc]at e
  rw[e]
  exact⟨hl,⟨.str _,H,I.tok _,I.tkS,q⟩⟩
theorem Na(c:Nat)(l:List Nat):(!(Builtin.Str.occurrences (tx l) (tx [c]) 0 (tx l).length 1).isEmpty)=decide (c∈l):=StrLaws.found_one (tx l) c
def Ty(Sf:Bool):R2:=fun x y H Q=>∃c l,x=.str (tx [c])/\y=.str (tx l)/\Q (.bl (if Sf then !decide (c∈l)else decide (c∈l))) H
theorem Et:oo X (compareOp .In) (Ty false):=by
 intro aj s σ H x y v u Q I rx ry h
 obtain⟨c,l,rfl,rfl,q⟩:=h
 exact Ee aj s σ H _ _ v u Q I rx ry ⟨_,_,rfl,rfl,by rw[Na];exact q⟩
theorem u9:∀{ys:List (List Nat)} {bI:List Value},cL nk (ys.map fun l=>V.str (tx l)) bI->StrsAre bI (ys.map tx)
 |[],_,r=>by cases r;exact .nil
 |y::ys,_,r=>by
  cases r with
  |cons r rr=>
   obtain⟨t,rfl⟩:=r
   exact .cons _ _ (u9 rr)
def iL(n:Nat)(bI:List Value):Prop:=∀(x:Str) (t:Tok),Value.str x t∈bI->x.length=1->0<t/\t<n
theorem mT:∀{bI:List Value} {ss:List Str},StrsAre bI ss->iL nk bI->cL nk (ss.map fun z=>V.str z) bI
 |_,_,.nil,_=>.nil
 |_,_,.cons y t r,h=>.cons ⟨⟨t,h y t bC⟩,rfl⟩ (mT r fun x u hx=>h x u (aS _ hx))
theorem q_:∀{vs:List V} {bI:List Value},cL nk vs bI->iL nk bI
 |_,_,.nil=>fun _ _ h=>nomatch h
 |v::_,_,.cons r t=>fun x u hx=>by
  rcases aT.mp hx with e|hx
  ·subst e
   cases v with
   |str y=>obtain⟨tk,e⟩:=r;cases e;exact tk.2
   |non=>cases r
   |bl b=>cases r
   |int i=>obtain⟨_,e⟩:=r;cases e
   |byt b=>obtain⟨_,e⟩:=r;cases e
   |flt b=>obtain⟨_,e⟩:=r;cases e
   |ref a=>cases r
   |ty n=>cases r
  ·exact q_ t x u hx
theorem Dk:∀{ys:List (List Nat)} {bI:List Value},cL nk (ys.map fun l=>V.str (tx l)) bI->∃zs:List (Str×Tok),bI=strValues zs/\zs.map (·.1)=ys.map tx
 |[],_,r=>by cases r;exact⟨[],rfl,rfl⟩
 |y::ys,_,r=>by
  cases r with
  |cons r rr=>
   obtain⟨t,rfl⟩:=r
   obtain⟨zs,rfl,e⟩:=Dk rr
   exact⟨(tx y,t.1)::zs,rfl,by rw[aU,aU,e]⟩
noncomputable def kX(sep:List Nat):List (List Nat)->List Nat
 |[]=>[]
 |[x]=>x
 |x::y::r=>x++sep++kX sep (y::r)
theorem mC:∀ys:List (List Nat),kX [] ys=ys.flatten
 |[]=>rfl
 |[x]=>by simp[kX]
 |x::y::r=>by rw[kX,mC (y::r)];simp
theorem Dl(sep:List Nat):∀ys:List (List Nat),Txt.join (tx sep) (ys.map tx)=tx (kX sep ys):=fun ys=>by
 show Builtin.Str.glued (tx sep) (ys.map tx)=_
 rw[gZ]
 induction ys with
 |nil=>rfl
 |cons x r ih=>
  cases r with
  |nil=>rfl
  |cons y r=>
   show tx x++tx sep++Str.join (tx sep) ((y::r).map tx)=tx (x++sep++kX sep (y::r))
   rw[ih,B2,B2]
def Qj(K:Frag):V->List V->Hp->VK->Prop:=fun x vs H Q=>∃(sep:List Nat) (a:Addr) (ys:List (List Nat)),x=.str (tx sep)/\vs=[.ref a]/\sF K H a (ys.map fun l=>V.str (tx l))/\(ys.map List.length).sum+ys.length*sep.length<=16777216/\Q (.str (tx (kX sep ys))) H
theorem bT.joinS{Q:VK}{sep:Str}{zs:List (Str×Tok)}(I:bT X aj σ H s)(hl:(Builtin.Str.glued sep (zs.map (·.1))).length<=sizeLine)(hk:iL s.toks (strValues zs))(q:Q (.str (Txt.join sep (zs.map (·.1)))) H):(joinMade sep zs).post (EP X aj σ Q) s:=by
 have kJ:(Made.str (Builtin.Str.glued sep (zs.map (·.1)))).post (EP X aj σ Q) s:=⟨hl,⟨.str _,H,I.tok _,I.tkS,q⟩⟩
 cases zs with
 |nil=>exact kJ
 |cons p r=>
  cases r with
  |nil=>
   have e:Txt.join sep [p.1]=p.1:=by
    show Builtin.Str.glued sep [p.1]=_
    rw[gZ];rfl
   rw[show([p]:List (Str×Tok)).map (·.1)=[p.1]from rfl,e]at q
   exact⟨.str p.1,H,I,⟨⟨p.2,hk p.1 p.2 (by simp[strValues])⟩,rfl⟩,q⟩
  |cons _ _=>exact kJ
theorem JS:Em X "str.join" (Qj X.K):=by
 intro aj s σ H x vs v us Q I rx rv h
 obtain⟨sep,a,ys,rfl,rfl,hS,hz,q⟩:=h
 obtain⟨t,rfl⟩:=rx
 obtain⟨u,rfl,ru⟩:=rv.one
 cases ru
 obtain⟨bI,r,p,_⟩:=I.list hS
 have hk:iL s.toks bI:=q_ r
 obtain⟨zs,rfl,ez⟩:=Dk (by simpa using r)
 have hok:JoinOk (tx sep) (zs.map (·.1))=true:=joinOk_of (by
  rw[ez,b9,i6,aF]
  have e:((fun z:Str=>z.length)∘tx)=List.length:=by funext l;exact i6 l
  rw[e];exact hz)
 have hj:=hok
 unfold JoinOk at hj
 rw[hV]at hj
 exact qW F.slot_str_join (ly _ _ _) F.entry_str_join (F.args_str_join_2 _ _) (meets_str_join_list (tx sep) t.1 a zs hj) ⟨p.isList,I.joinS (joinFit_length hj) hk (by rw[ez,Dl];exact q)⟩
end
end L2
namespace L2
open PySem PySem.Spec PyProof.Rows
inductive D where
 |non|bl (b:Bool)|int (i:Int)|str (l:List Nat)|tnil|tcons (d r:D)
 deriving DecidableEq
structure fw(K:Frag)(H H':Hp):Prop where
 t:∀p xs,f_ K H p xs->f_ K H' p xs
 z:∀b o u,H b=some (.frz o u)->H' b=some (.frz o u)
instance {K:Frag} {H H':Hp}:CoeFun (fw K H H') (fun _=>∀p xs,f_ K H p xs->f_ K H' p xs):=⟨fw.t⟩
theorem f_.same{K:Frag}(e:uq H H'):fw K H H':=⟨fun p xs h=>by
 rcases h with(h|⟨o,h⟩)|h
 ·exact .inl (.inl (e _ _ h))
 ·exact .inl (.inr ⟨o,e _ _ h⟩)
 ·exact .inr h,fun b o u h=>e _ _ h⟩
theorem df{p:Addr}(h:H p=none)(o:HO):uq H (fW H p o):=fun b u q=>by rw[c_ (fB q h)];exact q
def Ss(l:Addr)(H H':Hp):Prop:=∀b o,b≠l->H b=some o->H' b=some o
theorem jn{l:Addr}{o:HO}:Ss l H (fW H l o):=fun b u h q=>by rw[c_ h];exact q
theorem f_.but{l:Addr}{xs:List V}(e:Ss l H H')(hl:H l=some (.lst xs)):fw K H H':=by
 have zQ:∀{p:Addr} {o:HO},H p=some o->(∀zs,o≠.lst zs)->p≠l:=fun{p o} q hn z=>by subst z;rw[hl]at q;cases q;exact hn _ rfl
 refine⟨fun p ys h=>?_,fun b o u h=>e _ _ (zQ h (fun _ z=>by cases z)) h⟩
 rcases h with(h|⟨o,h⟩)|h
 ·exact .inl (.inl (e _ _ (zQ h (fun _ z=>by cases z)) h))
 ·exact .inl (.inr ⟨o,e _ _ (zQ h (fun _ z=>by cases z)) h⟩)
 ·exact .inr h
theorem fw.refl:fw K H H:=⟨fun _ _ h=>h,fun _ _ _ h=>h⟩
theorem fw.trans{H1 H2:Hp}(a:fw K H H1)(b:fw K H1 H2):fw K H H2:=⟨fun p xs h=>b p xs (a p xs h),fun c o u h=>b.z c o u (a.z c o u h)⟩
theorem f_.new{p:Addr}{xs:List V}:f_ K (fW H p (.tup xs)) p xs:=f_.of gJ
end L2
namespace L2
open PySem PySem.Spec PyProof.Rows
theorem Ql{x:Str}{v:V}{pos:Pos}(h:∃u,X.mg x=some u/\cS 0 v u)(hg:Gl X x:=by rfl)(hd:(x==("__debug__":Str))=false:=by decide):PE X (.Name x pos) (tC v):=by
 obtain⟨u,a,b⟩:=h
 exact Jp hg a b hd
end L2
namespace L2
open PySem PySem.Spec PyProof.Rows
section
variable{to:TE}{t:TA}{id:String}{r:V->List V->Hp->VK->Prop}
def UT(r:V->List V->Hp->VK->Prop)(to:TE)(t:TA):TE:=fun σ H Q=>to σ H fun x H1=>(∃l ys,x=.ref l/\H1 l=some (.lst ys))/\t σ H1 fun xs H2=>r x xs H2 Q
def UU(r:V->List V->Hp->VK->Prop)(to:TE)(t:TA):TE:=fun σ H Q=>to σ H fun x H1=>(∃l,x=.str (tx l))/\t σ H1 fun xs H2=>r x xs H2 Q
def Tz(r:V->List V->Hp->VK->Prop)(to:TE):TE:=fun σ H Q=>to σ H fun x H1=>(∃l ys,x=.ref l/\H1 l=some (.lst ys))/\r x [] H1 Q
theorem Ab{x:V}(h:∃l ys,x=.ref l/\H l=some (.lst ys)):Sq K "list" x H:=by
 obtain⟨l,ys,rfl,h⟩:=h
 exact .inl ⟨rfl,_,.of h⟩
theorem Dm{x:V}(h:∃l,x=.str (tx l)):Sq K "str" x H:=by
 obtain⟨l,rfl⟩:=h
 exact rfl
theorem FZ{ty:V->Hp->Prop}(Ug:∀x H,ty x H->Sq X.K T x H)(pa:PlainAttrs T)(slot:Slot T name id)(C6:typeOf (.builtin id)=pure (.type "method_descriptor"))(hm:Em X id r)(ho:PE X o to)(ha:PA X (e::es) t)
  (j8:attributeBase o name X.env (eval o X.env)=eval o X.env)
  (qR:((backTo dG (starEach (e::es) X.env)).all (fun x=>!x.1)&&(backToKw dG (keywordEach [] X.env)).all (fun x=>x.1.isSome)
   && decide #[19])=true)
  (j7:(fH.endLine==dG.line)=true) (hs:starEach (e::es) X.env=(false,eval e X.env)::starEach es X.env) (nn:(backTo dG (starEach es X.env)).any (·.1)=false) :
  PE X (.Call (.Attribute o name fH) (e::es) [] dG) (fun σ H Q=>to σ H fun x H1=>ty x H1/\t σ H1 fun xs H2=>r x xs H2 Q):=by
 intro aj s σ H Q I h
 refine ny j8 qR j7 rfl (jC (ho aj s σ H _ I h) fun v s1 kt1 zq=>?_)
 obtain⟨x,H1,I1,r1,ty,q1⟩:=zq
 obtain⟨h1,h2⟩:=BY I1 r1 (Ug _ _ ty)
 refine⟨T,id,pa,slot,C6,h1,h2,?_⟩
 have hA:=ha dG aj s1 σ H1 _ I1 q1
 rw[hs]at hA ⊢
 refine gH (by show(false||(backTo dG (starEach es X.env)).any (·.1))=false;rw[nn]<;>rfl) (ic ?_)
 exact jC hA fun us s2 kt2 ⟨vs,H2,I2,r2,q2⟩=>hm aj s2 σ H2 x vs v us Q I2 (r1.up kt2) r2 q2
theorem Qm(slot:Slot "list" name id)(C6:typeOf (.builtin id)=pure (.type "method_descriptor"))(hm:Em X id r)(ho:PE X o to)(ha:PA X (e::es) t)
  (j8:attributeBase o name X.env (eval o X.env)=eval o X.env:=by rfl)
  (qR:((backTo dG (starEach (e::es) X.env)).all (fun x=>!x.1)&&(backToKw dG (keywordEach [] X.env)).all (fun x=>x.1.isSome)
   && decide #[19])=true:=by rfl)
  (j7:(fH.endLine==dG.line)=true:=by rfl) (hs:starEach (e::es) X.env=(false,eval e X.env)::starEach es X.env:=by rfl) (nn:(backTo dG (starEach es X.env)).any (·.1)=false:=by rfl) :
  PE X (.Call (.Attribute o name fH) (e::es) [] dG) (UT r to t):=FZ (ty:=fun x H1=>∃l ys,x=.ref l/\H1 l=some (.lst ys)) (fun _ _ h=>Ab h) F.plainAttrs_list slot C6 hm ho ha j8 qR j7 hs nn
theorem Qn(slot:Slot "str" name id)(C6:typeOf (.builtin id)=pure (.type "method_descriptor"))(hm:Em X id r)(ho:PE X o to)(ha:PA X (e::es) t)
  (j8:attributeBase o name X.env (eval o X.env)=eval o X.env:=by rfl)
  (qR:((backTo dG (starEach (e::es) X.env)).all (fun x=>!x.1)&&(backToKw dG (keywordEach [] X.env)).all (fun x=>x.1.isSome)
   && decide #[19])=true:=by rfl)
  (j7:(fH.endLine==dG.line)=true:=by rfl) (hs:starEach (e::es) X.env=(false,eval e X.env)::starEach es X.env:=by rfl) (nn:(backTo dG (starEach es X.env)).any (·.1)=false:=by rfl) :
  PE X (.Call (.Attribute o name fH) (e::es) [] dG) (UU r to t):=FZ (ty:=fun x H1=>∃l,x=.str (tx l)) (fun _ _ h=>Dm h) F.plainAttrs_str slot C6 hm ho ha j8 qR j7 hs nn
theorem Nb(slot:Slot "list" name id)(C6:typeOf (.builtin id)=pure (.type "method_descriptor"))(hm:Em X id r)(ho:PE X o to)
  (j8:attributeBase o name X.env (eval o X.env)=eval o X.env:=by rfl) (j7:(fH.endLine==dG.line)=true:=by rfl):PE X (.Call (.Attribute o name fH) [] [] dG) (Tz r to):=by
 intro aj s σ H Q I h
 refine wpAny_Call_method0_late j8 j7 (jC (ho aj s σ H _ I h) fun v s1 kt1 zq=>?_)
 obtain⟨x,H1,I1,r1,ty,q1⟩:=zq
 obtain⟨h1,h2⟩:=BY I1 r1 (Ab ty)
 exact⟨"list",id,F.plainAttrs_list,slot,C6,h1,h2,gH rfl (PySem.evalArgs_none (hm aj s1 σ H1 x [] v [] Q I1 r1 .nil q1))⟩
end
end L2
namespace L2
open PySem PySem.Spec PyProof.Rows
end L2
namespace L2
open PySem PySem.Spec PyProof.Rows
section
variable{t:TA}
def Qo(t:TA):TE:=fun σ H Q=>t σ H fun xs H1=>xs.length<=sizeLine/\∀p H2,H1 p=none->H2=fW H1 p (.tup xs)->Q (.ref p) H2
def Qp(t:TA):TE:=fun σ H Q=>t σ H fun xs H1=>xs.length<=sizeLine/\∀p H2,H1 p=none->H2=fW H1 p (.lst xs)->Q (.ref p) H2
theorem JT{x1}(h:PA X es t):PE X (.Tuple es x1 pos) (Qo t):=by
 intro aj s σ H Q I hq
 refine wpAny_Tuple_spliced (jC (h pos aj s σ H _ I hq) fun us s1 kt1 ⟨xs,H1,I1,r,z,q⟩=>⟨by rw[<- r.length];exact z,?_⟩)
 have hf:H1 s1.heap.objs.size=none:=I1.hok.fresh (az _)
 refine⟨.ref s1.heap.objs.size,fW H1 s1.heap.objs.size (.tup xs),I1.laid (t':=s1.toks) (fun b u e=>av _ e) (az _) ?_,rfl,q _ _ hf rfl⟩
 exact⟨z,us,r,⟨_,aC _ rfl,rfl,_,rfl⟩⟩
theorem JU(h:PA X es t):PE X (.List es pos) (Qp t):=by
 intro aj s σ H Q I hq
 refine wpAny_List_spliced (jC (h pos aj s σ H _ I hq) fun us s1 kt1 ⟨xs,H1,I1,r,z,q⟩=>⟨by rw[<- r.length];exact z,?_⟩)
 have hf:H1 s1.heap.objs.size=none:=I1.hok.fresh (az _)
 refine⟨.ref s1.heap.objs.size,fW H1 s1.heap.objs.size (.lst xs),I1.laid (t':=s1.toks) (fun b u e=>av _ e) (az _) ?_,rfl,q _ _ hf rfl⟩
 exact⟨z,us,0,r,aC _ rfl⟩
theorem Em.imp{id:String}{r r':V->List V->Hp->VK->Prop}(h:Em X id r)(i:∀x xs H Q,r' x xs H Q->r x xs H Q):Em X id r':=fun aj s σ H x xs v us Q I rx rv q=>h aj s σ H x xs v us Q I rx rv (i _ _ _ _ q)
theorem i'.imp{f:Value}{r r':List V->Hp->VK->Prop}(h:i' X f r)(i:∀xs H Q,r' xs H Q->r xs H Q):i' X f r':=fun aj s σ H xs us Q I rv q=>h aj s σ H xs us Q I rv (i _ _ _ q)
theorem oo.imp{f:Value->Value->Sem Value}{r r':R2}(h:oo X f r)(i:∀x y H Q,r' x y H Q->r x y H Q):oo X f r':=fun aj s σ H x y v u Q I rx ry q=>h aj s σ H x y v u Q I rx ry (i _ _ _ _ q)
def F0:V->List V->Hp->VK->Prop:=fun x vs H Q=>∃l xs y,x=.ref l/\vs=[y]/\H l=some (.lst xs)/\xs.length<sizeLine/\∀H2,H2=fW H l (.lst (xs++[y]))->Q .non H2
theorem B5:Em X "list.append" F0:=Em.imp (r:=Dh) En fun _ _ _ _ ⟨l,xs,y,a,b,c,d,q⟩=>⟨l,xs,y,a,b,c,d,q _ rfl⟩
def Qq:V->List V->Hp->VK->Prop:=fun x vs H Q=>∃l xs y,x=.ref l/\vs=[]/\H l=some (.lst (xs++[y]))/\∀H2,H2=fW H l (.lst xs)->Q y H2
theorem JV:Em X "list.pop" Qq:=Em.imp (r:=Qf) M0 fun _ _ _ _ ⟨l,xs,y,a,b,c,q⟩=>⟨l,xs++[y],y,a,b,c,by simp,by rw[List.dropLast_concat];exact q _ rfl⟩
def Nc:V->V->V->Hp->(Hp->Prop)->Prop:=fun o i v H Q=>∃p xs k j,o=.ref p/\i=.int k/\H p=some (.lst xs)/\De xs.length k=some j/\∀H2,H2=fW H p (.lst (xs.set j v))->Q H2
theorem Eu:Ea X Nc:=fun aj s σ H o i v ov iv u Q I r1 r2 r3 q=>by
 obtain⟨p,xs,k,j,a,b,c,d,q⟩:=q
 exact FL aj s σ H o i v ov iv u Q I r1 r2 r3 ⟨p,xs,k,j,a,b,c,d,q _ rfl⟩
def F1(K:Frag):List V->Hp->VK->Prop:=fun xs H Q=>∃p ys,xs=[.ref p]/\sF K H p ys/\∀l H2,H l=none->H2=fW H l (.tup ys)->Q (.ref l) H2
theorem Ac:i' X (.type "tuple") (F1 X.K):=i'.imp wH fun _ _ _ ⟨p,ys,a,b,q⟩=>⟨p,ys,a,.inl ⟨b,fun l hl=>q l _ hl rfl⟩⟩
def JW(K:Frag):List V->Hp->VK->Prop:=fun xs H Q=>∃p ys,xs=[.ref p]/\(sF K H p ys\/f_ K H p ys)/\∀l H2,H l=none->H2=fW H l (.lst ys)->Q (.ref l) H2
theorem u_:i' X (.type "list") (JW X.K):=i'.imp yx fun _ _ _ ⟨p,ys,a,b,q⟩=>⟨p,ys,a,b,fun l hl=>q l _ hl rfl⟩
def Qr:R2:=fun x y H Q=>∃l b xs zs,x=.ref l/\y=.ref b/\H l=some (.lst xs)/\H b=some (.lst zs)/\xs.length+zs.length<=sizeLine/\∀p H2,H p=none->H2=fW H p (.lst (xs++zs))->Q (.ref p) H2
theorem JX:oo X (binaryOp .Add) Qr:=oo.imp M2 fun _ _ _ _ ⟨l,b,xs,zs,h1,h2,h3,h4,h5,q⟩=>⟨l,b,xs,zs,h1,h2,h3,h4,h5,fun p hp=>q p _ hp rfl⟩
end
end L2
namespace L2
open PySem PySem.Spec PyProof.Rows
end L2
namespace L2
open PySem PySem.Spec PyProof.Rows
def F2(T:String):Prop:=T="tuple"\/T="bool"\/T="int"\/T="str"
end L2
namespace L2
end L2
namespace L2
open PySem PySem.Spec PyProof.Rows
end L2
namespace L2
open PySem PySem.Spec PyProof.Rows
structure QE(X:Cx)(e:Expr)(t:TE):Prop where
 h:PE X e t
structure QA(X:Cx)(es:List Expr)(t:TA):Prop where
 h:PA X es t
structure QS(X:Cx)(s:Stmt)(t:TS):Prop where
 h:PS X s t
structure QG(X:Cx)(e:Expr)(t:TG):Prop where
 h:PG X e t
structure QI(X:Cx)(tg it:Expr)(t:TI):Prop where
 h:PI X tg it t
structure TB(X:Cx)(es:List Expr)(t:TT):Prop where
 h:FW X es t
structure Ur(X:Cx)(f:Value->Value->Sem Value)(r:R2):Prop where
 h:oo X f r
structure K5(X:Cx)(f:Value)(r:List V->Hp->VK->Prop):Prop where
 h:i' X f r
section
variable{a b:Expr}{ta tb tc to:TE}{t u:TA}{x:Str}{tA T9:TT}{iJ:List Expr}
theorem F3:Ur X (binaryOp .LShift) (rI MH fun i j=>.int (i*2^j.toNat)):=⟨Fz⟩
variable{st:Stmt}{sr:List Stmt}{ts us:TS}{g:TG}
end
section
variable{body:List Stmt}{wi:TI}{g:TG}{tb:TS}{tA:TT}
end
end L2
namespace L2
open PySem PySem.Spec PyProof.Rows
end L2
namespace L2
open PySem PySem.Spec PyProof.Rows
end L2
namespace L2
open PySem PySem.Spec PyProof.Rows
noncomputable def jo(env:Env):List (Str×NameKind)->List (Str×Addr)->List (Str×Addr)
 |[],cs=>cs
 |(n,k)::r,cs=>jo env r (if k==.free then(n,(env.cells.lookup n).getD 0)::cs else cs)
theorem Qs(h:∀x∈scope.names,x.2=.free->∃c,env.cells.lookup x.1=some c):closureFor scope env=pure (jo env scope.names []):=by
 unfold closureFor
 have key:∀(ns:List (Str×NameKind)) (cs:List (Str×Addr)),(∀x∈ns,x.2=.free->∃c,env.cells.lookup x.1=some c) ->
   (forIn ns cs fun(x:Str×NameKind) (r:List (Str×Addr))=>if (x.2==NameKind.free)=true then(do let a <- cellOf env x.1;pure (ForInStep.yield ((x.1,a)::r)))else(pure (ForInStep.yield r):Sem _))=pure (jo env ns cs):=by
  intro ns
  induction ns with
  |nil=>intro cs _;rfl
  |cons y r ih=>
   intro cs hc
   obtain⟨n,k⟩:=y
   rw[kC]
   have ihr:=fun cs=>ih cs fun x hx=>hc x (aS _ hx)
   by_cases hk:(k==NameKind.free)=true
   ·obtain⟨c,e⟩:=hc (n,k) bC (mM hk)
    have e2:cellOf env n=pure c:=by unfold cellOf;rw[e]
    show((if (k==NameKind.free)=true then _ else _) >>= _)=pure (jo env r (if (k==NameKind.free)=true then _ else _))
    rw[aE hk,aE hk,e2]
    simp only[pure_bind]
    have e3:(env.cells.lookup n).getD 0=c:=by rw[show env.cells.lookup n=some c from e];rfl
    rw[e3]
    exact ihr _
   ·show((if (k==NameKind.free)=true then _ else _) >>= _)=pure (jo env r (if (k==NameKind.free)=true then _ else _))
    rw[aL hk,aL hk]
    simp only[pure_bind]
    exact ihr _
 have:=key scope.names [] h
 dsimp only
 rw[this];simp only[pure_bind]
theorem xr:∀(ns:List (Str×NameKind)) (cs:List (Str×Addr)),(∀x∈ns,x.2=.free->∃c,env.cells.lookup x.1=some c)->(∀y∈cs,env.cells.lookup y.1=some y.2)->∀y∈jo env ns cs,env.cells.lookup y.1=some y.2
 |[],cs,_,h=>h
 |(n,k)::r,cs,hf,h=>by
  refine xr r _ (fun x hx=>hf x (aS _ hx)) ?_
  by_cases hk:(k==NameKind.free)=true
  ·rw[aE hk]
   intro y hy
   rcases aT.mp hy with rfl|hy
   ·obtain⟨c,e⟩:=hf (n,k) bC (mM hk)
    show env.cells.lookup n=some ((env.cells.lookup n).getD 0)
    rw[show env.cells.lookup n=some c from e];rfl
   ·exact h y hy
  ·rw[aL hk];exact h
theorem va:∀(ns:List (Str×NameKind)) (cs:List (Str×Addr)) (y:Str×Addr),y∈cs->y∈jo env ns cs
 |[],_,_,h=>h
 |(n,k)::r,cs,y,h=>by
  refine va r _ y ?_
  split
  ·exact aS _ h
  ·exact h
theorem vb{env:Env}:∀(ns:List (Str×NameKind)) (cs:List (Str×Addr)) (x:Str),(x,NameKind.free)∈ns->∃c,(x,c)∈jo env ns cs
 |[],_,_,h=>by simp at h
 |(n,k)::r,cs,x,h=>by
  rcases aT.mp h with e|h
  ·obtain⟨e1,e2⟩:=Prod.mk.inj e
   subst e1;subst e2
   exact⟨_,va r _ (x,_) (by rw[aE (by rfl:(NameKind.free==NameKind.free)=true)];exact bC)⟩
  ·exact vb r _ x h
theorem vc:∀{l:List (Str×β)} {x:Str} {b:β},(x,b)∈l->∃c,l.lookup x=some c
 |(y,c)::r,x,b,h=>by
  rw[jR]
  cases hx:x==y with
  |true=>exact⟨c,rfl⟩
  |false=>
   rcases aT.mp h with e|h
   ·cases e;simp at hx
   ·exact vc h
theorem tY{env:Env}{g:Str×NameKind->Bool}:∀{names:List (Str×NameKind)} {x:Str},names.lookup x=some .free ->
  (names.map fun y=>if g y then(y.1,NameKind.cell)else y).lookup x=some .cell\/(names.map fun y=>if g y then(y.1,NameKind.cell)else y).lookup x=some .free
 |[],_,h=>by simp at h
 |(n,k)::r,x,h=>by
  rw[jR]at h
  rw[aU]
  have e1:∀y:Str×NameKind,(if g y then(y.1,NameKind.cell)else y).1=y.1:=fun y=>by split<;>rfl
  have e2:∀(y:Str×NameKind) (l:List (Str×NameKind)),(y::l).lookup x=if (x==y.1)=true then some y.2 else l.lookup x:=fun y l=>by
   obtain⟨a,b⟩:=y
   rw[jR]
   cases x==a<;>rfl
  rw[e2,e1]
  cases hx:x==n with
  |true=>
   rw[hx]at h
   cases h
   rw[aE rfl]
   by_cases hg:g (n,.free)=true
   ·rw[aE hg];exact .inl rfl
   ·rw[aL hg];exact .inr rfl
  |false=>
   rw[hx]at h
   rw[aL (by exact eO)]
   exact tY (env:=env) h
noncomputable def Ev(dn:List (Str×NameKind))(sn:List (Str×NameKind))(nm:List Str)(cap:List (Option Nat))(N:List Str):Bool:=
 (sn.all fun x=>!(x.2==.local)||sn.lookup x.1==some .local)&&(sn.all fun y=>!(y.2==.cell))&&(sn.all fun x=>!(x.2==.free)||dn.lookup x.1==some .cell)&&(cap.length==nm.length) &&
 ((List.range cap.length).all fun i=>match cap[i]? with
  |some (some j)=>(match nm[i]?,N[j]? with
   |some x,some y=>x==y&&dn.lookup x==some .cell&&sn.lookup x==some .free
   |_,_=>false)
  |_=>true)
structure TC(X:Cx)(scope:Scope)(nm:List Str)(cap:List (Option Nat)):Prop where
 clos:closureFor scope X.env=pure (jo X.env scope.names [])
 cl:∀x c,(jo X.env scope.names []).lookup x=some c->X.env.cells.lookup x=some c
 nms:∀x∈scope.names,x.2=.local->scope.names.lookup x.1=some .local
 cell:∀y∈scope.names,y.2≠.cell
 has:∀x,#[11]->∃c,(jo X.env scope.names []).lookup x=some c
 cp:∀(i j:Nat),cap[i]?=some (some j)->∃x,nm[i]?=some x/\X.N[j]?=some x/\u7 X scope (jo X.env scope.names []) x
 len:cap.length=nm.length
theorem Qt{nm:List Str}{cap:List (Option Nat)}(hf:∀x,X.env.scope.names.lookup x=some .cell->∃c,X.env.cells.lookup x=some c)(hB:Ev X.env.scope.names scope.names nm cap X.N=true):TC X scope nm cap:=by
 simp only[Ev,dB,List.all_eq_true,Bool.or_eq_true,hV,dg,bz]at hB
 obtain⟨⟨⟨⟨b1,b2⟩,b3⟩,b4⟩,b5⟩:=hB
 have has:∀x∈scope.names,x.2=.free->∃c,X.env.cells.lookup x.1=some c:=fun x hx hk=>by
  rcases b3 x hx with z|z
  ·exact absurd hk z
  ·exact hf _ z
 have Bu:∀x c,(jo X.env scope.names []).lookup x=some c->X.env.cells.lookup x=some c:=fun x c h=>xr scope.names [] has #[15] (x,c) (ja h)
 have hin:∀x,(x,NameKind.free)∈scope.names->∃c,(jo X.env scope.names []).lookup x=some c:=fun x h=>let ⟨_,q⟩:=vb (env:=X.env) scope.names [] x h;vc q
 have hmap:(relabel scope X.env).names=scope.names.map fun y=>if (y.2==.free&&X.env.scope.kind==.function&&X.env.kindOf y.1==some .cell)then(y.1,NameKind.cell)else y:=by
  show scope.names.map _=_
  refine eY fun y _=>?_
  obtain⟨a,b⟩:=y
  rfl
 have fr:∀x,#[11]->(x,NameKind.free)∈scope.names:=fun x h=>by
  have h':∃k,(x,k)∈(relabel scope X.env).names/\(k=.cell\/k=.free):=by
   rcases h with h|h
   ·exact⟨_,ja h,.inl rfl⟩
   ·exact⟨_,ja h,.inr rfl⟩
  obtain⟨k,hm,hk⟩:=h'
  rw[hmap]at hm
  obtain⟨y,hy,e⟩:=c9.mp hm
  obtain⟨a,b⟩:=y
  by_cases hb:b=.free
  ·subst hb
   have:a=x:=by split at e<;>(cases e;rfl)
   subst this;exact hy
  ·rw[aL (by simp[hb])]at e
   cases e
   rcases hk with rfl|rfl
   ·exact absurd rfl (b2 _ hy)
   ·exact absurd rfl hb
 refine⟨Qs has,Bu,fun x hx hk=>(b1 x hx).resolve_left fun z=>z hk,fun y hy=>b2 y hy,fun x hx=>hin x (fr x hx),fun i j e=>?_,b4⟩
 have hi':i<cap.length:=(au.mp e).1
 have q:=b5 i (li.mpr hi')
 rw[e]at q
 dsimp only at q
 cases hx:nm[i]? with
 |none=>rw[hx]at q;simp at q
 |some x=>
  cases hy:X.N[j]? with
  |none=>rw[hx,hy]at q;simp at q
  |some y=>
   rw[hx,hy]at q
   simp only[dB,dg]at q
   obtain⟨⟨rfl,q1⟩,q2⟩:=q
   refine⟨x,rfl,rfl,.inr (.inl q1),(by rw[q1];decide),?_,?_⟩
   ·obtain⟨c,hc⟩:=hin x (ja q2)
    rw[hc,Bu _ _ hc]
   ·rw[hmap];exact tY (env:=X.env) q2
theorem Nd{pos:Pos}{wi:TI}{g:TG}{tc:TT}{m:Nat}(jH:X.calm=true)
  (qN:X.env.cells=cellsFrom m X.env.scope.names []) (jG:scope.kind=.function) (hB:Ev X.env.scope.names scope.names nm cap X.N=true)
  (hi:QI X tg d_ wi) (hg:∀cl C s0 H0 fp,QG #[9] tg g) (ht:∀cl C s0 H0 fp,TB #[9] mR tc)
  (he:∀cl C s0 H0 fp,QE #[9] qU te) (hs:∀x,foldedSetIterable d_ X.env x=pure x:=by intro _;rfl) :
  QE X #[10] (u6 cap wi g tc te):=by
 have F:=Qt (nm:=nm) (cap:=cap) (fun x z=>by rw[qN];exact mB z) hB
 exact⟨JR jH F.clos F.cl jG F.nms F.cell F.has F.cp F.len hi.h (fun C s0 H0 fp=>(hg _ C s0 H0 fp).h) (fun C s0 H0 fp=>(ht _ C s0 H0 fp).h) (fun C s0 H0 fp=>(he _ C s0 H0 fp).h) hs⟩
def JY(K:Frag):List V->Hp->VK->Prop:=fun xs H Q=>∃(p:Addr) (ys:List (List Nat)),xs=[.ref p]/\sF K H p (ys.map fun l=>V.str (tx l))/\ys.length<64 /\
 ∀zs:List (List Nat),zs.Perm ys->sortedS (zs.map tx)=true->∀l H2,H l=none->H2=fW H l (.lst (zs.map fun l=>V.str (tx l)))->Q (.ref l) H2
theorem Dn(z:Str):tx z.cps.toList=z:=by cases z;rfl
theorem vd{vs:List Value}{xs:Array (Value×Value)}(hp:xs.Perm (pairsOf vs)):∀v∈(xs.map (·.2)).toList,v∈vs:=fun v hv=>by
 have hl:xs.toList.Perm (vs.zip vs):=by rw[<- pairsOf_toList];exact Array.perm_iff_toList_perm.mp hp
 rw[Array.toList_map]at hv
 obtain⟨p,hp',rfl⟩:=c9.mp hv
 have:=mem_zip_self (hl.mem_iff.mp hp')
 rw[<- this.1];exact this.2
theorem yB{prog:Program}{w:World}{A:Around}{E:Value->Shared->Prop}{l:Addr}{vs:List Value}{ss:List Str}(hl:s.heap.IsList l vs.toArray)(hS:StrsAre vs ss)(Ui:vs.length<64)
  (h:∀(out:Array Value) (Jj:List Str),(∀v∈out.toList,v∈vs)->StrsAre out.toList Jj->Jj.Perm ss->sortedS Jj=true->Q (.ref #[6]) { s with heap:=sortedAll s.heap vs out }) :
  wpAny #[8] A (call (.builtin "sorted") [.ref l]) Q E s:=by
 refine sortedK qu hl hS.keysOf (fun v₁ v₂ iJ e=>sB (by rw[<- e];exact hS)) Ui fun bn hp hs=>?_
 obtain⟨Jj,h1,h2,h3⟩:=pz hS hp hs
 exact h _ Jj (vd hp) h1 h2 h3
theorem iL.sub{vs:List Value}(h:iL n vs)(hs:∀v∈us,v∈vs):iL n us:=fun x t hx=>h x t (hs _ hx)
theorem wI:K5 X (.builtin "sorted") (JY X.K):=⟨by
 intro aj s σ H xs us Q I r h
 obtain⟨p,ys,rfl,hS,Ui,q⟩:=h
 obtain⟨u,rfl,ru⟩:=oq r
 cases ru
 obtain⟨bI,rv,pl,hz⟩:=I.list hS
 have hl:=rv.length
 rw[aF]at hl
 refine yB (ss:=ys.map tx) pl.isList (u9 (by simpa using rv)) #[0] fun out Jj hm h1 h2 h3=>?_
 obtain⟨ep,hat⟩:=sortedAll_at s.heap bI out
 have CY:H #[6]=none:=I.hok.fresh (bp _)
 have hmap:(Jj.map fun z=>z.cps.toList).map tx=Jj:=by
  rw[b9]
  have:(tx∘fun z:Str=>z.cps.toList)=id:=funext fun z=>Dn z
  rw[this,jh]
 have hperm:(Jj.map fun z=>z.cps.toList).Perm ys:=by
  have e:=h2.map fun z:Str=>z.cps.toList
  rw[b9]at e
  have:((fun z:Str=>z.cps.toList)∘tx)=id:=funext fun l=>by simp[tx]
  rw[this,jh]at e
  exact e
 have hvals:cL s.toks ((Jj.map fun z=>z.cps.toList).map fun l=>V.str (tx l)) out.toList:=by
  have e:=mT h1 ((q_ rv).sub hm)
  rw[<- hmap,b9]at e
  exact e
 refine⟨.ref #[6],_,I.laid (t':=s.toks) (fun b o e=>sortedAll_old e) (bp _) ?_,rfl,q _ hperm (by rw[hmap];exact h3) _ _ CY rfl⟩
 refine⟨?_,out.toList,ep,hvals,hat⟩
 rw[aF,hperm.length_eq]
 exact aN (fY Ui) #[12]⟩
theorem bT.turned2{t':Nat}{e:Addr}(I:bT X aj σ H s)(k:∀b o,b≠e->b≠it->s.heap.get? b=some o->h'.get? b=some o)
  (he:∃o,h'.get? e=some o) (f1:sH X aj H e) (f2:sH X aj H it) (hk:s.toks<=t':=by first|exact az _|exact bp _|assumption|omega):bT X aj σ H { s with heap:=h',toks:=t' }:=by
 have nit:∀b u,H b=some u->b≠e/\b≠it:=fun b u q=>⟨fun z=>(by rw[z,f1.1]at q;cases q),fun z=>(by rw[z,f2.1]at q;cases q)⟩
 have nin:∀b,b∉[e,it]->b≠e/\b≠it:=fun b h=>⟨fun z=>h (by simp[z]),fun z=>h (by simp[z])⟩
 refine I.step (g':=s.gens) (d':=s.drawn) (ch:=[e,it]) (fun b hb=>?_) (fun b o _ _ hc q _=>k b o (nin b hc).1 (nin b hc).2 q) (fun b o _ _ hc q _=>⟨o.slots,k b o (nin b hc).1 (nin b hc).2 q⟩) (fun _ _ _ _ n=>n)
  (fun b o hc q=>⟨o,k b o (nin b hc).1 (nin b hc).2 q⟩) (fun _ _ q=>q) (fun _ _ _ q=>q) (fun b ps q=>⟨#[],by rw[q];simp⟩) (fun m hm=>?_) (fun b u q=>?_) I.bare hk
 ·have z:b=e\/b=it:=by simpa using hb
  rcases z with rfl|rfl
  ·exact⟨f1.2.2.2.1,f1.2.1,f1.2.2.2.2.1,f1.2.2.2.2.2⟩
  ·exact⟨f2.2.2.2.1,f2.2.1,f2.2.2.2.2.1,f2.2.2.2.2.2⟩
 ·obtain⟨o,es,ep,ho,r⟩:=hm
  exact⟨o,es,ep,k _ o (Ne.symm f1.2.1) (Ne.symm f2.2.1) ho,r⟩
 ·refine((I.hok b u q).up hk).stay (fun c v hc z=>?_) (fun _ z=>z) fun _ _ z=>z
  rcases hc with y|y
  ·rw[y]at z ⊢;exact k b v (nit b u q).1 (nit b u q).2 z
  ·exact k c v (nit c _ y).1 (nit c _ y).2 z
section
variable{w:World}
theorem jU{t:Addr}{bI:Array Value}{x:Value}(st:s.heap.IsTupleIter it t i)(ht:s.heap.IsTuple t bI)(hx:bI[i]?=some x)
  (q:∀g,g.IsTupleIter it t (i+1)->Heap.SameBut it s.heap g->Q x { s with heap:=g }):wpAny #[8] A (Builtin.SmallTypes.nextOf (.ref it)) Q E s:=by
 obtain⟨ob,e1,e2,e3⟩:=id st
 obtain⟨ot,g1,_,nt,g3⟩:=ht
 have T:=st.typeIs
 unfold Builtin.SmallTypes.nextOf
 refine af (bP (name:=Str.ofString "__next__") T fL (b8 fL T kR ?_ (kE _)))
 show wpAny _ _ (field (.ref it) 0 >>= _) _ _ s
 refine af (dh e1 e3 (x:=.ref t) rfl ?_)
 dsimp only
 rw[aL (show ¬ ((Value.ref t==Value.none)=true)from eO)]
 refine af (dh e1 e3 (x:=.int i 0) rfl ?_)
 dsimp only
 refine af (et g1 g3 ?_)
 simp only[bV,hx]
 refine af (wpAny_setField e1 e3 #[15] (ay ⟨x,rfl,ay (q _ ?_ (iG ..))⟩))
 exact⟨_,dH _ e1 (Obj.isFreed_of_fields (Obj.data_mapFields e3 _)),(Obj.cls_mapFields ..).trans e2,by rw[Obj.data_mapFields e3];simp[rawInt]⟩
theorem kM{t:Addr}{bI:Array Value}(hh:A.handled=none)(st:s.heap.IsTupleIter it t i)(ht:s.heap.IsTuple t bI)(hx:bI[i]?=none)
  (q:∀g e,Heap.ExtBut it s.heap g->(∃o,g.get? e=some o/\o.cls=.type "StopIteration")->E (.ref e) { s with heap:=g }):wpAny #[8] A (Builtin.SmallTypes.nextOf (.ref it)) Q E s:=by
 obtain⟨ob,e1,e2,e3⟩:=id st
 obtain⟨ot,g1,_,nt,g3⟩:=ht
 have T:=st.typeIs
 unfold Builtin.SmallTypes.nextOf
 refine af (bP (name:=Str.ofString "__next__") T fL (b8 fL T kR ?_ (kE _)))
 show wpAny _ _ (field (.ref it) 0 >>= _) _ _ s
 refine af (dh e1 e3 (x:=.ref t) rfl ?_)
 dsimp only
 rw[aL (show ¬ ((Value.ref t==Value.none)=true)from eO)]
 refine af (dh e1 e3 (x:=.int i 0) rfl ?_)
 dsimp only
 refine af (et g1 g3 ?_)
 simp only[bV,hx]
 refine af (jS (af (wpAny_setField e1 e3 #[15] (af ?_))))
 simp only[newExc,newTuple]
 refine af (cz (af (m:=firstArgMember _ _) (wpAny_of_eq (a:=Value.none) (by first|rfl|(simp only[firstArgMember];rfl)) (cz ?_ (by size_fits)))) (by size_fits))
 simp only[raiseNew]
 refine af (wpAny_handled ?_)
 rw[show A.in1.handled=none from hh]
 exact af (ay (wpAny_throw (q _ _ (((iG ..).extBut.push _).push _) ⟨_,aC _ rfl,rfl⟩)))
end
theorem F4{w:World}{A:Around}(hh:A.handled=none)(it t:Addr)(zQ:t≠it)(bI:Array Value) :
  Draws prog w A it [it,t] bI.size (fun i v=>bI[i]?=some v) (fun i h=>h.IsTupleIter it t i/\h.IsTuple t bI) where
 live:=fun _ _ st=>let ⟨o,e,_⟩:=st.1;⟨o,e⟩
 frame:=fun _ h h' st k=>⟨st.1.at fun o e=>k it #[15] o e,let ⟨o,e,r⟩:=st.2;⟨o,k t #[15] o e,r⟩⟩
 item:=fun i s Q E hi st q=>jU st.1 st.2 (x:=bI[i]) (by simp[hi]) fun g a b=>q _ g s.toks (by simp[hi]) ⟨a,st.2.extBut b.extBut zQ⟩ b
 done:=fun s Q E st q=>kM hh st.1 st.2 #[15] q
open AutoSeq1 (wpAny_loadPart')
def Us(K:Frag)(a:Addr):It:=
 ⟨fun i H=>∃xs x,f_ K H a xs/\xs[i]?=some x,fun i H v H'=>∃p,H p=none/\v=.ref p/\∀xs x,f_ K H a xs->xs[i]?=some x->H'=fW H p (.tup [.int i,x]),fun i H=>∃xs,f_ K H a xs/\xs.length<=i⟩
theorem Ew{w:World}(a it e:Addr)(T5:e≠it) :
  BI P w K (.Tuple wA kk pos) (Us K a) [e,it] e (fun i h=>(∃old,IsEnum h e it i old)/\h.IsTupleIter it a i) where
 mem:=by simp
 obj:=fun i h st b hb=>by
  have z:b=e\/b=it:=by simpa using hb
  rcases z with rfl|rfl
  ·obtain⟨old,q⟩:=st.1
   exact⟨_,q,fun v z=>by cases z⟩
  ·obtain⟨o,q,c,d⟩:=st.2
   exact⟨o,q,fun v z=>by rw[d]at z;cases z⟩
 keep:=fun i h h' st k=>⟨let ⟨old,q⟩:=st.1;⟨old,k e #[15] _ q⟩,st.2.at fun o q=>k it #[15] o q⟩
 item:=by
  intro X hP hw hK hc i aj s σ H E I hf st hg
  subst hP hw hK
  obtain⟨xs,x,hq,hx⟩:=hg
  obtain⟨bI,rv,p,hz⟩:=I.tuple hq
  obtain⟨u,hu,ru⟩:=rv.get hx
  obtain⟨⟨old,he⟩,pi⟩:=st
  have hT:s.heap.IsTuple a bI.toArray:=p
  obtain⟨oa,ha,hca,_⟩:=id hT
  obtain⟨oi,hi,hci,_⟩:=id pi
  have nai:a≠it:=fun z=>by
   rw[z,hi]at ha;cases ha
   rw[hci]at hca;injection hca with z;exact absurd z #[12]
  have nae:a≠e:=fun z=>by
   rw[z,he]at ha;cases ha
   injection hca with z;exact absurd z #[12]
  have hlt:i<bI.toArray.size:=by
   have:=(au.mp hu).1
   simpa using this
  refine up (wpAny_pyNext_enum_itemD (F4 (A:=X.A.in1) (I.ok.hd hc) it a nai bI.toArray) he ⟨pi,hT⟩ hlt T5 (by simp[T5,Ne.symm nae]) fun x' g tk hx' ho' bn htup hsz hk SR=>⟨_,rfl,?_⟩)
  have ex:x'=u:=by
   have e1:bI[i]?=some x':=by simpa using hx'
   rw[hu]at e1;exact(bq e1).symm
  subst ex
  refine wpAny_letOwnedTupleGo_enum ho' fun g2 Ub tN=>?_
  have CY:H s.heap.objs.size=none:=I.hok.fresh (az _)
  have I1:bT X aj σ (fW H s.heap.objs.size (.tup [.int i,x])) { s with heap:=s.heap.push { cls:=.type "tuple",data:=.seq #[.int i tk,x'] },toks:=tk+1 }:=I.laid (fun b o q=>av _ q) (az _)
   ⟨by show 2<=sizeLine;decide,[.int i tk,x'],.cons ⟨tk,rfl⟩ (.cons (ru.up SR) .nil),⟨_,aC _ rfl,rfl,_,rfl⟩⟩
  have nf:∀b∈[e,it],b≠s.heap.objs.size:=fun b hb=>by
   have z:b=e\/b=it:=by simpa using hb
   rcases z with rfl|rfl
   ·exact bd (aH he)
   ·exact bd (aH hi)
  have fp:∀b∈[e,it],sH X aj (fW H s.heap.objs.size (.tup [.int i,x])) b:=fun b hb=>by
   obtain⟨f0,f⟩:=hf b hb
   exact⟨by rw[c_ (nf b hb)];exact f0,f⟩
  have he2':IsEnum g2 e it ((i:Int)+1) x':=Ub
  have I2:bT X aj σ (fW H s.heap.objs.size (.tup [.int i,x])) { s with heap:=g2,toks:=tk+1 }:=I1.turned2 (t':=tk+1) (fun b o hbe hbi q=>?_) ⟨_,he2'⟩ (fp e #[15]) (fp it #[15])
  ·refine⟨.ref s.heap.objs.size,_,I2,rfl,⟨_,CY,rfl,fun ys y hy hy'=>?_⟩,⟨⟨x',by simpa using he2'⟩,bn.1.extBut tN.extBut (Ne.symm T5)⟩,fun b hb=>(fp b hb).1⟩
   have e1:=I.tuple_inj hy hq
   subst e1
   rw[hx]at hy';cases hy';rfl
  ·have q':(s.heap.push { cls:=.type "tuple",data:=.seq #[.int i tk,x'] }).get? b=some o:=q
   refine tN.extBut b o hbe ?_
   by_cases hb:b=s.heap.objs.size
   ·subst hb
    have e1:=aC s.heap (o:={ cls:=.type "tuple",data:=.seq #[.int i tk,x'] }) rfl
    rw[e1]at q';cases q'
    exact htup
   ·rw[Heap.get?_push_ne _ _ _ hb]at q'
    exact hk b o hbe hbi q'
 done:=by
  intro X hP hw hK hc i aj s σ H E I hf st hg
  subst hP hw hK
  obtain⟨xs,hq,hx⟩:=hg
  obtain⟨bI,rv,p,hz⟩:=I.tuple hq
  obtain⟨⟨old,he⟩,pi⟩:=st
  have hT:s.heap.IsTuple a bI.toArray:=p
  have hl:=rv.length
  have hT':Shared.TypeIs s (.ref e) "enumerate":=⟨_,he,rfl⟩
  unfold pyNext
  refine af (gW (bP (name:=Str.ofString "__next__") hT' n9 (b8 n9 hT' F.entry_enumerate_next ?_ (F.args_enumerate_next_1 _))))
  show wpAny _ _ (field (.ref e) 2 >>= _) _ _ _
  refine af (dh he rfl (x:=.ref it) rfl (af (kM (show X.A.in1.handled=none from I.ok.hd hc) pi hT (by simp;omega) fun g y hx' hy=>?_)))
  obtain⟨o,ho,Bu⟩:=hy
  refine af (gp (T:="StopIteration") (b:=true) ⟨o,ho,Bu⟩ lE (ay ⟨rfl,?_⟩))
  obtain⟨f0,f1,f2,f3,f4,f5⟩:=hf it #[15]
  exact I.turned (t':=s.toks) (fun b o hb q=>hx' b o hb q) f0 f1 f3 f4 f5
 self:=fun A i s Q E st h=>let ⟨_,q⟩:=st.1;wpAny_pyIter_enum q h
open AutoSeq1 (wpAny_loadPart')
noncomputable abbrev lK(t:Addr):Obj:={ cls:=.type "tuple_iterator",data:=.fields #[.ref t,.int 0 0] }
noncomputable abbrev B6(it:Addr):Obj:={ cls:=.type "enumerate",data:=.fields #[.none,.bool false,.ref it,rawInt 0,.none,.none] }
theorem Nf(t:Addr)(bI:Array Value)(n:Nat)(dc:Option Addr)(sl:Array (Option Value)) :
  Meets (Builtin.«enumerate.__new__» ⟨[.type "enumerate",.ref t],[]⟩) (fun _ R s=>s.heap.get? t=some { cls:=.type "tuple",dict:=dc,data:=.seq bI n,slots:=sl } /\
   R (.ok (.ret (.ref (s.heap.push (lK t)).objs.size))) { s with heap:=(s.heap.push (lK t)).push (B6 s.heap.objs.size) }):=
 .of_wp fun prog w A R s h=>by
  obtain⟨hp,g,d,tk,os⟩:=s
  obtain⟨ht,h⟩:=h
  have sb:=sub_enumerate
  have hT:Heap.IsTuple (Shared.heap ⟨hp,g,d,tk,os⟩) t bI:=⟨_,ht,rfl,n,rfl⟩
  wp_walk using dq ht
  refine wpAny_stack_any fun st=>ay ?_
  split
  ·rename_i c _ _ _ _ _
   cases(c==Value.type "enumerate")<;>(wp_walk using dq ht,fI hT;exact⟨_,rfl,h⟩)
  ·wp_walk using dq ht,fI hT
   exact⟨_,rfl,h⟩
section
variable{w:World}
theorem wJ{t:Addr}{bI:Array Value}(hT:s.heap.IsTuple t bI)
  (q:∀g,IsEnum g #[6] s.heap.objs.size 0 .none->g.IsTupleIter s.heap.objs.size t 0->(∀b o,s.heap.get? b=some o->g.get? b=some o)->Q (.ref #[6]) { s with heap:=g }) :
  wpAny #[8] A (call (.type "enumerate") [.ref t]) Q E s:=by
 obtain⟨⟨c,dc,dt,sl⟩,ht,hc,n,hd⟩:=hT
 obtain rfl:c=.type "tuple":=hc
 obtain rfl:dt=.seq bI n:=hd
 refine callType_new F.called_enumerate #[12] (F.typeCall_enumerate_1 _) (F.newCall_enumerate_1 _) (fun ob=>F.args_object_init_2 ob _) F.entry_enumerate_new (Nf t bI n dc sl) ⟨ht,?_⟩
 have z:(s.heap.push (lK t)).objs.size=s.heap.objs.size+1:=bv ..
 show _/\_
 rw[z]
 have e1:IsEnum ((s.heap.push (lK t)).push (B6 s.heap.objs.size)) #[6] s.heap.objs.size 0 .none:=by
  have y:=aC (s.heap.push (lK t)) (o:=B6 s.heap.objs.size) rfl
  rw[z]at y;exact y
 exact⟨⟨_,e1,rfl⟩,q _ e1 ⟨_,av _ (aC _ rfl),rfl,rfl⟩ fun b o y=>av _ (av _ y)⟩
end
section
def TD(K:Frag)(ta:TA):TI:=fun σ H R=>ta σ H fun vs H1=>∃a,vs=[.ref a]/\(∃xs,f_ K H1 a xs)/\R (Us K a) H1
theorem F5{a:Expr}{ta:TA}{p pos tp:Pos}{wA:List Expr}{kk:Nat}(hm:X.mg "enumerate"=none)(ha:QA X [a] ta)(hg:Gl X "enumerate":=by rfl)(hs:starEach [a] X.env=[(false,eval a X.env)]:=by rfl) :
  QI X (.Tuple wA kk tp) (.Call (.Name "enumerate" p) [a] [] pos) (TD X.K ta):=⟨by
 intro aj s σ H R I h
 refine Call_ (on I hg hm boot_enumerate (dS (jC (ha.h pos aj s σ H _ I h) fun us s1 kt1 ⟨vs,H1,I1,r1,q1⟩=>?_) hs rfl))
 obtain⟨t,e,⟨xs,hq⟩,q⟩:=q1
 subst e
 obtain⟨u,rfl,ru⟩:=oq r1
 cases ru
 obtain⟨bI,rv,pt,hz⟩:=I1.tuple hq
 refine wJ (show s1.heap.IsTuple t bI.toArray from pt) fun g e1 e2 kp=>?_
 refine wpAny_pyIter_enum e1 ?_
 refine⟨s1.heap.objs.size+1,[s1.heap.objs.size+1,s1.heap.objs.size],_,_,H1,rfl,I1.kept (t':=s1.toks) kp,Ew t _ _ (Nat.succ_ne_self _),⟨⟨_,e1⟩,e2⟩,fun b hb=>?_,q⟩
 have z:b=s1.heap.objs.size+1\/b=s1.heap.objs.size:=by simpa using hb
 rcases z with rfl|rfl
 ·exact I1.fpOk (bp _) (I1.hok.fresh (bp _))
 ·exact I1.fpOk (az _) (I1.hok.fresh (az _))⟩
end
section
variable{g:TG}{tc:TT}{H1:Hp}{Q:VK}
end
theorem xu:∀(p:Nat) (m:List Nat),risingS (tx [p]) (m.map fun c=>tx [c])=true->(∀c∈m,p<=c)/\m.Pairwise (· <= ·)
 |p,[],_=>⟨fun c h=>by simp at h,.nil⟩
 |p,c::r,h=>by
  have h':(!ltCps (tx [c]).cps.toList (tx [p]).cps.toList&&risingS (tx [c]) (r.map fun c=>tx [c]))=true:=h
  rw[dB]at h'
  obtain⟨a,b⟩:=h'
  obtain⟨b1,b2⟩:=xu c r b
  have hpc:p<=c:=by
   rw[ltCps_eq]at a
   have a':(!decide ([c]<[p]))=true:=a
   have:=of_decide_eq_false (hV _▸a')
   rcases Nat.lt_or_ge c p with z|z
   ·exact absurd (List.Lex.rel z) this
   ·exact z
  refine⟨fun x hx=>?_,bX.mpr ⟨b1,b2⟩⟩
  rcases aT.mp hx with rfl|hx
  ·exact hpc
  ·exact aN hpc (b1 x hx)
theorem Ad:∀(m:List Nat),sortedS ((m.map fun c=>[c]).map tx)=true->m.Pairwise (· <= ·)
 |[],_=>.nil
 |c::r,h=>by
  have h':risingS (tx [c]) ((r.map fun c=>[c]).map tx)=true:=h
  rw[b9]at h'
  obtain⟨a,b⟩:=xu c r h'
  exact bX.mpr ⟨a,b⟩
theorem eT:Slot "set_iterator" "__next__" "set_iterator.__next__":=.of (owner:="set_iterator") (n:="__next__") (by rw[typeLookup_type,n_];kernel_rfl) (by decide +kernel) (by decide +kernel) (by decide +kernel) (by first|exact .inl (by decide +kernel)|exact .inr (by decide +kernel)) (by rw[eu];kernel_rfl)
theorem lM:entryFor table "set_iterator.__next__"=some Builtin.«set_iterator.__next__»:=entryFor_of_tree (by kernel_rfl)
theorem lN(a:Value):argsOk "set_iterator.__next__" ⟨[a],[]⟩:=by unfold argsOk;kernel_rfl
theorem Ae:entryFor table "set.__iter__"=some Builtin.«frozenset.__iter__»:=entryFor_alias (id':="frozenset.__iter__") (by kernel_rfl) (by first|rfl|decide +kernel|(unfold String.splitOn;simp +decide [String.splitOnAux])) (by decide +kernel) (by kernel_rfl)
noncomputable def ur(w:World):Bool:=w.params.followText "set-order"
def Do(w:World)(n:Nat)(t:SetTable):Prop:=(ur w=true\/t.led=true)/\(n=0\/t.plain=false)
theorem Ex(t:SetTable)(es:Array (Int×Value))(h:Int)(x:Value):(layNew t es h x).2.1.led=t.led/\(t.plain=false->(layNew t es h x).2.1.plain=false):=by
 unfold layNew
 split
 ·dsimp only
  unfold SetTable.orStandIn
  split
  ·exact⟨rfl,fun z=>z⟩
  ·exact⟨rfl,fun _=>rfl⟩
 ·exact⟨rfl,fun _=>rfl⟩
theorem yC{t t':SetTable}{hs:Array Int}{o:Array Nat}(h:t.relaid hs n=some (t',o)):t'.led=t.led/\t'.plain=t.plain:=by
 unfold SetTable.relaid SetTable.laid at h
 cases hc:SetTable.layClean (SetTable.sizeAbove n-1) hs with
 |none=>rw[hc]at h;cases h
 |some ow=>
  rw[hc]at h
  have h':=bq h
  obtain⟨a,_⟩:=Prod.mk.inj h'
  subst a
  exact⟨rfl,rfl⟩
theorem Af(t:SetTable)(es:Array (Int×Value))(n:Nat):(relayAll t es n).2.1.led=t.led/\(t.plain=false->(relayAll t es n).2.1.plain=false):=by
 unfold relayAll
 split
 ·rename_i t' o he
  obtain⟨a,b⟩:=yC he
  dsimp only
  split
  ·exact⟨a,fun z=>b.trans z⟩
  ·exact⟨rfl,fun _=>rfl⟩
 ·exact⟨rfl,fun _=>rfl⟩
section
variable{w:World}
def ve(prog:Program)(w:World)(n:Nat)(h:Heap)(a:Addr)(ks:List Str):Prop:=
 ∃o es ep t,h.get? a=some o/\o.ExactSet/\o.data=.set es ep t/\ElemsOf (PySem.strKind prog w) es.toList/\(es.toList.map fun e=>strOf e.2).Perm ks/\es.size<scanBound/\t.fits es.size=true/\Do w es.size t/\iL n (es.toList.map (·.2))
theorem Ag{l:List (Int×Value)}(h:ElemsOf (PySem.strKind prog w) l):∀e∈l,∃t,e.2=.str (strOf e.2) t:=fun e he=>by
 obtain⟨⟨k,hk,_⟩,_⟩:=h e he
 obtain⟨t,ht⟩:=kK hk
 exact⟨t,by rw[ht];rfl⟩
theorem xw{k:Str}{e:Int×Value}{l:List (Int×Value)}(h:ElemsOf (PySem.strKind prog w) l)(he:e∈l):(PySem.strKind prog w).is k e.2=true↔k=strOf e.2:=by
 obtain⟨t,ht⟩:=Ag h e he
 constructor
 ·intro z
  obtain⟨u,hu⟩:=kK z
  rw[hu];rfl
 ·intro z
  show Value.isStrOf k e.2=true
  rw[ht,z]
  show Value.isStrOf (strOf e.2) (.str (strOf e.2) t)=true
  unfold Value.isStrOf;simp
theorem ve.keep{a:Addr}(z:ve prog w n h a ks)(k:∀o,h.get? a=some o->h'.get? a=some o):ve prog w n h' a ks:=let ⟨o,es,ep,t,ho,r⟩:=z;⟨o,es,ep,t,k o ho,r⟩
theorem iL.up{l:List Value}(h:iL n l)(hn:n<=n'):iL n' l:=fun x t hx h1=>⟨(h x t hx h1).1,aP (h x t hx h1).2 hn⟩
theorem ve.up{a:Addr}(z:ve prog w n h a ks)(hn:n<=n'):ve prog w n' h a ks:=let ⟨o,es,ep,t,ho,h1,h2,h3,h4,h5,h6,h7,h8⟩:=z;⟨o,es,ep,t,ho,h1,h2,h3,h4,h5,h6,h7,h8.up hn⟩
theorem JZ{a:Addr}{x:Str}{tk:Tok}{Q:Bool->Shared->Prop}(z:ve prog w n s.heap a ks)(SZ:x.length=1->0<tk/\tk<n)(UI:ks.length+1<scanBound)
  (q:∀b g,Heap.SameBut a s.heap g->ve prog w n g a (if x∈ks then ks else ks++[x])->Q b { s with heap:=g }):wpAny #[8] A (setAddHashed a (.str x tk) ((PySem.strKind prog w).hash x)) Q E s:=by
 obtain⟨o,es,ep,t,ho,zP,hd,hel,hp,hb,hf,Jl,hta⟩:=z
 have fX:es.size=ks.length:=by have:=hp.length_eq;simpa using this
 have hkey:(PySem.strKind prog w).is x (.str x tk)=true:=by show Value.isStrOf x (.str x tk)=true;unfold Value.isStrOf;simp
 have hsc:(Value.str x tk).scannable=true:=rfl
 unfold setAddHashed setAddHashedIn
 refine dm (af (f7 ho hd hf ?_))
 dsimp only
 rw[byScan_of hsc hb hel,aE rfl]
 unfold setAddByScan
 refine af (af (jS (af (wpAny_setScan_of hkey ho hd hf hel ?_))))
 cases hr:List.findIdx? (fun e=>(PySem.strKind prog w).is x e.2) es.toList with
 |some j=>
  obtain⟨hj,hpj,_⟩:=List.findIdx?_eq_some_iff_getElem.mp hr
  have hin:x∈ks:=hp.mem_iff.mp (c9.mpr ⟨es.toList[j],eQ hj,((xw hel (eQ hj)).mp hpj).symm⟩)
  refine ay (ay ?_)
  have e1:=q false s.heap (Heap.SameBut.refl a s.heap) (by rw[aE hin];exact⟨o,es,ep,t,ho,zP,hd,hel,hp,hb,hf,Jl,hta⟩)
  exact e1
 |none=>
  have hin:¬ x∈ks:=fun hx=>by
   obtain⟨e,he,hxe⟩:=c9.mp (hp.mem_iff.mpr hx)
   have y:=List.findIdx?_eq_none_iff.mp hr e he
   rw[(xw hel he).mpr hxe.symm]at y
   cases y
  have q':=fun b g h1 h2=>q b g h1 (by rw[aL hin];exact h2)
  dsimp only
  have lp:=layNew_perm t es ((PySem.strKind prog w).hash x) (.str x tk)
  have lf:=layNew_fits t es ((PySem.strKind prog w).hash x) (.str x tk)
  have lm:=Ex t es ((PySem.strKind prog w).hash x) (.str x tk)
  generalize layNew t es ((PySem.strKind prog w).hash x) (.str x tk)=L at lp lf lm ⊢
  obtain⟨es1,t1,wd,gv⟩:=L
  dsimp only at lp lf lm ⊢
  rw[lY]at lp
  have el1:ElemsOf (PySem.strKind prog w) es1.toList:=(hel.push hkey hsc).perm lp
  have sz1:es1.size=es.size+1:=by have:=lp.length_eq;simpa using this
  have b1:es1.size<scanBound:=by omega
  have p1:(es1.toList.map fun e=>strOf e.2).Perm (ks++[x]):=by
   have y:=lp.map fun e:Int×Value=>strOf e.2
   rw[bb]at y
   exact y.trans (hp.append_right _)
  have ta1:iL n (es1.toList.map (·.2)):=fun y u hy=>by
   obtain⟨e,he,ee⟩:=c9.mp hy
   rcases aX.mp (lp.mem_iff.mp he)with z|z
   ·exact hta y u (c9.mpr ⟨e,z,ee⟩)
   ·rw[a9]at z
    subst z
    cases ee
    exact SZ
  have gw:∀(b:Bool) {s₁:Shared} {Q':Unit->Shared->Prop},Q' () s₁->wpAny #[8] A (match b with|true=>rule "set.scan.the-table-gave-way" | false=>pure ()) Q' E s₁:=fun b _ _ y=>by cases b<;>first|exact ay y|exact jS y
  refine af (gw _ ?_)
  have kJ:∀t2:SetTable,t2.fits es1.size=true->t2.led=t.led->t2.plain=false->wpAny #[8] A (do
    storeSet a es1 t2
    if (!wd&&t2.tooFull)=true then do
      (match (relayAll t2 es1 (SetTable.grown es1.size)).2.2 with|true=>rule "set.scan.the-table-gave-way" | false=>pure ())
      storeSet a (relayAll t2 es1 (SetTable.grown es1.size)).1 (relayAll t2 es1 (SetTable.grown es1.size)).2.1
      pure (some true)
     else pure (some true)) (fun r s'=>wpAny #[8] A (match r with|some added=>pure added|none=>setAddHashedIn a (.str x tk) ((PySem.strKind prog w).hash x) 99999) Q E s') E s:=by
   intro t2 f2 l2 n2
   have to2:Do w es1.size t2:=⟨by rw[l2];exact Jl.1,.inr n2⟩
   refine af (wpAny_storeSet_of ho hd ?_ (fits_of_scanBound b1))
   have g1:(s.heap.update a (Obj.putSet es1 t2)).get? a=some { o with data:=.set es1 (ep+1) t2 }:=by
    have y:=dH (Obj.putSet es1 t2) ho (by rw[tO es1 t2 hd];rfl)
    rw[tO es1 t2 hd]at y;exact y
   have sb:=iG s.heap a (Obj.putSet es1 t2)
   split
   ·have rp:=relayAll_perm t2 es1 (SetTable.grown es1.size)
    have rf:=relayAll_fits t2 es1 (SetTable.grown es1.size)
    have rm:=Af t2 es1 (SetTable.grown es1.size)
    generalize relayAll t2 es1 (SetTable.grown es1.size)=R at rp rf rm ⊢
    obtain⟨es2,t3,gv2⟩:=R
    dsimp only at rp rf rm ⊢
    have sz2:es2.size=es1.size:=by have:=rp.length_eq;simpa using this
    refine af (gw _ (af (wpAny_storeSet_of g1 rfl (ay (ay ?_)) (fits_of_scanBound #[0]))))
    have g2:((s.heap.update a (Obj.putSet es1 t2)).update a (Obj.putSet es2 t3)).get? a=some { o with data:=.set es2 (ep+1+1) t3 }:=by
     have y:=dH (Obj.putSet es2 t3) g1 (by rw[tO es2 t3 rfl];rfl)
     rw[tO es2 t3 rfl]at y;exact y
    refine q' true _ (sb.trans (iG _ a _)) ⟨_,es2,_,t3,g2,zP,rfl,el1.perm rp,?_,by omega,rf,?_⟩
    ·exact(rp.map fun e:Int×Value=>strOf e.2).trans p1
    ·exact⟨⟨by rw[rm.1,l2];exact Jl.1,.inr (rm.2 n2)⟩,fun y u hy=>ta1 y u ((rp.map _).mem_iff.mp hy)⟩
   ·exact ay (ay (q' true _ sb ⟨_,es1,_,t2,g1,zP,rfl,el1,p1,b1,f2,to2,ta1⟩))
  by_cases p_:t1.plain=true
  ·rw[aE p_,hashByValue_scannable 8 hsc]
   refine af (ay ?_)
   exact kJ { t1 with plain:=false } (SetTable.fits_plain_off lf) lm.1 rfl
  ·rw[aL p_]
   refine af (ay ?_)
   exact kJ t1 lf lm.1 (by simpa using p_)
end
section
variable{w:World}{R:Result->Shared->Prop}{I:Addr}{wr:List Addr}{P:Nat->Value->Prop}{St:Nat->Heap->Prop}
def K6(prog:Program)(w:World)(m:Nat)(val:Nat->Str)(h:Heap)(a:Addr)(i:Nat):Prop:=∃ks,ve prog w m h a ks/\ks.Nodup/\(∀x,x∈ks↔∃j,j<i/\val j=x)/\ks.length<=i
theorem F6(W:Walks prog w A.in1 I fp wr n P St)(S:Addr)(UK:S∉fp)(val:Nat->Str)(BC:∀i v,P i v->∃t,v=.str (val i) t)(hb:n+1<scanBound){n0:Nat}
  (Bz:∀i (s:Shared) (Q:Option Value->Shared->Prop) (E:Value->Shared->Prop),n0<=s.toks->i<n->St i s.heap ->
   (∀v h' tk,s.toks<=tk->iL tk [v]->P i v->St (i+1) h'->(∀b o,b∉wr->s.heap.get? b=some o->h'.get? b=some o)->Q (some v) { s with heap:=h',toks:=tk })->wpAny #[8] A.in1 (pyNext (.ref I)) Q E s) :
  ∀(k i:Nat) (s:Shared),n-i=k->i<=n->n0<=s.toks->St i s.heap->K6 prog w s.toks val s.heap S i ->
   (∀g tk,s.toks<=tk->K6 prog w tk val g S n->(∀b o,b≠S->b∉wr->s.heap.get? b=some o->g.get? b=some o)->R (.ok (.ret .none)) { s with heap:=g,toks:=tk }) ->
   codeAny #[8] A (.builtin "set.update.loop" ⟨[.ref S,.ref I],[]⟩) R s:=by
 have hSw:S∉wr:=fun h=>UK (W.sub _ h)
 intro k
 induction k with
 |zero=>
  intro i s hk hi hn0 st hM hR
  obtain rfl:i=n:=by omega
  refine dN iH ?_
  rw[cY eZ _]
  show wpAny _ A.in1 (pyNext (.ref I) >>= _) _ _ s
  refine af (up (W.done s _ _ st fun g tk kp kW=>ay (hR g tk kW ?_ fun b o _ hb e=>kp b o hb e)))
  obtain⟨ks,z,r⟩:=hM
  exact⟨ks,(z.keep fun o e=>kp S o hSw e).up kW,r⟩
 |succ k ih=>
  intro i s hk hi hn0 st hM hR
  have hlt:i<n:=by omega
  refine dN iH ?_
  rw[cY eZ _]
  show wpAny _ A.in1 (pyNext (.ref I) >>= _) _ _ s
  refine af (Bz i s _ _ hn0 hlt st fun v g tk kW hta hP bn kp=>?_)
  obtain⟨t,rfl⟩:=BC i v hP
  obtain⟨ks,z,nd,mem,len⟩:=hM
  have z':ve prog w (tk+1) g S ks:=(z.keep fun o e=>kp S o hSw e).up (hJ kW)
  refine af (dm ?_)
  unfold setAdd
  refine dm (af ((PySem.strKind prog w).pyHash (k:=val i) (show Value.isStrOf (val i) (.str (val i) t)=true by unfold Value.isStrOf;simp) ?_))
  refine JZ (s:={ s with heap:=g,toks:=tk+1 }) z' (fun h1=>⟨(hta _ t #[15] h1).1,cU (hta _ t #[15] h1).2⟩) #[0] fun _ g2 sb z2=>?_
  refine ay ⟨fv eZ _,ih (i+1) _ #[0] hlt (aN hn0 (hJ kW)) (W.frame _ _ _ bn fun b hb o e=>?_) ?_ fun g3 tk3 hle3 hM3 kp3=>?_⟩
  ·rw[sb.2 b (fun h:b=S=>UK (by rw[<- h];exact hb))];exact e
  ·refine⟨_,z2,?_,fun x=>?_,?_⟩
   ·by_cases hx:val i∈ks
    ·rw[aE hx];exact nd
    ·rw[aL hx];exact lZ.mpr ⟨nd,by simp,fun a ha b hb=>by rw[a9]at hb;subst hb;exact fun e=>hx (e▸ha)⟩
   ·by_cases hx:val i∈ks
    ·rw[aE hx,mem x]
     constructor
     ·rintro⟨j,hj,e⟩;exact⟨j,by omega,e⟩
     ·rintro⟨j,hj,e⟩
      by_cases hji:j=i
      ·subst hji;subst e;exact(mem _).mp hx
      ·exact⟨j,by omega,e⟩
    ·rw[aL hx,aX,mem x,a9]
     constructor
     ·rintro(⟨j,hj,e⟩|e)
      ·exact⟨j,by omega,e⟩
      ·exact⟨i,by omega,e.symm⟩
     ·rintro⟨j,hj,e⟩
      by_cases hji:j=i
      ·subst hji;exact .inr e.symm
      ·exact .inl ⟨j,by omega,e⟩
   ·by_cases hx:val i∈ks
    ·rw[aE hx];omega
    ·rw[aL hx,ah,cf];omega
  ·exact hR g3 tk3 (aN (hJ kW) hle3) hM3 fun b o hb hw e=>kp3 b o hb hw ((sb.2 b hb).trans (kp b o hw e))
end
section
variable{w:World}
abbrev dZ(w:World):Obj:={ cls:=.type "set",dict:=none,data:=.set #[] 0 (.fresh 0 0 (!ur w)) }
theorem Ah(a:Value){Q₁:Value->Shared->Prop}(h:Q₁ (.ref s.heap.objs.size) { s with heap:=s.heap.push (dZ w) }) :
  codeAny #[8] A (.call (.builtin "set.__new__") ⟨[.type "set",a],[]⟩) (wants Q₁ E) s:=by
 refine codeAny_of_tree ?_
 show wpAny _ A.in1 (do checkBuiltinCall "set.__new__" ⟨[.type "set",a],[]⟩;again (.builtin "set.__new__" ⟨[.type "set",a],[]⟩)) _ _ s
 refine af (wpAny_of_eq (PySem.F.newCall_set_1 a) (ay ⟨fv PySem.F.plain_set_new _,dN PySem.F.entry_set_new ?_⟩))
 rw[cY PySem.F.plain_set_new _]
 unfold Builtin.«set.__new__» Builtin.Frozenset.newClass
 have sb:=sub_set_self
 obtain⟨hp,g,d,tk,os⟩:=s
 dsimp only
 wp_walk
 refine mO (ay ?_)
 dsimp only
 simp only[newObj]
 exact af (wpAny_alloc (ay (ay h)))
set_option maxHeartbeats 8000000 in
theorem l8{T:String}{S7:Obj}{fp:Addr->List Addr}{n:Nat}{P:Nat->Value->Prop}{St:Addr->Nat->Heap->Prop}{val:Nat->Str}{Q:Value->Shared->Prop}(hT:Shared.TypeIs { s with heap:=s.heap.push (dZ w) } v T)
  (n1:isSubtype (.type T) (.type "set")=pure false) (n2:isSubtype (.type T) (.type "frozenset")=pure false) (n3:(Value.type T==Value.type "dict")=false)
  (pi:∀(A:Around) (E:Value->Shared->Prop) (Q:Value->Shared->Prop),Q (.ref #[6]) { s with heap:=(s.heap.push (dZ w)).push S7 }->wpAny #[8] A (pyIter v) Q E { s with heap:=s.heap.push (dZ w) })
  (W:∀(A:Around) (it:Addr),A.handled=none->it=s.heap.objs.size+1->Walks prog w A it (fp it) [it] n P (St it)) (R9:s.heap.objs.size∉fp #[6]) (st:St #[6] 0 ((s.heap.push (dZ w)).push S7)) (BC:∀i v,P i v->∃t,v=.str (val i) t)
  (hh:A.handled=none) (hb:n+1<scanBound)
  (Bz:∀(A:Around),A.handled=none->∀i (s':Shared) (Q:Option Value->Shared->Prop) (E:Value->Shared->Prop),s.toks<=s'.toks->i<n->St #[6] i s'.heap ->
   (∀v h' tk,s'.toks<=tk->iL tk [v]->P i v->St #[6] (i+1) h'->(∀b o,b∉[s.heap.objs.size+1]->s'.heap.get? b=some o->h'.get? b=some o)->Q (some v) { s' with heap:=h',toks:=tk })->wpAny #[8] A (pyNext (.ref #[6])) Q E s')
  (q:∀g tk,s.toks<=tk->K6 prog w tk val g s.heap.objs.size n->(∀b o,s.heap.get? b=some o->g.get? b=some o)->Q (.ref s.heap.objs.size) { s with heap:=g,toks:=tk }) :
  wpAny #[8] A (call (.type "set") [v]) Q E s:=by
 obtain⟨c,tl,hmro⟩:=PySem.F.called_set.mro
 have hmade:=PySem.F.called_set.made
 have hsub:=PySem.F.called_set.sub
 refine qV (codeAny_of_tree ?_)
 show wpAny _ _ (callAny (.type "set") _) _ _ _
 refine ay ⟨Code.quiet_builtin _ (by decide +kernel),dN PySem.F.entry_type_call ?_⟩
 rw[Around.under_plain (weight_type_call_type "set" [v] []) rfl]
 have h1:=PySem.F.called_set.notType
 have h2:=PySem.F.called_set.canCreate
 have hct:=PySem.F.typeCall_set_1 v
 repeat(any_goals (first|assumption|wp_step))
 refine iw (Ah v (E:=E) (Q₁:=fun obj s₁=>obj=.ref s.heap.objs.size/\s₁={ s with heap:=s.heap.push (dZ w) }) ⟨rfl,rfl⟩) fun r s₁ hr=>?_
 cases r with
 |error e=>exact hr
 |ok fl=>
  cases fl with
  |ret obj=>
   obtain⟨rfl,rfl⟩:=hr
   have gS:(s.heap.push (dZ w)).get? s.heap.objs.size=some (dZ w):=aC _ rfl
   have tS:Shared.TypeIs { s with heap:=s.heap.push (dZ w) } (.ref s.heap.objs.size) "set":=⟨_,gS,rfl⟩
   have hli:=PySem.F.called_set.init.lookup
   have hbi:=PySem.F.called_set.init.bind (.ref s.heap.objs.size)
   repeat(any_goals (first|assumption|wp_step))
   refine iw (codeAny_call_builtin (R:=wants (fun r s₂=>r=.none/\∃g tk,s₂={ s with heap:=g,toks:=tk }/\s.toks<=tk/\K6 prog w tk val g s.heap.objs.size n/\(∀b o,s.heap.get? b=some o->g.get? b=some o)) E) PySem.F.called_set.init.plain PySem.F.entry_set_init (check_set_init_1 tS ?_)) fun r₂ s₂ hr₂=>?_
   ·unfold Builtin.«set.__init__» noKeywords Builtin.Frozenset.updateFrom
    generalize hPI:pyIter=PI
    wp_walk
    subst hPI
    refine pi _ _ _ (af (pD ?_))
    have g0:((s.heap.push (dZ w)).push S7).get? s.heap.objs.size=some (dZ w):=av _ gS
    have m0:K6 prog w s.toks val ((s.heap.push (dZ w)).push S7) s.heap.objs.size 0:=⟨[],⟨_,#[],0,_,g0,⟨rfl,rfl,rfl⟩,rfl,fun e he=>by simp at he,by simp,by unfold scanBound;decide,rfl,?_⟩,List.nodup_nil,fun x=>by simp,az _⟩
    ·refine F6 (W _ _ (by simpa using hh) rfl) s.heap.objs.size R9 val BC hb (n0:=s.toks) (Bz _ (by simpa using hh)) (n-0) 0 _ rfl (cn _) (az _) st m0 fun g tk kW hM kp=>?_
     refine ay (ay ⟨rfl,g,tk,rfl,kW,hM,fun b o e=>kp b o (bd (aH e)) (fun hbm=>?_) (av _ (av _ e))⟩)
     rw[a9]at hbm
     exact absurd (aH e) (by rw[hbm];exact i_.mpr (bp _))
    ·refine⟨⟨?_,.inl rfl⟩,fun x t hx=>by simp at hx⟩
     show ur w=true\/(!ur w)=true
     cases ur w<;>simp
   ·cases r₂ with
    |error e=>exact hr₂
    |ok fl₂=>
     cases fl₂ with
     |ret r=>
      obtain⟨rfl,g,tk,rfl,kW,hM,kp⟩:=hr₂
      repeat(any_goals (first|assumption|wp_step))
      exact q g tk kW hM kp
     |_=>exact hr₂.elim
  |_=>exact hr.elim
end
theorem qy:∀{l:List α} {i:Nat} (h:i<l.length),(l[i]::l.eraseIdx i).Perm l
 |x::r,0,_=>ie _
 |x::r,i+1,h=>(List.Perm.swap x (r[i]'(by simpa using h)) (r.eraseIdx i)).trans ((qy (l:=r) (i:=i) (by simpa using h)).cons x)
section
theorem wK{UX:Source}{Q:Nat->Shared->Prop}(hn:n≠0)(h:∀i,i<n->∀d,Q i { s with drawn:=d }):wpAny M A (choose UX n) Q E s:=fun _ _ _=>⟨hn,h _ (Nat.mod_lt _ (Nat.pos_of_ne_zero hn)) _⟩
theorem Ai:∀(n:Nat) (xs:List α) (s:Shared) (Q:List α->Shared->Prop),xs.length=n->(∀ys,ys.Perm xs->∀d,Q ys { s with drawn:=d })->wpAny M A (drawOrder n xs) Q E s
 |0,xs,s,Q,hl,h=>by
  have e:xs=[]:=gz hl
  subst e
  unfold drawOrder
  exact ay (h [] (ie _) s.drawn)
 |n+1,[],s,Q,hl,h=>by simp at hl
 |n+1,x::r,s,Q,hl,h=>by
  unfold drawOrder
  refine af (wK #[15] fun i hi d=>?_)
  have e:(x::r)[i]?=some (x::r)[i]:=aq hi
  rw[e]
  dsimp only
  refine af (Ai n ((x::r).eraseIdx i) _ _ (by rw[List.length_eraseIdx,aE hi];simp at hl ⊢;omega) fun ys hp d'=>ay (h _ ?_ d'))
  exact(List.Perm.cons _ hp).trans (qy hi)
theorem Dp(next:Nat->Nat):∀(KP k:Nat) (BG:List α) (out:Array α),BG.length=KP->(pickOrder.go next KP k BG out).toList.Perm (out.toList++BG)
 |0,k,BG,out,h=>by
  have e:BG=[]:=gz h
  subst e
  unfold pickOrder.go
  simp
 |KP+1,k,BG,out,h=>by
  have hlt:next k%BG.length<BG.length:=Nat.mod_lt _ #[0]
  unfold pickOrder.go
  rw[aq hlt]
  dsimp only
  refine(Dp next KP (k+1) _ _ (by rw[List.length_eraseIdx,aE hlt];omega)).trans ?_
  rw[lY,ak]
  exact og _ (qy hlt)
theorem Ey(next:Nat->Nat)(xs:Array α):(pickOrder next xs).toList.Perm xs.toList:=by
 unfold pickOrder
 have:=Dp next xs.size 0 xs.toList #[] #[15]
 simpa using this
end
noncomputable abbrev qe(f:Value)(i:Int)(S:Addr)(n ep:Nat):Obj:={ cls:=.type "set_iterator",dict:=none,data:=.fields #[f,rawInt i,.ref S,rawInt n,rawInt ep],slots:=#[] }
section
variable{w:World}
theorem vf{Q:Fin->Shared->Prop}(hh:A.handled=none)(q:∀g e,(∀b o,s.heap.get? b=some o->g.get? b=some o)->(∃o,g.get? e=some o/\o.cls=.type "StopIteration")->E (.ref e) { s with heap:=g }) :
  wpAny #[8] A (do let x <- newExc (.type "StopIteration") [];raiseNew x) Q E s:=by
 refine af ?_
 simp only[newExc,newTuple]
 refine af (cz (af (m:=firstArgMember _ _) (wpAny_of_eq (a:=Value.none) (by first|rfl|(simp only[firstArgMember];rfl)) (cz ?_ (by size_fits)))) (by size_fits))
 simp only[raiseNew]
 refine af (wpAny_handled ?_)
 rw[hh]
 exact af (ay (wpAny_throw (q _ _ (fun b o e=>av _ (av _ e)) ⟨_,aC _ rfl,rfl⟩)))
structure jE(w:World)(h:Heap)(S:Addr)(es:Array (Int×Value))(ep:Nat)(t:SetTable):Prop where
 ex:∃o,h.get? S=some o/\o.ExactSet/\o.data=.set es ep t
 fits:t.fits es.size=true
theorem jE.keep{S:Addr}{es:Array (Int×Value)}{t:SetTable}(z:jE w h S es ep t)(k:∀o,h.get? S=some o->h'.get? S=some o):jE w h' S es ep t:=⟨let ⟨o,ho,r⟩:=z.ex;⟨o,k o ho,r⟩,z.fits⟩
theorem Ez{S p:Addr}{k:Nat}{es:Array (Int×Value)}{t:SetTable}{pv:Array Value}{pn:Nat}{x:Int×Value}{Q:Option Value->Shared->Prop}(pi:s.heap.get? it=some (qe (.ref p) i S n ep))(hS:jE w s.heap S es ep t)(hn:es.size=n)
  (hp:∃o,s.heap.get? p=some o/\o.cls=.type "tuple"/\o.data=.seq pv pn) (hk:pv[i]?=some (rawInt k)) (hx:es[k]?=some x)
  (q:∀g,g.get? it=some (qe (.ref p) ((i:Int)+1) S n ep)->Heap.SameBut it s.heap g->Q (some x.2) { s with heap:=g }):wpAny #[8] A (pyNext (.ref it)) Q E s:=by
 obtain⟨o,ho,zP,hd⟩:=hS.ex
 obtain⟨op,hop,hcp,hdp⟩:=hp
 have T:Shared.TypeIs s (.ref it) "set_iterator":=⟨_,pi,rfl⟩
 unfold pyNext
 refine af (gW (bP (name:=Str.ofString "__next__") T eT (b8 eT T lM ?_ (lN _))))
 show wpAny _ _ (fieldsOf (.ref it) >>= _) _ _ s
 refine af (lF pi rfl ?_)
 dsimp only
 refine af (gf ho hd hS.fits ?_)
 rw[aL (by rw[hn];simp)]
 refine af (et hop hdp ?_)
 simp only[bV,hk]
 unfold setNextDrawn
 refine af (af (f7 ho hd hS.fits ?_))
 dsimp only
 rw[aL #[15],bV,hx]
 refine ay (af (cD pi #[15] fun g e1 e2=>ay ⟨_,rfl,ay (q g (by simpa using e1) e2)⟩))
theorem wL{S p:Addr}{es:Array (Int×Value)}{t:SetTable}{pv:Array Value}{pn:Nat}{Q:Option Value->Shared->Prop}(hh:A.handled=none)(pi:s.heap.get? it=some (qe (.ref p) i S n ep))(hS:jE w s.heap S es ep t)(hn:es.size=n)
  (hp:∃o,s.heap.get? p=some o/\o.cls=.type "tuple"/\o.data=.seq pv pn) (hk:pv[i]?=none)
  (q:∀g,(∀b o,b≠it->s.heap.get? b=some o->g.get? b=some o)->Q none { s with heap:=g }):wpAny #[8] A (pyNext (.ref it)) Q E s:=by
 obtain⟨o,ho,zP,hd⟩:=hS.ex
 obtain⟨op,hop,hcp,hdp⟩:=hp
 have T:Shared.TypeIs s (.ref it) "set_iterator":=⟨_,pi,rfl⟩
 unfold pyNext
 refine af (gW (bP (name:=Str.ofString "__next__") T eT (b8 eT T lM ?_ (lN _))))
 show wpAny _ _ (fieldsOf (.ref it) >>= _) _ _ s
 refine af (lF pi rfl ?_)
 dsimp only
 refine af (gf ho hd hS.fits ?_)
 rw[aL (by rw[hn];simp)]
 refine af (et hop hdp ?_)
 simp only[bV,hk]
 refine af (cD pi #[15] fun g e1 e2=>af (cD e1 #[15] fun g2 e3 e4=>vf (s:={ s with heap:=g2 }) (show A.in1.handled=none from hh) fun g3 e kp hx=>?_))
 obtain⟨ox,hox,hcx⟩:=hx
 refine af (gp (T:="StopIteration") (b:=true) ⟨ox,hox,hcx⟩ lE (ay (q g3 fun b o hb e=>kp b o ?_)))
 exact e4.extBut b o hb (e2.extBut b o hb e)
theorem F7{S:Addr}{sl sl':Nat}{es:Array (Int×Value)}{t:SetTable}{x:Value}{Q:Option Value->Shared->Prop}(pi:s.heap.get? it=some (qe (rawInt sl) i S n ep))(hS:jE w s.heap S es ep t)(hn:es.size=n)
  (hx:∀(Q':Option (Value×Nat)->Shared->Prop) (E':Value->Shared->Prop),Q' (some (x,sl')) s->wpAny #[8] A.in1 (setNext S sl i ep) Q' E' s)
  (q:∀g,g.get? it=some (qe (rawInt sl') ((i:Int)+1) S n ep)->Heap.SameBut it s.heap g->Q (some x) { s with heap:=g }):wpAny #[8] A (pyNext (.ref it)) Q E s:=by
 obtain⟨o,ho,zP,hd⟩:=hS.ex
 have T:Shared.TypeIs s (.ref it) "set_iterator":=⟨_,pi,rfl⟩
 unfold pyNext
 refine af (gW (bP (name:=Str.ofString "__next__") T eT (b8 eT T lM ?_ (lN _))))
 show wpAny _ _ (fieldsOf (.ref it) >>= _) _ _ s
 refine af (lF pi rfl ?_)
 dsimp only
 refine af (gf ho hd hS.fits ?_)
 rw[aL (by rw[hn];simp)]
 show wpAny _ _ (setNext S (sl:Int).toNat (i:Int).toNat (ep:Int).toNat >>= _) _ _ s
 simp only[bV]
 refine af (hx _ _ ?_)
 dsimp only
 refine af (cD pi #[15] fun g e1 e2=>af (cD e1 #[15] fun g2 e3 e4=>ay ⟨_,rfl,ay (q g2 (by simpa using e3) (e2.trans e4))⟩))
theorem yD{S:Addr}{sl:Nat}{es:Array (Int×Value)}{t:SetTable}{Q:Option Value->Shared->Prop}(hh:A.handled=none)(pi:s.heap.get? it=some (qe (rawInt sl) i S n ep))(hS:jE w s.heap S es ep t)(hn:es.size=n)
  (hx:∀(Q':Option (Value×Nat)->Shared->Prop) (E':Value->Shared->Prop),Q' none s->wpAny #[8] A.in1 (setNext S sl i ep) Q' E' s)
  (q:∀g,(∀b o,b≠it->s.heap.get? b=some o->g.get? b=some o)->Q none { s with heap:=g }):wpAny #[8] A (pyNext (.ref it)) Q E s:=by
 obtain⟨o,ho,zP,hd⟩:=hS.ex
 have T:Shared.TypeIs s (.ref it) "set_iterator":=⟨_,pi,rfl⟩
 unfold pyNext
 refine af (gW (bP (name:=Str.ofString "__next__") T eT (b8 eT T lM ?_ (lN _))))
 show wpAny _ _ (fieldsOf (.ref it) >>= _) _ _ s
 refine af (lF pi rfl ?_)
 dsimp only
 refine af (gf ho hd hS.fits ?_)
 rw[aL (by rw[hn];simp)]
 show wpAny _ _ (setNext S (sl:Int).toNat (i:Int).toNat (ep:Int).toNat >>= _) _ _ s
 simp only[bV]
 refine af (hx _ _ ?_)
 dsimp only
 refine af (cD pi #[15] fun g e1 e2=>vf (s:={ s with heap:=g }) (show A.in1.handled=none from hh) fun g3 e kp hx=>?_)
 obtain⟨ox,hox,hcx⟩:=hx
 exact af (gp (T:="StopIteration") (b:=true) ⟨ox,hox,hcx⟩ lE (ay (q g3 fun b o hb e=>kp b o (e2.extBut b o hb e))))
end
theorem tZ:Slot "set_iterator" "__iter__" "set_iterator.__iter__":=.of (owner:="set_iterator") (n:="__iter__") (by rw[typeLookup_type,n_];kernel_rfl) (by decide +kernel) (by decide +kernel) (by decide +kernel) (by first|exact .inl (by decide +kernel)|exact .inr (by decide +kernel)) (by rw[eu];kernel_rfl)
theorem Aj(a:Value):argsOk "set_iterator.__iter__" ⟨[a],[]⟩:=by unfold argsOk;kernel_rfl
theorem Ak:entryFor table "set_iterator.__iter__"=some Builtin.«dict_keyiterator.__iter__»:=entryFor_alias (id':="dict_keyiterator.__iter__") (by kernel_rfl) (by first|rfl|decide +kernel|(unfold String.splitOn;simp +decide [String.splitOnAux])) (by decide +kernel) (by kernel_rfl)
section
variable{w:World}
theorem Al{S:Addr}{f:Value}{i:Int}(pi:s.heap.get? it=some (qe f i S n ep))(q:Q (.ref it) s):wpAny #[8] A (pyIter (.ref it)) Q E s:=by
 have T:Shared.TypeIs s (.ref it) "set_iterator":=⟨_,pi,rfl⟩
 exact wpAny_pyIter_slot T tZ (b8 tZ T Ak (ay ⟨_,rfl,"set_iterator",_,T,eT.lookup,q⟩) (Aj _))
theorem B8(hh:A.handled=none){S p:Addr}{ep:Nat}{es:Array (Int×Value)}{t:SetTable}{pl:List Nat}(p_:pl.Perm (List.range n))(hn:es.size=n)(h1:it≠S)(h2:it≠p) :
  Walks prog w A it [it,p,S] [it] n (fun i v=>∃k x,pl[i]?=some k/\es[k]?=some x/\v=x.2) (fun i h=>i<=n/\h.get? it=some (qe (.ref p) i S n ep)/\(∃o,h.get? p=some o/\o.cls=.type "tuple"/\∃e,o.data=.seq (pl.map fun k:Nat=>rawInt k).toArray e)/\jE w h S es ep t) where
 sub:=fun b hb=>by simp at hb;simp[hb]
 frame:=fun i h h' st k=>⟨st.1,k it #[15] _ st.2.1,(let ⟨o,ho,r⟩:=st.2.2.1;⟨o,k p #[15] o ho,r⟩),st.2.2.2.keep fun o ho=>k S #[15] o ho⟩
 item:=fun i s Q E hi st q=>by
  obtain⟨_,pi,⟨op,hop,hcp,e,hdp⟩,hS⟩:=st
  have hl:pl.length=n:=by have:=p_.length_eq;simpa using this
  have hk:pl[i]?=some pl[i]:=aq #[0]
  have hkn:pl[i]<es.size:=by rw[hn];exact li.mp (p_.mem_iff.mp (eQ #[0]))
  refine Ez pi hS hn ⟨op,hop,hcp,hdp⟩ (k:=pl[i]) (x:=es[pl[i]]) (by simp[hk]) (by simp[hkn]) fun g a b=>q _ g s.toks ⟨pl[i],es[pl[i]],hk,by simp[hkn],rfl⟩ ⟨hi,?_,⟨op,b.extBut p op (Ne.symm h2) hop,hcp,e,hdp⟩,hS.keep fun o ho=>b.extBut S o (Ne.symm h1) ho⟩ fun c o hc ho=>b.extBut c o (fun z=>hc (by simp[z])) ho
  rw[a];rfl
 done:=fun s Q E st q=>by
  obtain⟨_,pi,⟨op,hop,hcp,e,hdp⟩,hS⟩:=st
  have hl:pl.length=n:=by have:=p_.length_eq;simpa using this
  exact wL hh pi hS hn ⟨op,hop,hcp,hdp⟩ (by simp[hl]) fun g kp=>q g s.toks fun c o hc ho=>kp c o (fun z=>hc (by simp[z])) ho
 self:=fun i s Q E st q=>Al st.2.1 q
theorem EA(hh:A.handled=none){S:Addr}{ep:Nat}{es:Array (Int×Value)}{t:SetTable}{vs:List Value}{sl:Nat->Nat}(hv:vs.length=n)(hn:es.size=n)(h1:it≠S)
  (hx:∀(s:Shared) (i:Nat),jE w s.heap S es ep t->i<=n->∀(A:Around) (Q':Option (Value×Nat)->Shared->Prop) (E':Value->Shared->Prop),Q' ((vs[i]?).map fun v=>(v,sl (i+1))) s->wpAny #[8] A (setNext S (sl i) i ep) Q' E' s) :
  Walks prog w A it [it,S] [it] n (fun i v=>vs[i]?=some v) (fun i h=>i<=n/\h.get? it=some (qe (rawInt (sl i)) i S n ep)/\jE w h S es ep t) where
 sub:=fun b hb=>by simp at hb;simp[hb]
 frame:=fun i h h' st k=>⟨st.1,k it #[15] _ st.2.1,st.2.2.keep fun o ho=>k S #[15] o ho⟩
 item:=fun i s Q E hi st q=>by
  obtain⟨_,pi,hS⟩:=st
  have hk:vs[i]?=some vs[i]:=aq #[0]
  refine F7 (x:=vs[i]) (sl':=sl (i+1)) pi hS hn (fun Q' E' y=>hx s i hS (fY hi) _ Q' E' (by rw[hk];exact y)) fun g a b=>q _ g s.toks hk ⟨hi,?_,hS.keep fun o ho=>b.extBut S o (Ne.symm h1) ho⟩ fun c o hc ho=>b.extBut c o (fun z=>hc (by simp[z])) ho
  rw[a];rfl
 done:=fun s Q E st q=>by
  obtain⟨_,pi,hS⟩:=st
  have hk:vs[n]?=none:=cm #[0]
  exact yD hh pi hS hn (fun Q' E' y=>hx s n hS (az _) _ Q' E' (by rw[hk];exact y)) fun g kp=>q g s.toks fun c o hc ho=>kp c o (fun z=>hc (by simp[z])) ho
 self:=fun i s Q E st q=>Al st.2.1 q
end
section
variable{w:World}
theorem pK{Q:Bool->Shared->Prop}(q:Q (ur w) s):wpAny #[8] A setsByText Q E s:=by
 unfold setsByText
 exact af (mO (ay q))
theorem EB{S:Addr}{es:Array (Int×Value)}{t:SetTable}{Q:Option (Value×Nat)->Shared->Prop}(hb:ur w=true)(hS:jE w s.heap S es ep t)
  (q:Q ((((pickOrder (w.params.setOrder S ep) es).toList.map (·.2))[i]?).map fun v=>(v,0)) s):wpAny #[8] A (setNext S 0 i ep) Q E s:=by
 obtain⟨o,ho,zP,hd⟩:=hS.ex
 unfold setNext
 refine af (f7 ho hd hS.fits ?_)
 dsimp only
 refine af (pK ?_)
 rw[hb,aE rfl,aL #[15]]
 unfold setWalk
 refine af (af (f7 ho hd hS.fits ?_))
 dsimp only
 refine af (pK ?_)
 rw[hb,aE rfl]
 refine af (mO (ay (ay ?_)))
 have e:((pickOrder (w.params.setOrder S ep) es)[i]?).map (fun e=>(e.2,0))=(((pickOrder (w.params.setOrder S ep) es).toList.map (·.2))[i]?).map fun v=>(v,0):=by
  rw[aJ,fN,Option.map_map];rfl
 show Q (((pickOrder (w.params.setOrder S ep) es)[i]?).map fun e=>(e.2,0)) s
 rw[e];exact q
theorem xy(p:Nat):SetTable.below #[p] 0=0/\SetTable.below #[p] (p+1)=1:=by
 unfold SetTable.below
 constructor
 ·simp[SetTable.below.go]
 ·simp[SetTable.below.go]
theorem F8{S:Addr}{es:Array (Int×Value)}{t:SetTable}{Q:Option (Value×Nat)->Shared->Prop}(hb:ur w=false)(hS:jE w s.heap S es ep t)(O8:t.led=true)(h1:es.size<=1)(hi:i<=es.size)
  (q:Q (((es.toList.map (·.2))[i]?).map fun v=>(v,if i+1=0 then 0 else t.place.getD 0 0+1)) s):wpAny #[8] A (setNext S (if i=0 then 0 else t.place.getD 0 0+1) i ep) Q E s:=by
 obtain⟨o,ho,zP,hd⟩:=hS.ex
 have hf:=hS.fits
 have hps:t.place.size=es.size:=by
  unfold SetTable.fits at hf
  simp only[dB,dg]at hf
  exact hf.1
 unfold setNext
 refine af (f7 ho hd hS.fits ?_)
 dsimp only
 refine af (pK ?_)
 rw[hb,aL eO]
 show wpAny _ _ (if (!t.plain&&decide (es.size>1))=true then _ else _) _ _ _
 rw[aL (by simp;omega)]
 show wpAny _ _ ((if (!t.led&&!es.isEmpty)=true then _ else pure ()) >>= _) _ _ _
 rw[aL (by simp[O8])]
 refine af (ay (ay ?_))
 by_cases hz:es.size=0
 ·have e1:es=#[]:=gn hz
  subst e1
  simpa using q
 ·have hs1:es.size=1:=by omega
  obtain⟨x,rfl⟩:∃x,es=#[x]:=by
   obtain⟨l⟩:=es
   obtain⟨x,e⟩:=gF.mp hs1
   exact⟨x,ib Array.mk e⟩
  obtain⟨p,hp⟩:∃p,t.place=#[p]:=by
   generalize t.place=pl at hps
   obtain⟨l⟩:=pl
   obtain⟨x,e⟩:=gF.mp hps
   exact⟨x,ib Array.mk e⟩
  rw[hp]at q ⊢
  rcases(show i=0\/i=1 by simp at hi;omega)with rfl|rfl
  ·simp[xy]at q ⊢;exact q
  ·simp[xy]at q ⊢;exact q
end
theorem yE[Inhabited β](f:Nat->β)(xs:List α)(g:α->β)(n:Nat)(hn:xs.length=n)(hf:∀i x,xs[i]?=some x->f i=g x):(List.range n).map f=xs.map g:=by
 apply jz
 intro i
 rw[aJ,aJ]
 by_cases h:i<n
 ·rw[iI h,aq #[0]]
  exact ib some (hf i _ (aq #[0]))
 ·rw[cm (by simp;omega),cm #[0]];rfl
section
variable{w:World}
theorem F9{S:Addr}{es:Array (Int×Value)}{t:SetTable}(hS:jE w s.heap S es ep t)(Jl:Do w es.size t)(hsz:es.size<=sizeLine)
  (q:∀(g:Heap) (d:Drawn) (it:Addr) (fp:List Addr) (P:Nat->Value->Prop) (St:Nat->Heap->Prop),(∀A:Around,A.handled=none->Walks prog w A it fp [it] es.size P St)->St 0 g->s.heap.objs.size<=it->(∀b∈fp,b=S\/s.heap.objs.size<=b)->(∀b∈fp,b<g.objs.size)->(∀b o,s.heap.get? b=some o->g.get? b=some o) ->
   (∀iS,ItemsOf P iS es.size->iS.toList.Perm (es.toList.map (·.2)))->Q (.ref it) { s with heap:=g,drawn:=d }):wpAny #[8] A (pyIter (.ref S)) Q E s:=by
 obtain⟨o,ho,zP,hd⟩:=hS.ex
 have T:Shared.TypeIs s (.ref S) "set":=⟨o,ho,zP.1⟩
 have hSlt:=aH ho
 refine wpAny_pyIter_slot T PySem.F.slot_set_iter (b8 PySem.F.slot_set_iter T Ae ?_ (PySem.F.args_set_iter_1 _))
 show wpAny _ _ (Builtin.Frozenset.sizeOf S >>= _) _ _ s
 unfold Builtin.Frozenset.sizeOf
 refine af (af (gf ho hd hS.fits (ay ?_)))
 unfold setDrawn
 refine af (af (f7 ho hd hS.fits ?_))
 dsimp only
 refine af (pK (ay ?_))
 by_cases hdr:(!ur w&&(!t.plain&&decide (es.size>1)))=true
 ·show wpAny _ _ (if (!ur w&&(!t.plain&&decide (es.size>1)))=true then _ else _) _ _ _
  rw[aE hdr]
  refine af (Ai es.size (List.range es.size) _ _ #[15] fun pl hp d=>?_)
  have hl:pl.length=es.size:=by have:=hp.length_eq;simpa using this
  refine af (wpAny_newTuple ?_ (by rw[aF,hl];exact hsz))
  have hS1:jE w (s.heap.push { cls:=.type "tuple",data:=.seq (pl.map fun i:Nat=>rawInt i).toArray }) S es ep t:=hS.keep fun o e=>av _ e
  obtain⟨o1,ho1,_,hd1⟩:=hS1.ex
  refine af (wpAny_setEpoch_of (s:={ s with heap:=s.heap.push { cls:=.type "tuple",data:=.seq (pl.map fun i:Nat=>rawInt i).toArray },drawn:=d }) ho1 hd1 hS.fits ?_)
  refine af (cz (ay ⟨_,rfl,"set_iterator",_,⟨_,aC _ rfl,rfl⟩,eT.lookup,?_⟩))
  have z:(s.heap.push { cls:=.type "tuple",data:=.seq (pl.map fun i:Nat=>rawInt i).toArray }).objs.size=s.heap.objs.size+1:=bv ..
  refine q _ d _ [_,s.heap.objs.size,S] _ _ (fun A hA=>B8 (p:=s.heap.objs.size) (t:=t) (ep:=ep) hA hp rfl ?_ ?_) ⟨cn _,aC _ rfl,⟨_,av _ (aC _ rfl),rfl,0,rfl⟩,hS1.keep fun o e=>av _ e⟩ ?_ (fun b hb=>?_) (fun b hb=>?_) (fun b o e=>av _ (av _ e)) fun iS hacc=>?_
  ·rw[z];exact eh (cU hSlt)
  ·rw[z];exact Nat.succ_ne_self _
  ·rw[z];exact bp _
  ·simp only[aT,gq,pE]at hb
   rcases hb with rfl|rfl|rfl
   ·rw[z];exact .inr (bp _)
   ·exact .inr (az _)
   ·exact .inl rfl
  ·simp only[aT,gq,pE]at hb
   have z2:∀o2,((s.heap.push { cls:=.type "tuple",data:=.seq (pl.map fun i:Nat=>rawInt i).toArray }).push o2).objs.size=s.heap.objs.size+2:=fun o2=>by rw[bv,z]
   rw[z2]
   rcases hb with rfl|rfl|rfl
   ·rw[z];exact b7 _
   ·exact cU (b7 _)
   ·exact cU (cU hSlt)
  ·have e:iS.toList=pl.map fun k=>(es.getD k (0,.none)).2:=by
    apply jz
    intro i
    rw[aJ]
    by_cases hi:i<es.size
    ·have hia:i<iS.size:=by rw[hacc.1];exact hi
     have ha:iS[i]?=some (iS[i]'hia):=eM hia
     obtain⟨k,x,h1,h2,h3⟩:=hacc.2 i _ ha
     rw[fN,ha,h1]
     have:es.getD k (0,.none)=x:=by rw[kS,h2];rfl
     rw[h3]
     show some x.2=some (es.getD k (0,.none)).2
     rw[this]
    ·rw[cm (by rw[eD,hacc.1];omega),cm #[0]];rfl
   rw[e]
   refine(hp.map _).trans (List.Perm.of_eq ?_)
   exact yE _ es.toList (·.2) es.size #[15] fun i x hx=>by
    have hx':es[i]?=some x:=by rw[<- fN];exact hx
    rw[kS,hx'];rfl
 ·show wpAny _ _ (if (!ur w&&(!t.plain&&decide (es.size>1)))=true then _ else _) _ _ _
  rw[aL hdr]
  refine af (ay (af (wpAny_setEpoch_of ho hd hS.fits ?_)))
  refine af (cz (ay ⟨_,rfl,"set_iterator",_,⟨_,aC _ rfl,rfl⟩,eT.lookup,?_⟩))
  have kJ:∀(vs:List Value) (sl:Nat->Nat),sl 0=0->vs.Perm (es.toList.map (·.2))->(∀(s:Shared) (i:Nat),jE w s.heap S es ep t->i<=es.size->∀(A:Around) (Q':Option (Value×Nat)->Shared->Prop) (E':Value->Shared->Prop),Q' ((vs[i]?).map fun v=>(v,sl (i+1))) s->wpAny #[8] A (setNext S (sl i) i ep) Q' E' s) ->
    Q (.ref s.heap.objs.size) { s with heap:=s.heap.push (qe (rawInt 0) 0 S es.size ep) }:=fun vs sl h0 hp hx=>by
   have hl:vs.length=es.size:=by have:=hp.length_eq;simpa using this
   refine q _ s.drawn s.heap.objs.size [s.heap.objs.size,S] _ _ (fun A hA=>EA (t:=t) (ep:=ep) (vs:=vs) (sl:=sl) hA hl rfl (eh hSlt) hx) ⟨cn _,?_,hS.keep fun o e=>av _ e⟩ (az _) (fun b hb=>?_) (fun b hb=>?_) (fun b o e=>av _ e) fun iS hacc=>?_
   ·rw[h0];exact aC _ rfl
   ·simp only[aT,gq,pE]at hb
    rcases hb with rfl|rfl
    ·exact .inr (az _)
    ·exact .inl rfl
   ·simp only[aT,gq,pE]at hb
    rw[bv]
    rcases hb with rfl|rfl
    ·exact b7 _
    ·exact cU hSlt
   ·have e:iS.toList=vs:=by
     apply jz
     intro i
     by_cases hi:i<es.size
     ·have hia:i<iS.size:=by rw[hacc.1];exact hi
      have ha:iS[i]?=some (iS[i]'hia):=eM hia
      rw[fN,ha,hacc.2 i _ ha]
     ·rw[cm (by rw[eD,hacc.1];omega),cm #[0]]
    rw[e];exact hp
  cases hb:ur w with
  |true=>exact kJ ((pickOrder (w.params.setOrder S ep) es).toList.map (·.2)) (fun _=>0) rfl ((Ey _ _).map _) fun s i hS' hi A Q' E' y=>EB hb hS' y
  |false=>
   have h1:es.size<=1:=by
    rcases Jl.2 with z|z
    ·omega
    ·rw[hb,z]at hdr;simp at hdr;omega
   have O8:t.led=true:=Jl.1.resolve_left (by rw[hb];exact eO)
   exact kJ (es.toList.map (·.2)) (fun i=>if i=0 then 0 else t.place.getD 0 0+1) rfl (ie _) fun s i hS' hi A Q' E' y=>F8 hb hS' O8 h1 hi y
end
section
variable{w:World}
theorem F_{S:Addr}{Q:Bool->Shared->Prop}(T:s.TypeIs (.ref S) "set")(q:Q false s):wpAny #[8] A (Builtin.List.listLengthHint (.ref S)) Q E s:=by
 unfold Builtin.List.listLengthHint
 refine af (wpAny_specialOf T PySem.F.slot_set_len.lookup ?_)
 generalize hid:("set.__len__":String)=id0
 wp_delta
 rw[show splitId id0=some ("set","__len__")from by subst hid;decide +kernel]
 subst hid
 refine af (gp (T:="set") (b:=true) T (by rw[eu];kernel_rfl) ?_)
 refine nU (fun y=>absurd y #[12]) (fun _=>nU (fun _=>?_) (fun y=>absurd (by decide +kernel) y))
 exact af (iy T (ay q))
theorem Am{S:Addr}{es:Array (Int×Value)}{t:SetTable}{Q:List Value->Shared->Prop}(hS:jE w s.heap S es ep t)(Jl:Do w es.size t)(hsz:es.size<=sizeLine)(hh:A.handled=none)
  (q:∀(g:Heap) (d:Drawn) (tk:Nat) (vs:List Value),(∀b o,s.heap.get? b=some o->g.get? b=some o)->vs.Perm (es.toList.map (·.2))->Q vs { s with heap:=g,drawn:=d,toks:=tk }):wpAny #[8] A (collect (.ref S)) Q E s:=by
 obtain⟨o,ho,zP,hd⟩:=hS.ex
 have hSlt:=aH ho
 unfold collect
 refine af (pD (dN entry_proto_collect' ?_))
 rw[cY PySem.F.plain_proto_collect _]
 show wpAny _ A.in1 (newList [] >>= fun l=>again (.builtin "list.__iadd__" ⟨[l,.ref S],[]⟩)) _ _ s
 refine af (cz (ay ⟨fv PySem.F.plain_list_iadd _,dN entry_list_iadd' ?_⟩))
 rw[cY PySem.F.plain_list_iadd _]
 generalize hL:s.heap.objs.size=L
 have gL:(s.heap.push { cls:=.type "list",data:=.seq ([]:List Value).toArray }).get? L=some { cls:=.type "list",data:=.seq #[] }:=by rw[<- hL];exact aC _ rfl
 have hS1:jE w (s.heap.push { cls:=.type "list",data:=.seq ([]:List Value).toArray }) S es ep t:=hS.keep fun o e=>av _ e
 have z1:(s.heap.push { cls:=.type "list",data:=.seq ([]:List Value).toArray }).objs.size=L+1:=by rw[bv,hL]
 have kp1:∀b o,s.heap.get? b=some o->(s.heap.push { cls:=.type "list",data:=.seq ([]:List Value).toArray }).get? b=some o:=fun b o e=>av _ e
 have bL:∀b o,s.heap.get? b=some o->b≠L:=fun b o e=>by rw[<- hL];exact bd (aH e)
 generalize s.heap.push { cls:=.type "list",data:=.seq ([]:List Value).toArray }=h1 at gL hS1 z1 kp1 ⊢
 have zQ:L≠S:=by rw[<- hL];exact eh hSlt
 obtain⟨o1,ho1,hex1,hd1⟩:=hS1.ex
 have T:Shared.TypeIs { s with heap:=h1 } (.ref S) "set":=⟨o1,ho1,hex1.1⟩
 show wpAny _ A.in1 (Builtin.List.listExtendWith (.ref L) (.ref S) (.ref L)) _ _ _
 unfold Builtin.List.listExtendWith
 refine af (iy (T:="set") T ?_)
 have e1:Builtin.List.listSameRef (.ref L) (.ref S)=false:=by simp[Builtin.List.listSameRef,zQ]
 have e2:(Value.type "set" == Value.type "list")=false:=by decide
 have e3:(Value.type "set" == Value.type "tuple")=false:=by decide
 simp only[e1,e2,e3,mq,fJ,j_]
 refine af (F9 (s:={ s with heap:=h1 }) hS1 Jl hsz fun g d it fp P St W st pi R9 hfl kp2 hperm=>?_)
 have gL2:=kp2 _ _ gL
 have hLf:L∉fp:=fun hm=>by
  rcases R9 L hm with y|y
  ·exact zQ y
  ·rw[show Shared.heap { s with heap:=h1 }=h1 from rfl,z1]at y;exact absurd y (Nat.not_le.mpr (b7 _))
 obtain⟨o2,ho2,hex2,hd2⟩:=(hS1.keep fun o e=>kp2 S o e).ex
 refine af (dm (F_ (s:={ s with heap:=g,drawn:=d }) ⟨o2,ho2,hex2.1⟩ ?_))
 have itL:it≠L:=fun y=>by
  have:=pi
  rw[show Shared.heap { s with heap:=h1 }=h1 from rfl,z1,y]at this
  exact absurd this (Nat.not_le.mpr (b7 _))
 have old:∀b o,s.heap.get? b=some o->b≠it:=fun b o e y=>by
  have h2:=aH (kp1 b o e)
  have h3:=pi
  rw[show Shared.heap { s with heap:=h1 }=h1 from rfl]at h3
  rw[y]at h2
  exact absurd h2 (i_.mpr h3)
 have key:∀(g':Heap) (c tk:Nat),St 0 g'->(∀b o,b≠L->g.get? b=some o->g'.get? b=some o)->g'.get? L=some { cls:=.type "list",data:=.seq #[] c } ->
   codeAny #[8] A (.builtin "list.extend.loop" ⟨[.ref L,.ref it,.ref L],[]⟩) (wants (fun r s'=>wpAny #[8] A (match r with|.ref a=>(do match (<- load a).data with|.seq xs _=>pure xs.toList|_=>unsupported "internal:collect")|_=>unsupported "internal:collect") Q E s') E) { s with heap:=g',drawn:=d,toks:=tk }:=by
  intro g' c tk bn kp3 gL3
  refine codeAny_extend_loopS (W A.in1 (by simpa using hh)).toS hsz L hLf (.ref L) es.size 0 _ #[] c rfl (cn _) bn gL3 (ItemsOf.nil _) fun s' iS c' hm gL4 hacc=>?_
  have ee:s'={ s with heap:=s'.heap,drawn:=d,toks:=s'.toks }:=by
   have h1:=hm.gens
   have h2:=hm.drawn
   have h3:=hm.os
   cases s'
   simp only at h1 h2 h3
   subst h1;subst h2;subst h3;rfl
  refine af (wpAny_load gL4 (ay ?_))
  rw[ee]
  refine q s'.heap d s'.toks iS.toList (fun b o e=>hm.heap b o (fun y=>?_) (kp3 b o (bL b o e) (kp2 b o (kp1 b o e)))) (hperm iS hacc)
  rcases aT.mp y with y|y
  ·exact bL b o e y
  ·exact old b o e (a9.mp y)
 refine nU (fun _=>?_) (fun _=>ay ⟨fv PySem.F.plain_extend_loop _,key g 0 _ st (fun _ _ _ e=>e) gL2⟩)
 refine af (jS (af ?_))
 show wpAny _ _ (updateSeq L (·.push .none) >>= fun _=>updateSeq L (·.pop)) _ _ _
 refine af (nV gL2 rfl ?_)
 have g5:=dH (Obj.mapSeq (·.push Value.none)) gL2 rfl
 refine nV (hz:=by seq_fits) g5 rfl ?_
 have g6:=dH (Obj.mapSeq (·.pop)) g5 rfl
 refine ay ⟨fv PySem.F.plain_extend_loop _,key _ _ _ ((W A hh).frame 0 _ _ st fun b hb o e=>?_) (fun b o hb e=>?_) g6⟩
 ·have hbL:b≠L:=fun y=>hLf (y▸hb)
  exact(cK _ _ (Ne.symm hbL)).trans ((cK _ _ (Ne.symm hbL)).trans e)
 ·exact(cK _ _ (Ne.symm hb)).trans ((cK _ _ (Ne.symm hb)).trans e)
end
end L2
namespace L2
open PySem PySem.Spec PyProof.Rows
section
variable{w:World}
theorem B9{S:Addr}(z:ve prog w n s.heap S ks)(few:ks.length<64)(hh:A.handled=none)
  (q:∀(g0 g1:Heap) (d:Drawn) (tk:Nat) (out:Array Value) (ss:List Str) (e:Nat),(∀b o,s.heap.get? b=some o->g0.get? b=some o)->(∀b o,g0.get? b=some o->g1.get? b=some o)->g1.get? g0.objs.size=some (seqObj "list" out e) ->
   iL n out.toList->StrsAre out.toList ss->ss.Perm ks->sortedS ss=true->Q (.ref g0.objs.size) { s with heap:=g1,drawn:=d,toks:=tk }):wpAny #[8] A (call (.builtin "sorted") [.ref S]) Q E s:=by
 obtain⟨o,es,ep,t,ho,zP,hd,hel,hp,hb,hf,Jl,hta⟩:=z
 have hS:jE w s.heap S es ep t:=⟨⟨o,ho,zP,hd⟩,hf⟩
 have fX:es.size=ks.length:=by have:=hp.length_eq;simpa using this
 apply lJ kind_sorted plain_sorted entry_sorted (args_sorted1 _)
 show wpAny _ _ (checkCount "sorted" 1 1 _ >>= _) _ _ _
 refine af (ay (af (Am hS Jl (by rw[j9];omega) (by simpa using hh) fun g d tk vs kp pv=>?_)))
 have hv:∀v∈vs,∃x t,v=Value.str x t:=fun v hv=>by
  obtain⟨e,he,rfl⟩:=c9.mp (pv.mem_iff.mp hv)
  obtain⟨t,ht⟩:=Ag hel e he
  exact⟨_,t,ht⟩
 have sm:=strsAre_map vs hv
 have hks:(vs.map strOf).Perm ks:=by
  refine(pv.map strOf).trans ?_
  rw[b9];exact hp
 have hvl:vs.length<64:=by have:=hks.length_eq;rw[aF]at this;omega
 refine af (wpAny_newList ?_ (by rw[j9];omega))
 have oL:(g.push (seqObj "list" vs.toArray 0)).get? g.objs.size=some (seqObj "list" vs.toArray 0):=aC _ rfl
 refine af (dm (b8 slot_list_sort ⟨_,oL,rfl⟩ entry_list_sort (list_sort_treeK qu oL sm.keysOf (fun a b r e=>sB (by rw[<- e];exact sm)) hvl fun st a1 a2=>⟨_,rfl,?_⟩) (args_list_sort _)))
 obtain⟨ss,h1,h2,h3⟩:=pz sm a1 a2
 obtain⟨e,he⟩:=sortedHeap_at (out:=(arrOf st).map (·.2)) oL
 refine ay ⟨_,rfl,q g _ d tk _ ss e kp (fun b o hb=>?_) he (fun x t hx=>hta x t (pv.mem_iff.mp (vd a1 _ hx))) h1 (h2.trans hks) h3⟩
 rw[sortedHeap_old (bd (aH hb)) (by rw[bv];exact cU (aH hb))]
 exact av _ hb
noncomputable abbrev Qu(ty:String)(x:Str)(t:Tok):Obj:={ cls:=.type ty,data:=.fields #[.str x t,.int 0 0] }
theorem F'{t:Tok}(E7:0<s.toks)(hh:A.handled=none)(hb:l.length+1<scanBound)
  (q:∀g tk,s.toks<=tk->K6 prog w tk (fun j=>tx [l.getD j 0]) g s.heap.objs.size l.length->(∀b o,s.heap.get? b=some o->g.get? b=some o)->Q (.ref s.heap.objs.size) { s with heap:=g,toks:=tk }):wpAny #[8] A (call (.type "set") [.str (tx l) t]) Q E s:=by
 have z:(s.heap.push (dZ w)).objs.size=s.heap.objs.size+1:=bv ..
 have hn:(tx l).cps.size=l.length:=by simp[tx]
 have BC:∀i v,SignAt (tx l) i v->∃t,v=Value.str (tx [l.getD i 0]) t:=by
  rintro i v ⟨c,u,hc,rfl⟩
  have:l[i]?=some c:=by simpa[tx]using hc
  exact⟨u,by rw[aO,this];rfl⟩
 have hT:Shared.TypeIs { s with heap:=s.heap.push (dZ w) } (.str (tx l) t) "str":=ly _ _ _
 rw[<- hn]at hb q
 cases ha:(tx l).cps.all (· < 128)
 ·refine l8 (T:="str") (fp:=fun it=>[it]) (P:=SignAt (tx l)) (St:=fun it i h=>h.IsStrIter it "str_iterator" (tx l) t i) hT (by rw[eu];kernel_rfl) (by rw[eu];kernel_rfl) #[12]
   (fun A E Q y=>lX ha (by show Q (.ref (s.heap.push (dZ w)).objs.size) _;rw[z];exact y)) (fun A it hA _=>Walks.strWide hA it (tx l) t) #[15] ⟨Qu "str_iterator" (tx l) t,?_,rfl,rfl⟩ BC hh hb (fun A hA i s' Q E hn hi st q=>by
    obtain⟨c,hx⟩:∃c,(tx l).cps[i]?=some c:=⟨_,eM hi⟩
    refine jy st hx fun h' bn hs=>q _ h' (s'.toks+1) (bp _) (fun x u hx' _=>?_) ⟨c,_,hx,rfl⟩ bn fun b o hb e=>hs.extBut b o (fun z=>hb (by simp[z])) e
    rw[a9]at hx'
    cases hx'
    exact⟨aP E7 hn,b7 _⟩) q
  rw[<- z];exact aC _ rfl
 ·refine l8 (T:="str") (fp:=fun it=>[it]) (P:=SignAt (tx l)) (St:=fun it i h=>h.IsStrIter it "str_ascii_iterator" (tx l) t i) hT (by rw[eu];kernel_rfl) (by rw[eu];kernel_rfl) #[12]
   (fun A E Q y=>lD ha (by show Q (.ref (s.heap.push (dZ w)).objs.size) _;rw[z];exact y)) (fun A it hA _=>Walks.strAscii hA it (tx l) t) #[15] ⟨Qu "str_ascii_iterator" (tx l) t,?_,rfl,rfl⟩ BC hh hb (fun A hA i s' Q E hn hi st q=>by
    obtain⟨c,hx⟩:∃c,(tx l).cps[i]?=some c:=⟨_,eM hi⟩
    refine jg st hx fun h' bn hs=>q _ h' (s'.toks+1) (bp _) (fun x u hx' _=>?_) ⟨c,_,hx,rfl⟩ bn fun b o hb e=>hs.extBut b o (fun z=>hb (by simp[z])) e
    rw[a9]at hx'
    cases hx'
    exact⟨aP E7 hn,b7 _⟩) q
  rw[<- z];exact aC _ rfl
theorem J0{a:Addr}(hh:A.handled=none)(hb:l.length+1<scanBound)(ht:s.heap.IsTuple a bI.toArray)(hv:cL s.toks (jm l) bI)
  (q:∀g tk,s.toks<=tk->K6 prog w tk (fun j=>tx [l.getD j 0]) g s.heap.objs.size l.length->(∀b o,s.heap.get? b=some o->g.get? b=some o)->Q (.ref s.heap.objs.size) { s with heap:=g,toks:=tk }):wpAny #[8] A (call (.type "set") [.ref a]) Q E s:=by
 have z:(s.heap.push (dZ w)).objs.size=s.heap.objs.size+1:=bv ..
 have hn:bI.toArray.size=l.length:=by have:=hv.length;unfold jm at this;simpa using this.symm
 have ha:a<s.heap.objs.size:=by obtain⟨o,ho,_⟩:=ht;exact aH ho
 have Px:(s.heap.push (dZ w)).IsTuple a bI.toArray:=ht.at fun o e=>av _ e
 have BC:∀i v,bI.toArray[i]?=some v->∃t,v=Value.str (tx [l.getD i 0]) t:=by
  intro i v hi
  have hi':bI[i]?=some v:=by simpa using hi
  have hlt:i<l.length:=by
   have:=(au.mp hi').1
   rw[<- hn];simpa using this
  have hx:(jm l)[i]?=some (.str (tx [l.getD i 0])):=by
   unfold jm
   rw[aJ,aq hlt,aO,aq hlt];rfl
  obtain⟨u,hu,t,e⟩:=hv.get hx
  rw[hi']at hu
  exact⟨t.1,(bq hu).trans e⟩
 rw[<- hn]at hb q
 refine l8 (T:="tuple") (fp:=fun it=>[it,a]) (P:=fun i v=>bI.toArray[i]?=some v) (St:=fun it i h=>h.IsTupleIter it a i/\h.IsTuple a bI.toArray) Px.typeIs (by rw[eu];kernel_rfl) (by rw[eu];kernel_rfl) #[12]
  (fun A E Q y=>fI Px (by show Q (.ref (s.heap.push (dZ w)).objs.size) _;rw[z];exact y)) (fun A it hA e=>Walks.tuple hA it a (by rw[e];exact bd (cU ha)) bI.toArray) (by simp;exact fun e=>absurd ha (by rw[<- e];exact dL _)) ⟨⟨{ cls:=.type "tuple_iterator",data:=.fields #[.ref a,.int 0 0] },?_,rfl,rfl⟩,?_⟩ BC hh hb (fun A hA i s' Q E hn hi st q=>by
   refine up ((Walks.tuple hA #[6] a (bd (cU ha)) bI.toArray).item i s' _ _ hi st fun v h' tk hp bn kp kW=>q v h' tk kW (fun x u hx=>?_) hp bn kp)
   rw[a9]at hx
   subst hx
   exact((q_ hv).up (aN hn kW)) x u (by have hp:bI.toArray[i]?=some _:=hp;exact cw (by simpa using hp))) q
 ·rw[<- z];exact aC _ rfl
 ·exact Px.at fun o e=>av _ e
end
theorem J1{ss:List Str}(hp:ss.Perm ks)(T6:ks.Nodup)(hm:∀x,x∈ks↔∃j,j<l.length/\tx [l.getD j 0]=x)(hs:sortedS ss=true) :
  ∃m:List Nat,ss=m.map (fun c=>tx [c])/\m.Nodup/\m.Pairwise (· <= ·)/\∀c,c∈m↔c∈l:=by
 have all:∀z∈ss,tx [z.cps.toList.headD 0]=z:=fun z hz=>by
  obtain⟨j,_,e⟩:=(hm z).mp (hp.mem_iff.mp hz)
  subst e;rfl
 have em:ss=(ss.map fun z=>z.cps.toList.headD 0).map fun c=>tx [c]:=by
  rw[b9]
  conv=>lhs;rw[<- jh ss]
  exact eY fun z hz=>(all z hz).symm
 refine⟨ss.map fun z=>z.cps.toList.headD 0,em,?_,?_,fun c=>?_⟩
 ·have nd:ss.Nodup:=hp.nodup_iff.mpr T6
  rw[em]at nd
  exact List.Pairwise.of_map (fun c=>tx [c]) (fun a b h e=>h (by rw[e])) nd
 ·refine Ad _ ?_
  rw[b9]
  rw[em]at hs
  exact hs
 ·constructor
  ·intro hc
   obtain⟨z,hz,rfl⟩:=c9.mp hc
   obtain⟨j,hj,e⟩:=(hm z).mp (hp.mem_iff.mp hz)
   subst e
   show l.getD j 0∈l
   rw[aO,aq hj]
   exact eQ hj
  ·intro hc
   obtain⟨j,hj,e⟩:=List.getElem_of_mem hc
   refine c9.mpr ⟨tx [c],hp.mem_iff.mpr ((hm _).mpr ⟨j,hj,?_⟩),rfl⟩
   rw[aO,aq hj,e];rfl
def J2(K:Frag)(H:Hp)(v:V)(l:List Nat):Prop:=v=.str (tx l)\/∃a,v=.ref a/\f_ K H a (jm l)
def Ga(K:Frag)(te:TE):TE:=fun σ H Q=>te σ H fun v H1=>∃l,J2 K H1 v l/\l.length<4000/\(∀m:List Nat,m.Nodup->(∀c∈m,c∈l)->m.length<64) /\
 ∀m:List Nat,m.Nodup->m.Pairwise (· <= ·)->(∀c,c∈m↔c∈l)->∀a H2,H1 a=none->H2=fW H1 a (.lst (m.map fun c=>V.str (tx [c])))->Q (.ref a) H2
theorem bT.kept2{d':Drawn}(I:bT X aj σ H s)(k:∀b o,s.heap.get? b=some o->h'.get? b=some o)(hk:s.toks<=t':=by first|exact az _|exact bp _|assumption|omega):bT X aj σ H { s with heap:=h',drawn:=d',toks:=t' }:=
 I.step (g':=s.gens) (ch:=[]) (fun _ z=>nomatch z) (fun b o _ _ _ e _=>k b o e) (fun b o _ _ _ e _=>⟨o.slots,k b o e⟩) (fun _ _ _ _ n=>n) (fun b o _ e=>⟨o,k b o e⟩) (fun _ _ e=>e) (fun _ _ _ e=>e) (fun b ps e=>⟨#[],by rw[e];simp⟩)
  (fun m hm=>let ⟨o,es,ep,ho,r⟩:=hm;⟨o,es,ep,k _ o ho,r⟩) ((I.hok.kept k).up hk) I.bare hk
theorem EC{p1 p2 Pc KO:Pos}(h1:X.mg "sorted"=none)(h3:X.mg "set"=none)(he:QE X e te)(hc:X.calm=true:=by rfl)
  (T7:Gl X "sorted":=by rfl) (T4:Gl X "set":=by rfl) (S8:starEach [e] X.env=(false,eval e X.env)::starEach [] X.env:=by rfl):QE X (.Call (.Name "sorted" p1) [.Call (.Name "set" p2) [e] [] KO] [] Pc) (Ga X.K te):=⟨by
 intro aj s σ H Q I h
 refine fK (on I T7 h1 PyProof.Rows.boot_sorted (jQ ?_) #[12] #[12])
 show wpAny _ _ (spliced ((false,eval (.Call (.Name "set" p2) [e] [] KO) X.env)::[])) _ _ s
 refine eP (fK (on I T4 h3 PyProof.Rows.boot_set (dS ?_ S8 rfl) #[12] #[12]))
 rw[S8]
 show wpAny _ _ (spliced ((false,eval e X.env)::[])) _ _ s
 refine eP (jC (he.h aj s σ H _ I h) fun u s1 kt1 ⟨v,H1,I1,r1,l,hl,hb,few,q⟩=>fZ ?_)
 have hh:X.A.handled=none:=I1.ok.hd hc
 have hb':l.length+1<scanBound:=by unfold scanBound;omega
 have kJ:∀g tk,s1.toks<=tk->K6 X.prog X.w tk (fun j=>tx [l.getD j 0]) g s1.heap.objs.size l.length->(∀b o,s1.heap.get? b=some o->g.get? b=some o) ->
   wpAny #[3] X.A (spliced []) (fun vs s₂=>wpAny #[3] X.A (call (.builtin "sorted") (.ref s1.heap.objs.size::vs)) (EP X aj σ Q) X.xe s₂) X.xe { s1 with heap:=g,toks:=tk }:=fun g tk kW hM kp=>by
  refine fZ ?_
  obtain⟨ks,z,nd,mem,len⟩:=hM
  have qR:ks.length<64:=by
   obtain⟨m,em,mn,_,mm⟩:∃m:List Nat,ks=m.map (fun c=>tx [c])/\m.Nodup/\True/\∀c∈m,c∈l:=by
    have all:∀z∈ks,tx [z.cps.toList.headD 0]=z:=fun z hz=>by
     obtain⟨j,_,e⟩:=(mem z).mp hz
     subst e;rfl
    have em:ks=(ks.map fun z=>z.cps.toList.headD 0).map fun c=>tx [c]:=by
     rw[b9]
     conv=>lhs;rw[<- jh ks]
     exact eY fun z hz=>(all z hz).symm
    refine⟨_,em,?_,trivial,fun c hc=>?_⟩
    ·have nd':=nd
     rw[em]at nd'
     exact List.Pairwise.of_map (fun c=>tx [c]) (fun a b h e=>h (by rw[e])) nd'
    ·obtain⟨z,hz,rfl⟩:=c9.mp hc
     obtain⟨j,hj,e⟩:=(mem z).mp hz
     subst e
     show l.getD j 0∈l
     rw[aO,aq hj]
     exact eQ hj
   rw[em,aF]
   exact few m mn mm
  refine up (B9 z qR hh fun g0 g1 d Pf out ss ep k0 k1 gL hta sm hperm hsrt hle2=>?_)
  have hle2:tk<=Pf:=hle2
  have hle3:s1.toks<=Pf:=aN kW hle2
  obtain⟨m,em,mn,mp,mm⟩:=J1 hperm nd mem hsrt
  have I2:bT X aj σ H1 { s1 with heap:=g0,drawn:=d,toks:=Pf }:=I1.kept2 fun b o e=>k0 b o (kp b o e)
  have CY:H1 g0.objs.size=none:=I2.hok.fresh (az _)
  have hvals:cL Pf (m.map fun c=>V.str (tx [c])) out.toList:=by
   have e:=mT sm (hta.up hle2)
   rw[em,b9]at e
   exact e
  refine⟨.ref g0.objs.size,_,I2.laid (o:=.lst (m.map fun c=>V.str (tx [c]))) (t':=Pf) k1 (az _) ?_,rfl,q m mn mp mm _ _ CY rfl⟩
  refine⟨?_,out.toList,ep,hvals,gL⟩
  rw[aF]
  exact aN (fY (few m mn fun c hc=>(mm c).mp hc)) #[12]
 rcases hl with rfl|⟨a,rfl,hT⟩
 ·obtain⟨t,rfl⟩:=r1
  exact F' I1.pos hh hb' kJ
 ·cases r1
  obtain⟨bI,rv,ht,_⟩:=I1.tuple hT
  exact J0 hh hb' ht rv kJ⟩
end L2
namespace L2
open PySem PySem.Spec PyProof.Rows
section
variable{w:World}
end
section
variable{wi:TI}{g:TG}{tc:TT}
theorem B_{x0:Str}{p0 p1:Pos}{gx:TG}(I_:PG X (.Name x0 p0) gx)(Sa:swapsWith #[10] (some (.Name x0 p0)) p1.line X.env=pure true)(jH:X.calm=true)(wC:closureFor scope X.env=pure cl)(Bu:∀x c,cl.lookup x=some c->X.env.cells.lookup x=some c)
  (jG:scope.kind=.function) (qL:∀x∈scope.names,x.2=.local->scope.names.lookup x.1=some .local) (hG:∀y∈scope.names,y.2≠.cell)
  (C_:∀x,#[11]->∃c,cl.lookup x=some c)
  (uL:∀(i j:Nat),cap[i]?=some (some j)->∃x,nm[i]?=some x/\X.N[j]?=some x/\u7 X scope cl x) (fX:cap.length=nm.length)
  (hi:PI X tg d_ wi) (hg:∀C s0 H0 fp,PG #[9] tg g) (ht:∀C s0 H0 fp,FW #[9] mR tc)
  (he:∀C s0 H0 fp,PE #[9] qU te) (hs:∀x,foldedSetIterable d_ X.env x=pure x:=by intro _;rfl) :
  PS X (.Assign [.Name x0 p0] #[10] p1) (Fu (u6 cap wi g tc te) gx):=by
 intro aj s σ H D I h
 rw[exec_Assign_Name_used _ _ _ _ Sa]
 suffices main:wpAny #[3] X.A (comprehension #[10] scope X.env (firstIterPos [⟨tg,d_,mR,0⟩] pos) (newList []) (firstAsync [⟨tg,d_,mR,0⟩]) (firstIter [⟨tg,d_,mR,0⟩] X.env) (some (assign (.Name x0 p0) X.env))) (fun _ s'=>SP X aj D .next s') X.xe s from
  af (qr (af (af (lj main (fun _ s' h=>ay (ay h)) fun _ _ z=>z))))
 refine xq jH wC Bu jG qL hG C_ uL fX hi hg ht he hs I h fun s4 C D m4 Hn I4 B q=>?_
 obtain⟨oC,es,ep,hoC,hdC,hrC⟩:=B.ns
 refine lj (I_ _ s4 σ _ (.ref D) (.ref D) _ (I4.pins_of (pins':=aj++[(C,oC)]) fun p hp=>?_) rfl q) (fun _ s5 h5=>?_) fun _ _ z=>z
 ·rcases aX.mp hp with z|z
  ·exact I4.pin p (aR _ z)
  ·have e:p=(C,oC):=by simpa using z
   subst e
   exact⟨hoC,B.fr,B.nl,B.nf,fun v z=>by rw[hdC]at z;cases z⟩
 obtain⟨σ',H',I6,nx⟩:=h5
 have pC:=I6.pin (C,oC) (aR _ (aR _ (a9.mpr rfl)))
 have I7:bT X aj σ' H' s5:=I6.pins_of fun p hp=>I6.pin p (aR _ (bZ _ hp))
 have B7:z_ X aj H' s5 C m4:=⟨⟨oC,es,ep,pC.1,hdC,hrC⟩,pC.2.1,B.nl,B.nf,B.hi,B.nc,B.np⟩
 exact⟨m4,B7.ns,fun h' hs'=>⟨σ',H',B7.off I7 hs',nx⟩⟩
end
theorem B'{x0:Str}{p0 p1:Pos}{gx:TG}{pos:Pos}{wi:TI}{g:TG}{tc:TT}{m:Nat}(I_:QG X (.Name x0 p0) gx)(jH:X.calm=true)
  (qN:X.env.cells=cellsFrom m X.env.scope.names []) (jG:scope.kind=.function) (hB:Ev X.env.scope.names scope.names nm cap X.N=true)
  (hi:QI X tg d_ wi) (hg:∀cl C s0 H0 fp,QG #[9] tg g) (ht:∀cl C s0 H0 fp,TB #[9] mR tc)
  (he:∀cl C s0 H0 fp,QE #[9] qU te) (hs:∀x,foldedSetIterable d_ X.env x=pure x:=by intro _;rfl) (Sa:swapsWith #[10] (some (.Name x0 p0)) p1.line X.env=pure true:=by first|rfl|kernel_rfl) :
  QS X (.Assign [.Name x0 p0] #[10] p1) (Fu (u6 cap wi g tc te) gx):=by
 have F:=Qt (nm:=nm) (cap:=cap) (fun x z=>by rw[qN];exact mB z) hB
 exact⟨B_ I_.h Sa jH F.clos F.cl jG F.nms F.cell F.has F.cp F.len hi.h (fun C s0 H0 fp=>(hg _ C s0 H0 fp).h) (fun C s0 H0 fp=>(ht _ C s0 H0 fp).h) (fun C s0 H0 fp=>(he _ C s0 H0 fp).h) hs⟩
def Qw:List V->Hp->VK->Prop:=fun xs H Q=>∃c:Nat,xs=[.str (tx [48+c])]/\c<=3/\Q (.int c) H
theorem Ng:K5 X (.type "int") Qw:=⟨by
 intro aj s σ H xs us Q I r h
 obtain⟨i,rfl,hi,q⟩:=h
 obtain⟨u,rfl,t,rfl⟩:=oq r
 have e:PySem.intText? (tx [48+i])=some (i:Int):=by
  rcases(show i=0\/i=1\/i=2\/i=3 by omega)with rfl|rfl|rfl|rfl<;>decide +kernel
 exact PySem.W.KIN.call_text e (by show 1<=640;decide) ⟨.int i,H,I.tok _,⟨_,rfl⟩,q⟩⟩
open AutoSeq1 (wpAny_loadPart')
theorem Gb(l b:Addr)(i1 i2:Array Value)(n1 n2:Nat)(d1 d2:Option Addr)(s1 s2:Array (Option Value))(h0:i1.isEmpty=true) :
  Meets (Builtin.«tuple.__add__» ⟨[.ref l,.ref b],[]⟩) (fun _ R s=>s.heap.get? l=some { cls:=.type "tuple",dict:=d1,data:=.seq i1 n1,slots:=s1 }/\s.heap.get? b=some { cls:=.type "tuple",dict:=d2,data:=.seq i2 n2,slots:=s2 }/\R (.ok (.ret (.ref b))) s):=
 .of_wp fun prog w A R s h=>by
  obtain⟨hp,g,d,tk,os⟩:=s
  obtain⟨e1,e2,h⟩:=h
  have a2:=PyProof.Rows.sub_tuple_tuple
  wp_walk using dq e1,dq e2
  exact⟨_,rfl,h⟩
def Qx(K:Frag):R2:=fun x y H Q=>∃a b xs ys,x=.ref a/\y=.ref b/\f_ K H a xs/\f_ K H b ys/\xs.length+ys.length<=sizeLine/\∀p H2,uq H H2->f_ K H2 p (xs++ys)->Q (.ref p) H2
theorem Nh:Ur X (binaryOp .Add) (Qx X.K):=⟨by
 intro aj s σ H x y v u Q I rx ry h
 obtain⟨a,b,xs,ys,rfl,rfl,ha,hb,hz,q⟩:=h
 by_cases hx:xs=[]
 ·subst hx
  cases rx
  cases ry
  obtain⟨bI,r1,p1,_⟩:=I.tuple ha
  obtain⟨its2,r2,p2,_⟩:=I.tuple hb
  have e1:bI=[]:=r1.nil_iff.mpr rfl
  obtain⟨⟨c1,d1,g1,l1⟩,f1,hc1,n1,hd1⟩:=id p1
  obtain⟨⟨c2,d2,g2,l2⟩,f2,hc2,n2,hd2⟩:=id p2
  simp only at hc1 hd1 hc2 hd2
  subst hc1 hd1 hc2 hd2
  refine su ⟨_,f1,rfl⟩ ⟨_,f2,rfl⟩ mL qt PySem.F.slot_tuple_add PySem.F.entry_tuple_add (PySem.F.args_tuple_add_2 _ _) (Gb a b bI.toArray its2.toArray n1 n2 d1 d2 l1 l2 (by rw[e1];rfl)) ⟨f1,f2,?_⟩
  exact⟨.ref b,H,I,rfl,q b H (uq.refl H) hb⟩
 ·exact JJ aj s σ H _ _ v u Q I rx ry ⟨a,b,xs,ys,rfl,rfl,ha,hb,hx,hz,fun e=>q a H (uq.refl H) (by rw[e,bx];exact ha),fun _ p hp=>q p _ (df hp _) (f_.of gJ)⟩⟩
end L2
namespace L2
open PySem PySem.Spec PyProof.Rows
inductive W where
 |non|bl (b:Bool)|int (i:Int)|str (l:List Nat)|tup (ws:List W)|loc (n:Nat)
inductive DK where
 |i (z:Int)|s (l:List Nat)
deriving DecidableEq
def DK.key:DK->jY
 |.i z=>.inl z
 |.s l=>.inr (tx l)
inductive KX where
 |bo (b:Bool)|fl (ks:List Int)|pr (i:Int) (ks:List Int)
deriving DecidableEq
noncomputable def KX.w:KX->W
 |.bo b=>.bl b
 |.fl ks=>.tup (ks.map W.int)
 |.pr i ks=>.tup [.int i,.tup (ks.map W.int)]
noncomputable def Gd(ks:List Int):Int:=reduceHash (Builtin.Tuple.tupleHashOf (ks.map hashInt))
def KX.hash:KX->Int
 |.bo b=>hashInt (if b then 1 else 0)
 |.fl ks=>Gd ks
 |.pr i ks=>reduceHash (Builtin.Tuple.tupleHashOf [hashInt i,Gd ks])
inductive al where
 |lst (ws:List W)
 |ro (ws:List W)
 |exc (c:Str)
 |dct (kvs:List (DK×W))
 |tab (P:Addr) (pos:Pos) (q:Str)
 |rod (kvs:List (DK×W))
 |dcx (kvs:List (KX×W))
 |rox (kvs:List (KX×W))
 |obj (c:Str) (fs:List (Str×W))
 |pin (k:Bool) (c:Addr) (o:Obj) (w:W)
 |gone
noncomputable abbrev my:Nat:=1000000
theorem ou(h:n<=my):n<=sizeLine:=aN h #[12]
theorem Ni(h:n<=my):n<sizeLine:=gG h #[12]
inductive R(α:Type) where
 |ok (a:α) (st:List al)
 |ex (c:Str) (st:List al)
 |bad
noncomputable def R.bind:R α->(α->List al->R β)->R β
 |.ok a st,k=>k a st
 |.ex c st,_=>.ex c st
 |.bad,_=>.bad
@[simp] theorem R.bind_ok{α β:Type}(a:α)(st:List al)(k:α->List al->R β):(R.ok a st).bind k=k a st:=rfl
@[simp] theorem R.bind_ex{α β:Type}(c:Str)(st:List al)(k:α->List al->R β):(R.ex c st:R α).bind k=.ex c st:=rfl
@[simp] theorem R.bind_bad{α β:Type}(k:α->List al->R β):(R.bad:R α).bind k=.bad:=rfl
noncomputable abbrev cM:=List (Option W)
inductive RS where
 |nx (ρ:cM) (st:List al)|rt (w:W) (st:List al)|bk (ρ:cM) (st:List al)|ct (ρ:cM) (st:List al)
 |ex (c:Str) (ρ:cM) (st:List al)|bad
abbrev FE:=cM->List al->R W
abbrev FT:=cM->List al->R Bool
abbrev FA:=cM->List al->R (List W)
abbrev FS:=cM->List al->RS
section
variable(K:Frag)
mutual
def bG(μ:List Addr)(H:Hp):W->V->Prop
 |.non,v=>v=.non
 |.bl b,v=>v=.bl b
 |.int i,v=>v=.int i
 |.str l,v=>v=.str (tx l)
 |.tup ws,v=>∃p vs,v=.ref p/\f_ K H p vs/\RelWs μ H ws vs
 |.loc n,v=>∃a,μ[n]?=some a/\v=.ref a
def RelWs(μ:List Addr)(H:Hp):List W->List V->Prop
 |[],vs=>vs=[]
 |w::ws,vs=>∃x xs,vs=x::xs/\bG μ H w x/\RelWs μ H ws xs
end
end
theorem pre_get(h:μ <+: μ'){a:Addr}(e:μ[n]?=some a):μ'[n]?=some a:=by
 obtain⟨t,rfl⟩:=h
 rw[aK (au.mp e).1];exact e
section
mutual
theorem bG.mono(h:μ <+: μ')(e:fw K H H'):∀{w:W} {v:V},bG K μ H w v->bG K μ' H' w v
 |.non,_,r=>by unfold bG at r ⊢;exact r
 |.bl _,_,r=>by unfold bG at r ⊢;exact r
 |.int _,_,r=>by unfold bG at r ⊢;exact r
 |.str _,_,r=>by unfold bG at r ⊢;exact r
 |.tup _,_,r=>by unfold bG at r ⊢;obtain⟨p,vs,a,b,c⟩:=r;exact⟨p,vs,a,e _ _ b,RelWs.mono h e c⟩
 |.loc _,_,r=>by unfold bG at r ⊢;obtain⟨a,b,c⟩:=r;exact⟨a,pre_get h b,c⟩
theorem RelWs.mono(h:μ <+: μ')(e:fw K H H'):∀{ws:List W} {vs:List V},RelWs K μ H ws vs->RelWs K μ' H' ws vs
 |[],_,r=>by unfold RelWs at r ⊢;exact r
 |_::_,_,r=>by unfold RelWs at r ⊢;obtain⟨x,xs,a,b,c⟩:=r;exact⟨x,xs,a,bG.mono h e b,RelWs.mono h e c⟩
end
theorem RelWs.nilI:RelWs K μ H [] []:=by unfold RelWs;rfl
theorem RelWs.consI{w:W}{ws:List W}{x:V}{xs:List V}(a:bG K μ H w x)(b:RelWs K μ H ws xs):RelWs K μ H (w::ws) (x::xs):=by unfold RelWs;exact⟨x,xs,rfl,a,b⟩
theorem RelWs.nilE(h:RelWs K μ H [] vs):vs=[]:=by unfold RelWs at h;exact h
theorem RelWs.consE{w:W}{ws:List W}(h:RelWs K μ H (w::ws) vs):∃x xs,vs=x::xs/\bG K μ H w x/\RelWs K μ H ws xs:=by unfold RelWs at h;exact h
theorem RelWs.pr:∀{ws:List W} {vs:List V},RelWs K μ H ws vs↔Paired (fun w v=>bG K μ H w v) ws vs
 |[],vs=>⟨fun h=>by rw[h.nilE];exact .nil,fun h=>by cases h;exact .nilI⟩
 |w::ws,vs=>⟨fun h=>by obtain⟨x,xs,rfl,a,b⟩:=h.consE;exact .cons a (RelWs.pr.mp b),fun h=>by cases h with|cons a b=>exact .consI a (RelWs.pr.mpr b)⟩
theorem RelWs.len{ws:List W}(h:RelWs K μ H ws vs):ws.length=vs.length:=Paired.length (RelWs.pr.mp h)
theorem RelWs.app:∀{as:List W} {xs:List V} {bs:List W} {ys:List V},RelWs K μ H as xs->RelWs K μ H bs ys->RelWs K μ H (as++bs) (xs++ys)
 |[],xs,bs,ys,a,b=>by rw[a.nilE];exact b
 |w::as,xs,bs,ys,a,b=>by obtain⟨x,xs,rfl,c,d⟩:=a.consE;exact .consI c (RelWs.app d b)
theorem RelWs.get:∀{ws:List W} {vs:List V} {i:Nat} {w:W},RelWs K μ H ws vs->ws[i]?=some w->∃v,vs[i]?=some v/\bG K μ H w v
 |[],_,_,_,_,e=>by simp at e
 |x::ws,vs,0,w,h,e=>by obtain⟨y,ys,rfl,a,b⟩:=h.consE;simp at e;subst e;exact⟨y,rfl,a⟩
 |x::ws,vs,i+1,w,h,e=>by obtain⟨y,ys,rfl,a,b⟩:=h.consE;simpa using RelWs.get (i:=i) b (by simpa using e)
theorem RelWs.take:∀{ws:List W} {vs:List V} (n:Nat),RelWs K μ H ws vs->RelWs K μ H (ws.take n) (vs.take n)
 |_,_,0,_=>by simp only[List.take_zero];exact .nilI
 |[],vs,n+1,h=>by rw[h.nilE];exact .nilI
 |x::ws,vs,n+1,h=>by obtain⟨y,ys,rfl,a,b⟩:=h.consE;exact .consI a (RelWs.take n b)
theorem RelWs.drop:∀{ws:List W} {vs:List V} (n:Nat),RelWs K μ H ws vs->RelWs K μ H (ws.drop n) (vs.drop n)
 |_,_,0,h=>h
 |[],vs,n+1,h=>by rw[h.nilE];exact .nilI
 |x::ws,vs,n+1,h=>by obtain⟨y,ys,rfl,a,b⟩:=h.consE;exact RelWs.drop n b
theorem RelWs.setI:∀{ws:List W} {vs:List V} (i:Nat) {w:W} {v:V},bG K μ H w v->RelWs K μ H ws vs->RelWs K μ H (ws.set i w) (vs.set i v)
 |[],vs,_,_,_,_,h=>by rw[h.nilE];exact .nilI
 |x::ws,vs,0,w,v,r,h=>by obtain⟨y,ys,rfl,a,b⟩:=h.consE;exact .consI r b
 |x::ws,vs,i+1,w,v,r,h=>by obtain⟨y,ys,rfl,a,b⟩:=h.consE;exact .consI a (RelWs.setI i r b)
theorem bG.intE{i:Int}{v:V}(h:bG K μ H (.int i) v):v=.int i:=by unfold bG at h;exact h
theorem bG.blE{b:Bool}{v:V}(h:bG K μ H (.bl b) v):v=.bl b:=by unfold bG at h;exact h
theorem bG.nonE{v:V}(h:bG K μ H .non v):v=.non:=by unfold bG at h;exact h
theorem bG.strE{v:V}(h:bG K μ H (.str l) v):v=.str (tx l):=by unfold bG at h;exact h
theorem bG.tupE{ws:List W}{v:V}(h:bG K μ H (.tup ws) v):∃p vs,v=.ref p/\f_ K H p vs/\RelWs K μ H ws vs:=by unfold bG at h;exact h
theorem bG.locE{v:V}(h:bG K μ H (.loc n) v):∃a,μ[n]?=some a/\v=.ref a:=by unfold bG at h;exact h
theorem bG.int{i:Int}:bG K μ H (.int i) (.int i):=by unfold bG;rfl
theorem bG.bl{i:Bool}:bG K μ H (.bl i) (.bl i):=by unfold bG;rfl
theorem bG.non:bG K μ H .non .non:=by unfold bG;rfl
theorem bG.str:bG K μ H (.str l) (.str (tx l)):=by unfold bG;rfl
theorem bG.tupI{ws:List W}{p:Addr}(a:f_ K H p vs)(b:RelWs K μ H ws vs):bG K μ H (.tup ws) (.ref p):=by unfold bG;exact⟨p,vs,rfl,a,b⟩
theorem bG.locI{a:Addr}(e:μ[n]?=some a):bG K μ H (.loc n) (.ref a):=by unfold bG;exact⟨a,e,rfl⟩
end
noncomputable def Qy(a:Addr)(C:Value):HO:=.ext fun h=>∃o vs,h.get? a=some o/\o.cls=C/\o.data=.fields vs
noncomputable def An(b:Addr)(q:Str):HO:=.ext fun h=>∃o vs t,h.get? b=some o/\o.data=.fields vs/\vs[1]?=some (.str q t)
def Su(K:Frag)(H:Hp)(a:Addr)(xs:List V):Prop:=
 (∃o,H a=some (.frz o (.lst xs)))\/∃(o:Obj) (bI:Array Value) (n:Nat),K.lookup a=some o/\o.cls=.type "list"/\o.dict=none/\o.data=.seq bI n/\bI.size<=sizeLine/\cL 0 xs bI.toList
theorem Su.sq{a:Addr}{xs:List V}(h:Su K H a xs):sF K H a xs:=by
 rcases h with⟨o,h⟩|h
 ·exact .inl (.inr ⟨o,h⟩)
 ·exact .inr h
noncomputable def al.isRo:al->Bool
 |.ro _=>true
 |.gone=>true
 |_=>false
def DX(a:Addr)(es:List DictEntry):Heap->Prop:=fun h=>∃o ep,h.get? a=some o/\o.ExactDict/\o.data=.dict es.toArray ep
noncomputable abbrev Ut(a:Addr)(es:List DictEntry):HO:=.ext (DX a es)
def Ao(K:Frag)(μ:List Addr)(H:Hp)(p:KX×W)(e:DictEntry):Prop:=e.hash=p.1.hash/\(∃v,bG K μ H p.1.w v/\cS 0 v e.key)/\∃v,bG K μ H p.2 v/\cS 0 v e.val
noncomputable def TF(a:Addr)(o:Obj):HO:=.ext fun h=>h.get? a=some o
def lS(K:Frag)(mg:Str->Option Value)(μ:List Addr)(H:Hp):al->Addr->Prop
 |.lst ws,a=>∃vs,H a=some (.lst vs)/\RelWs K μ H ws vs
 |.ro ws,a=>∃vs,Su K H a vs/\RelWs K μ H ws vs
 |.exc c,a=>∃C,mg c=some C/\H a=some (Qy a C)
 |.dct kvs,a=>∃vs,H a=some (.dK ((kvs.map fun p=>p.1.key).zip vs))/\RelWs K μ H (kvs.map fun p=>p.2) vs
 |.rod kvs,a=>∃vs o,H a=some (.frz o (.dK ((kvs.map fun p=>p.1.key).zip vs)))/\RelWs K μ H (kvs.map fun p=>p.2) vs
 |.dcx kvs,a=>∃es,H a=some (Ut a es)/\(a==sysModules)=false/\Paired (Ao K μ H) kvs es/\(kvs.map fun p=>p.1).Nodup
 |.rox kvs,a=>∃es o,H a=some (.frz o (Ut a es))/\(a==sysModules)=false/\Paired (Ao K μ H) kvs es/\(kvs.map fun p=>p.1).Nodup
 |.obj c fs,a=>∃C dx vs,mg c=some (.ref C)/\H a=some (.ins C dx ((fs.map fun p=>p.1).zip vs))/\RelWs K μ H (fs.map fun p=>p.2) vs
 |.tab P pos q,a=>a=P/\∃ps,H a=some (.tbl ps)/\TriplesOk ps.toList/\(codeAmong pos ps.toList=none\/∃c,codeAmong pos ps.toList=some (.ref c)/\H c=some (An c q))
 |.pin k c o w,a=>a=c/\H a=some (TF a o)/\(k=false->∃fd cd,o.data=.func fd/\fd.code=.ref cd/\H cd=some (An cd fd.qualname))/\∃v,bG K μ H w v/\(k=true->∃u,o.data=.cell (some u)/\cS 0 v u)
 |.gone,_=>True
structure jk(K:Frag)(mg:Str->Option Value)(μ:List Addr)(st:List al)(H:Hp):Prop where
 nd:∀(i j:Nat) (a:Addr) (ci cj:al),st[i]?=some ci->st[j]?=some cj->ci.isRo=false->cj.isRo=false->μ[i]?=some a->μ[j]?=some a->i=j
 len:st.length=μ.length
 at':∀(i:Nat) (c:al) (a:Addr),st[i]?=some c->μ[i]?=some a->lS K mg μ H c a
section
variable{st:List al}
theorem Ao.mono(h:μ <+: μ')(x:fw K H H'){p:KX×W}{e:DictEntry}(r:Ao K μ H p e):Ao K μ' H' p e:=by
 obtain⟨a,⟨v,b,c⟩,u,d,g⟩:=r
 exact⟨a,⟨v,b.mono h x,c⟩,u,d.mono h x,g⟩
theorem lS.keep(h:μ <+: μ')(x:fw K H H'){c:al}{a:Addr}(e:∀o,H a=some o->H' a=some o)(e2:∀b q,H b=some (An b q)->H' b=some (An b q))(r:lS K mg μ H c a):lS K mg μ' H' c a:=by
 cases c with
 |lst ws=>obtain⟨vs,p,y⟩:=r;exact⟨vs,e _ p,y.mono h x⟩
 |ro ws=>
  obtain⟨vs,p,y⟩:=r
  refine⟨vs,?_,y.mono h x⟩
  rcases p with⟨o,p⟩|p
  ·exact .inl ⟨o,e _ p⟩
  ·exact .inr p
 |exc c=>obtain⟨C,p,y⟩:=r;exact⟨C,p,e _ y⟩
 |dct kvs=>obtain⟨vs,p,y⟩:=r;exact⟨vs,e _ p,y.mono h x⟩
 |rod kvs=>obtain⟨vs,o,p,y⟩:=r;exact⟨vs,o,e _ p,y.mono h x⟩
 |dcx kvs=>obtain⟨es,p,d,y,z⟩:=r;exact⟨es,e _ p,d,Paired.imp' (fun _ _ q=>q.mono h x) y,z⟩
 |rox kvs=>obtain⟨es,o,p,d,y,z⟩:=r;exact⟨es,o,e _ p,d,Paired.imp' (fun _ _ q=>q.mono h x) y,z⟩
 |obj c fs=>obtain⟨C,dx,vs,m,p,y⟩:=r;exact⟨C,dx,vs,m,e _ p,y.mono h x⟩
 |tab P pos q=>
  obtain⟨ea,ps,p,t,y⟩:=r
  refine⟨ea,ps,e _ p,t,?_⟩
  rcases y with y|⟨c,y,z⟩
  ·exact .inl y
  ·exact .inr ⟨c,y,e2 _ _ z⟩
 |pin k c o w=>obtain⟨ea,p,g,v,y,z⟩:=r;exact⟨ea,e _ p,fun q=>let ⟨fd,cd,q1,q2,q3⟩:=g q;⟨fd,cd,q1,q2,e2 _ _ q3⟩,v,y.mono h x,z⟩
 |gone=>trivial
theorem lS.ro_ne{c:al}{a:Addr}(r:lS K mg μ H c a)(h:c.isRo=false):∃o,H a=some o:=by
 cases c with
 |lst ws=>obtain⟨vs,p,y⟩:=r;exact⟨_,p⟩
 |ro ws=>cases h
 |exc c=>obtain⟨C,p,y⟩:=r;exact⟨_,y⟩
 |dct kvs=>obtain⟨vs,p,y⟩:=r;exact⟨_,p⟩
 |rod kvs=>obtain⟨vs,o,p,y⟩:=r;exact⟨_,p⟩
 |dcx kvs=>obtain⟨es,p,_⟩:=r;exact⟨_,p⟩
 |rox kvs=>obtain⟨es,o,p,_⟩:=r;exact⟨_,p⟩
 |obj c fs=>obtain⟨C,dx,vs,m,p,y⟩:=r;exact⟨_,p⟩
 |tab P pos q=>obtain⟨_,ps,p,_⟩:=r;exact⟨_,p⟩
 |pin k c o w=>obtain⟨_,p,_⟩:=r;exact⟨_,p⟩
 |gone=>cases h
theorem jk.same(S:jk K mg μ st H)(e:uq H H'):jk K mg μ st H':=⟨S.nd,S.len,fun i c a h1 h2=>(S.at' i c a h1 h2).keep (am _) (f_.same e) (e a) fun b q h=>e b _ h⟩
theorem jk.get(S:jk K mg μ st H){c:al}(h:st[n]?=some c):∃a,μ[n]?=some a/\lS K mg μ H c a:=by
 have hn:n<μ.length:=by rw[<- S.len];exact(au.mp h).1
 exact⟨μ[n],aq hn,S.at' n c _ h (aq hn)⟩
theorem jk.push(S:jk K mg μ st H){p:Addr}{o:HO}{c:al}(hp:H p=none)(hc:lS K mg (μ++[p]) (fW H p o) c p):jk K mg (μ++[p]) (st++[c]) (fW H p o):=by
 have hs:uq H (fW H p o):=df hp o
 have BE:μ <+: μ++[p]:=be _ _
 have old:∀{i:Nat} {d:al} {a:Addr},i<st.length->(st++[c])[i]?=some d->(μ++[p])[i]?=some a->st[i]?=some d/\μ[i]?=some a:=fun{i d a} hi h1 h2=>by
  rw[aK hi]at h1
  rw[aK (by rw[<- S.len];exact hi)]at h2
  exact⟨h1,h2⟩
 have new:∀{i:Nat} {d:al} {a:Addr},¬ i<st.length->(st++[c])[i]?=some d->(μ++[p])[i]?=some a->i=st.length/\d=c/\a=p:=fun{i d a} hi h1 h2=>by
  have hi':i=st.length:=by
   have:=(au.mp h1).1
   simp at this;omega
  subst hi'
  simp at h1
  rw[S.len,aY (az _)]at h2
  simp at h2
  exact⟨rfl,h1.symm,h2.symm⟩
 refine⟨fun i j a ci cj h1 h2 r1 r2 m1 m2=>?_,by simp[S.len],fun i d a h1 h2=>?_⟩
 ·by_cases hi:i<st.length
  ·obtain⟨x1,x2⟩:=old hi h1 m1
   by_cases hj:j<st.length
   ·obtain⟨y1,y2⟩:=old hj h2 m2
    exact S.nd i j a ci cj x1 y1 r1 r2 x2 y2
   ·obtain⟨_,_,rfl⟩:=new hj h2 m2
    obtain⟨o',z⟩:=(S.at' i ci a x1 x2).ro_ne r1
    rw[hp]at z;cases z
  ·obtain⟨e1,_,rfl⟩:=new hi h1 m1
   by_cases hj:j<st.length
   ·obtain⟨y1,y2⟩:=old hj h2 m2
    obtain⟨o',z⟩:=(S.at' j cj a y1 y2).ro_ne r2
    rw[hp]at z;cases z
   ·obtain⟨e2,_,_⟩:=new hj h2 m2
    omega
 ·by_cases hi:i<st.length
  ·obtain⟨x1,x2⟩:=old hi h1 h2
   exact(S.at' i d a x1 x2).keep BE (f_.same hs) (hs a) fun b q h=>hs b _ h
  ·obtain⟨_,rfl,rfl⟩:=new hi h1 h2
   exact hc
theorem jk.setG(S:jk K mg μ st H){a:Addr}{c c':al}{o o':HO}(hn:st[n]?=some c)(BB:c.isRo=false)(hm:μ[n]?=some a)(ha:H a=some o)(hf:∀q u,o≠.frz q u)(hg:∀q,o≠An a q)(hx:fw K H (fW H a o'))(U2:c'.isRo=false)(hr:lS K mg μ (fW H a o') c' a):jk K mg μ (st.set n c') (fW H a o'):=by
 have hl:n<st.length:=(au.mp hn).1
 have back:∀{i:Nat} {d:al},(st.set n c')[i]?=some d->∃d',st[i]?=some d'/\(d'=d\/(i=n/\d=c')):=fun{i d} h=>by
  by_cases e:i=n
  ·subst e
   rw[cr hl]at h
   exact⟨_,hn,.inr ⟨rfl,(bq h).symm⟩⟩
  ·rw[cX (Ne.symm e)]at h
   exact⟨d,h,.inl rfl⟩
 refine⟨fun i j b ci cj h1 h2 r1 r2 m1 m2=>?_,by simp[S.len],fun i d b h1 h2=>?_⟩
 ·obtain⟨di,x1,y1⟩:=back h1
  obtain⟨dj,x2,y2⟩:=back h2
  refine S.nd i j b di dj x1 x2 ?_ ?_ m1 m2
  ·rcases y1 with rfl|⟨rfl,rfl⟩
   ·exact r1
   ·rw[hn]at x1;cases x1;exact BB
  ·rcases y2 with rfl|⟨rfl,rfl⟩
   ·exact r2
   ·rw[hn]at x2;cases x2;exact BB
 ·by_cases e:i=n
  ·subst e
   rw[cr hl]at h1
   cases h1
   rw[hm]at h2;cases h2
   exact hr
  ·rw[cX (Ne.symm e)]at h1
   have r:=S.at' i d b h1 h2
   by_cases hrd:d.isRo=true
   ·cases d with
    |ro zs=>
     obtain⟨us,p,q⟩:=r
     refine⟨us,?_,q.mono (am _) hx⟩
     rcases p with⟨o2,p⟩|p
     ·exact .inl ⟨o2,by rw[c_ (by rintro rfl;rw[ha]at p;cases p;exact hf _ _ rfl)];exact p⟩
     ·exact .inr p
    |lst _=>cases hrd
    |exc _=>cases hrd
    |dct _=>cases hrd
    |rod _=>cases hrd
    |dcx _=>cases hrd
    |rox _=>cases hrd
    |obj _ _=>cases hrd
    |tab _ _ _=>cases hrd
    |pin _ _ _ _=>cases hrd
    |gone=>trivial
   ·refine r.keep (am _) hx (fun o ho=>?_) fun b' q h=>by rw[c_ (by rintro rfl;rw[ha]at h;cases h;exact hg _ rfl)];exact h
    have hb:b≠a:=by
     rintro rfl
     exact e (S.nd i n b d _ h1 hn (by simpa using hrd) BB h2 hm)
    rw[c_ hb];exact ho
theorem jk.set(S:jk K mg μ st H){a:Addr}{ws R8:List W}{C8:List V}(hn:st[n]?=some (.lst ws))(hm:μ[n]?=some a)(ha:H a=some (.lst vs))(hr:RelWs K μ H R8 C8):jk K mg μ (st.set n (.lst R8)) (fW H a (.lst C8)):=by
 have hx:fw K H (fW H a (.lst C8)):=f_.but jn ha
 have hl:n<st.length:=(au.mp hn).1
 have back:∀{i:Nat} {d:al},(st.set n (.lst R8))[i]?=some d->∃d',st[i]?=some d'/\(d'=d\/(i=n/\d=.lst R8)):=fun{i d} h=>by
  by_cases e:i=n
  ·subst e
   rw[cr hl]at h
   exact⟨_,hn,.inr ⟨rfl,(bq h).symm⟩⟩
  ·rw[cX (Ne.symm e)]at h
   exact⟨d,h,.inl rfl⟩
 refine⟨fun i j b ci cj h1 h2 r1 r2 m1 m2=>?_,by simp[S.len],fun i d b h1 h2=>?_⟩
 ·obtain⟨di,x1,y1⟩:=back h1
  obtain⟨dj,x2,y2⟩:=back h2
  refine S.nd i j b di dj x1 x2 ?_ ?_ m1 m2
  ·rcases y1 with rfl|⟨rfl,rfl⟩
   ·exact r1
   ·rw[hn]at x1;cases x1;rfl
  ·rcases y2 with rfl|⟨rfl,rfl⟩
   ·exact r2
   ·rw[hn]at x2;cases x2;rfl
 ·by_cases e:i=n
  ·subst e
   rw[cr hl]at h1
   cases h1
   rw[hm]at h2;cases h2
   exact⟨C8,gJ,hr.mono (am _) hx⟩
  ·rw[cX (Ne.symm e)]at h1
   have r:=S.at' i d b h1 h2
   by_cases BB:d.isRo=true
   ·cases d with
    |ro zs=>
     obtain⟨us,p,q⟩:=r
     refine⟨us,?_,q.mono (am _) hx⟩
     rcases p with⟨o',p⟩|p
     ·exact .inl ⟨o',by rw[c_ (by rintro rfl;rw[ha]at p;cases p)];exact p⟩
     ·exact .inr p
    |lst _=>cases BB
    |exc _=>cases BB
    |dct _=>cases BB
    |rod _=>cases BB
    |dcx _=>cases BB
    |rox _=>cases BB
    |obj _ _=>cases BB
    |tab _ _ _=>cases BB
    |pin _ _ _ _=>cases BB
    |gone=>trivial
   ·refine r.keep (am _) hx (fun o ho=>?_) fun b' q h=>by rw[c_ (by rintro rfl;rw[ha]at h;cases h)];exact h
    have hb:b≠a:=by
     rintro rfl
     exact e (S.nd i n b d _ h1 hn (by simpa using BB) rfl h2 hm)
    rw[c_ hb];exact ho
end
end L2
variable{st bn st1 z:List L2.al}{body:L2.FS}{t:L2.FT}{kvs:List (L2.DK×L2.W)}{ws:List L2.W}{ρ:L2.cM}{fa fe fo el:L2.FE}{F G:List L2.W->List L2.al->L2.R L2.W}{ck:Option (Nat×List L2.W)}
namespace L2
open PySem PySem.Spec PyProof.Rows
structure Rl(X:Cx)(μ:List Addr)(ρ:cM)(st:List al)(σ:St)(H:Hp):Prop where
 env:Paired (fun(o:Option W) (s:Option V)=>∀w,o=some w->∃v,s=some v/\bG X.K μ H w v) ρ σ
 sto:jk X.K X.mg μ st H
theorem xz(h:μ <+: μ')(x:fw K H H'):∀{ρ:cM} {σ:St},Paired (fun(o:Option W) (s:Option V)=>∀w,o=some w->∃v,s=some v/\bG K μ H w v) ρ σ ->
  Paired (fun(o:Option W) (s:Option V)=>∀w,o=some w->∃v,s=some v/\bG K μ' H' w v) ρ σ
 |_,_,.nil=>.nil
 |_,_,.cons a t=>.cons (fun w e=>let ⟨v,p,q⟩:=a w e;⟨v,p,q.mono h x⟩) (xz h x t)
theorem Rl.to(r:Rl X μ ρ st σ H)(h:μ <+: μ')(x:fw X.K H H')(s:jk X.K X.mg μ' bn H'):Rl X μ' ρ bn σ H':=⟨xz h x r.env,s⟩
theorem vg:∀{ρ:cM} {σ:St} {i:Nat} {w:W},Paired (fun(o:Option W) (s:Option V)=>∀w,o=some w->∃v,s=some v/\bG K μ H w v) ρ σ->ρ[i]?=some (some w)->∃v,σ[i]?=some (some v)/\bG K μ H w v
 |_,_,_,_,.nil,e=>by simp at e
 |_,_,0,w,.cons a t,e=>by simp at e;obtain⟨v,p,q⟩:=a w e;exact⟨v,by simp[p],q⟩
 |_,_,i+1,w,.cons a t,e=>by simpa using vg (i:=i) t (by simpa using e)
theorem vh{w:W}{v:V}(r:bG K μ H w v):∀{ρ:cM} {σ:St} (i:Nat),Paired (fun(o:Option W) (s:Option V)=>∀w,o=some w->∃v,s=some v/\bG K μ H w v) ρ σ ->
  Paired (fun(o:Option W) (s:Option V)=>∀w,o=some w->∃v,s=some v/\bG K μ H w v) (ρ.set i (some w)) (σ.set i (some v))
 |_,_,_,.nil=>.nil
 |_,_,0,.cons a t=>.cons (fun w' e=>⟨v,rfl,by cases e;exact r⟩) t
 |_,_,i+1,.cons a t=>.cons a (vh r i t)
structure xA(X:Cx)(aj:List (Addr×Obj))(σ:St)(c:Str)(H:Hp)(e:Value)(s:Shared):Prop where
 inv:bT X aj σ H s
 ex:∃x C t B,e=.ref x/\X.mg c=some C/\H x=none/\B.StaysIn s.heap/\B.get? x=none/\s.heap.FunFrames B X.stack /\
  (s.heap.TracedW B x C (.ref t)\/(∃oe vs,s.heap.get? x=some oe/\oe.cls=C/\oe.dict=none/\oe.data=.fields vs/\vs[1]?=some .none/\vs[0]?=some (.ref t))\/∃L,X.env.frame=some L/\s.heap.TracedAtW B x C (.ref t) (rawInt L)) /\
  ∀b o,s.heap.get? b=some o->(H b≠none\/((∃o0,X.s₀.heap.get? b=some o0)/\b∉X.fs/\b∉X.ex)\/((∃y,X.env.cells.lookup y=some b)/\b∉uN X.stack)\/∃p∈X.pn++aj,p.1=b)->B.get? b=some o
def XS(X:Cx)(c:Str)(μ:List Addr)(ρ:cM)(st:List al)(H:Hp):Prop:=
 ∀aj μ' σ' H' e s',μ <+: μ'->fw X.K H H'->Rl X μ' ρ st σ' H'->xA X aj σ' c H' e s'->X.xe e s'
def XE(X:Cx)(c:Str)(μ:List Addr)(st:List al)(σ:St)(H:Hp):Prop:=
 ∀aj μ' H' e s',μ <+: μ'->fw X.K H H'->jk X.K X.mg μ' st H'->xA X aj σ c H' e s'->X.xe e s'
theorem XE.mono{c:Str}{μ1:List Addr}{H1:Hp}(h:XE X c μ st σ H)(p:μ <+: μ1)(x:fw X.K H H1):XE X c μ1 st σ H1:=fun aj μ' H' e s' a b=>h aj μ' H' e s' (p.trans a) (x.trans b)
theorem XS.mono{c:Str}{μ1:List Addr}{H1:Hp}(h:XS X c μ ρ st H)(p:μ <+: μ1)(x:fw X.K H H1):XS X c μ1 ρ st H1:=fun aj μ' σ' H' e s' a b=>h aj μ' σ' H' e s' (p.trans a) (x.trans b)
theorem XS.toE{c:Str}{S5:List al}(h:XS X c μ ρ st H)(r:Rl X μ ρ S5 σ H):XE X c μ st σ H:=fun aj μ' H' e s' a b s f=>h aj μ' σ H' e s' a b (r.to a b s) f
def RK(X:Cx)(rel:List Addr->Hp->α->β->Prop)(μ:List Addr)(σ:St)(H:Hp)(Q:β->Hp->Prop):R α->Prop
 |.ok a bn=>∀μ' b H',μ <+: μ'->fw X.K H H'->jk X.K X.mg μ' bn H'->rel μ' H' a b->Q b H'
 |.ex c bn=>XE X c μ bn σ H
 |.bad=>False
theorem RK.mono{rel:List Addr->Hp->α->β->Prop}{μ1:List Addr}{H1:Hp}{Q:β->Hp->Prop}{r:R α}(h:RK X rel μ σ H Q r)(p:μ <+: μ1)(x:fw X.K H H1):RK X rel μ1 σ H1 Q r:=by
 cases r with
 |ok a st=>exact fun μ' b H' a1 b1=>h μ' b H' (p.trans a1) (x.trans b1)
 |ex c st=>exact XE.mono h p x
 |bad=>exact h
def tG(X:Cx)(rel:List Addr->Hp->α->β->Prop)(f:cM->List al->R α)(σ:St)(H:Hp)(Q:β->Hp->Prop):Prop:=
 ∃μ ρ st,Rl X μ ρ st σ H/\RK X rel μ σ H Q (f ρ st)
abbrev sN(X:Cx):List Addr->Hp->W->V->Prop:=fun μ H w v=>bG X.K μ H w v
abbrev TH(X:Cx):List Addr->Hp->List W->List V->Prop:=fun μ H w v=>RelWs X.K μ H w v
abbrev Nj:List Addr->Hp->Bool->Bool->Prop:=fun _ _ a b=>a=b
abbrev tE(X:Cx)(f:FE):TE:=tG X (sN X) f
abbrev tT(X:Cx)(f:FT):TT:=tG X Nj f
abbrev Qz(X:Cx)(f:FA):TA:=tG X (TH X) f
theorem RK.bind{α' β':Type}{rel:List Addr->Hp->α->β->Prop}{Sg:List Addr->Hp->α'->β'->Prop}{r:R α}{k:α->List al->R α'}{Q:β'->Hp->Prop}{T:β->Hp->Prop}
  (h:RK X Sg μ σ H Q (r.bind k)) (l:Rl X μ ρ st σ H)
  (hk:∀μ' bn x v H',μ <+: μ'->fw X.K H H'->Rl X μ' ρ bn σ H'->rel μ' H' x v->RK X Sg μ' σ H' Q (k x bn)->T v H'):RK X rel μ σ H T r:=by
 cases r with
 |ok a bn=>exact fun μ' b H' p x s q=>hk μ' bn a b H' p x (l.to p x s) q (RK.mono h p x)
 |ex c bn=>exact h
 |bad=>exact h
def SK(X:Cx)(μ:List Addr)(H:Hp)(D:yp):RS->Prop
 |.nx ρ st=>∀μ' σ' H',μ <+: μ'->fw X.K H H'->Rl X μ' ρ st σ' H'->D.nx σ' H'
 |.bk ρ st=>∀μ' σ' H',μ <+: μ'->fw X.K H H'->Rl X μ' ρ st σ' H'->D.bk σ' H'
 |.ct ρ st=>∀μ' σ' H',μ <+: μ'->fw X.K H H'->Rl X μ' ρ st σ' H'->D.ct σ' H'
 |.rt w st=>∀μ' v H',μ <+: μ'->fw X.K H H'->jk X.K X.mg μ' st H'->bG X.K μ' H' w v->D.rt v H'
 |.ex c ρ st=>XS X c μ ρ st H
 |.bad=>False
theorem SK.mono{μ1:List Addr}{H1:Hp}{D:yp}{r:RS}(h:SK X μ H D r)(p:μ <+: μ1)(x:fw X.K H H1):SK X μ1 H1 D r:=by
 cases r with
 |nx ρ st=>exact fun μ' b H' a1 b1=>h μ' b H' (p.trans a1) (x.trans b1)
 |bk ρ st=>exact fun μ' b H' a1 b1=>h μ' b H' (p.trans a1) (x.trans b1)
 |ct ρ st=>exact fun μ' b H' a1 b1=>h μ' b H' (p.trans a1) (x.trans b1)
 |rt w st=>exact fun μ' b H' a1 b1=>h μ' b H' (p.trans a1) (x.trans b1)
 |ex c ρ st=>exact XS.mono h p x
 |bad=>exact h
def Sv(X:Cx)(g:FS):TS:=fun D σ H=>∃μ ρ st,Rl X μ ρ st σ H/\SK X μ H D (g ρ st)
structure SE(X:Cx)(e:Expr)(f:FE):Prop where
 h:PE X e (tE X f)
structure ST(X:Cx)(e:Expr)(f:FT):Prop where
 h:PT X e (tT X f)
structure SW(X:Cx)(e:Expr)(f:FT):Prop where
 h:PW X e (tT X f)
structure SA(X:Cx)(es:List Expr)(f:FA):Prop where
 h:PA X es (Qz X f)
structure SS(X:Cx)(s:Stmt)(g:FS):Prop where
 h:PS X s (Sv X g)
structure SB(X:Cx)(s:List Stmt)(g:FS):Prop where
 h:D' X s (Sv X g)
theorem PE.imp{t t':TE}(h:PE X e t)(i:∀σ H Q,t' σ H Q->t σ H Q):PE X e t':=fun aj s σ H Q I q=>h aj s σ H Q I (i _ _ _ q)
theorem PT.imp{t t':TT}(h:PT X e t)(i:∀σ H Q,t' σ H Q->t σ H Q):PT X e t':=fun aj s σ H Q I q=>h aj s σ H Q I (i _ _ _ q)
theorem PW.imp{t t':TT}(h:PW X e t)(i:∀σ H Q,t' σ H Q->t σ H Q):PW X e t':=fun wh aj s σ H Q I q=>h wh aj s σ H Q I (i _ _ _ q)
theorem PA.imp{e:List Expr}{t t':TA}(h:PA X e t)(i:∀σ H Q,t' σ H Q->t σ H Q):PA X e t':=fun pos aj s σ H Q I q=>h pos aj s σ H Q I (i _ _ _ q)
theorem PS.imp{e:Stmt}{t t':TS}(h:PS X e t)(i:∀D σ H,t' D σ H->t D σ H):PS X e t':=fun aj s σ H D I q=>h aj s σ H D I (i _ _ _ q)
theorem D'.imp{e:List Stmt}{t t':TS}(h:D' X e t)(i:∀D σ H,t' D σ H->t D σ H):D' X e t':=fun aj s σ H D I q=>h aj s σ H D I (i _ _ _ q)
section
variable{a b:Expr}{x:Str}{iJ:List Expr}{fb fc:FE}{ft fu:FT}{fs:FA}
def ag(i:Nat):FE:=fun ρ st=>match ρ[i]? with
 |some (some w)=>.ok w st
 |_=>.bad
theorem aa(i:Nat){pos:Pos}(hN:X.N[i]?=some x:=by rfl)(hv:PF X.env.scope x:=by first|exact Or.inl rfl|exact Or.inr (Or.inl rfl)|exact Or.inr (Or.inr rfl))(hd:(x==("__debug__":Str))=false:=by decide)
  (Fb:(x==("__classdict__":Str))=false:=by decide):SE X (.Name x pos) (ag i):=⟨(pv i hN hv hd Fb).imp fun σ H Q h=>by
 obtain⟨μ,ρ,st,r,h⟩:=h
 unfold ag at h
 cases e:ρ[i]? with
 |none=>rw[e]at h;exact h.elim
 |some ow=>
  cases ow with
  |none=>rw[e]at h;exact h.elim
  |some w=>
   rw[e]at h
   obtain⟨v,e1,e2⟩:=vg r.env e
   exact⟨v,e1,h μ v H (am _) fw.refl r.sto e2⟩⟩
def eC(w:W):FE:=fun _ st=>.ok w st
abbrev eI(n:Int):FE:=eC (.int n)
theorem QB{w:W}{v:V}(hc:PE X e (tC v))(hr:∀μ H,bG X.K μ H w v):SE X e (eC w):=⟨hc.imp fun σ H Q h=>by
 obtain⟨μ,ρ,st,r,h⟩:=h
 exact h μ v H (am _) fw.refl r.sto (hr _ _)⟩
theorem aB{i:Int}:SE X (.Constant (.int i) j pos) (eC (.int i)):=QB Mn fun _ _=>.int
theorem Ca{k:Bool}:SE X (.Constant (.bool k) j pos) (eC (.bl k)):=QB PJ fun _ _=>.bl
theorem qf:SE X (.Constant .none j pos) (eC .non):=QB Mo fun _ _=>.non
theorem fC(h:x=tx l:=by decide +kernel):SE X (.Constant (.str x) j pos) (eC (.str l)):=QB Mp fun _ _=>by rw[h];exact .str
theorem TJ{w:W}(h:∃u v,X.mg x=some u/\cS 0 v u/\∀μ H,bG X.K μ H w v)(hg:Gl X x:=by rfl)(hd:(x==("__debug__":Str))=false:=by decide):SE X (.Name x pos) (eC w):=by
 obtain⟨u,v,a,b,c⟩:=h
 exact QB (Ql ⟨u,a,b⟩ hg hd) c
def e2(f:W->W->List al->R W)(fa fb:FE):FE:=fun ρ st=>(fa ρ st).bind fun x st=>(fb ρ st).bind fun y st=>f x y st
def Fd(X:Cx)(μ:List Addr)(H:Hp)(Q:VK):R W->Prop
 |.ok w bn=>∀μ' v H',μ <+: μ'->fw X.K H H'->jk X.K X.mg μ' bn H'->bG X.K μ' H' w v->Q v H'
 |_=>False
def ut:R α->Prop
 |.ex _ _=>False
 |_=>True
def TK(X:Cx)(f:W->W->List al->R W):R2:=fun x y H Q=>∃μ st wx wy,jk X.K X.mg μ st H/\bG X.K μ H wx x/\bG X.K μ H wy y/\Fd X μ H Q (f wx wy st)
structure wM(X:Cx)(g:Value->Value->Sem Value)(f:W->W->List al->R W):Prop where
 h:oo X g (TK X f)
 n:∀x y st,ut (f x y st)
theorem sO{Q:VK}{r:R W}(h:RK X (sN X) μ σ H Q r)(n:ut r):Fd X μ H Q r:=by
 cases r with
 |ok a st=>exact h
 |ex c st=>exact n.elim
 |bad=>exact h
theorem Dq{f:W->W->List al->R W}{Q:VK}(n:∀x y st,ut (f x y st))(h:tE X (e2 f fa fb) σ H Q):PZ (TK X f) (tE X fa) (tE X fb) σ H Q:=by
 walk_at "2"
 refine⟨μ,ρ,st,l,RK.bind h l fun μ1 st1 x v H1 p1 x1 l1 q1 h1=>⟨μ1,ρ,st1,l1,RK.bind h1 l1 fun μ2 c5 y u H2 p2 x2 l2 q2 h2=>?_⟩⟩
 exact⟨μ2,c5,x,y,l2.sto,q1.mono p2 x2,q2,sO h2 (n _ _ _)⟩
theorem bD{op:Operator}{f:W->W->List al->R W}(ho:wM X (binaryOp op) f)(ha:SE X a fa)(hb:SE X b fb):SE X (.BinOp a op b pos) (e2 f fa fb):=⟨(P0 ho.h ha.h hb.h).imp fun _ _ _ h=>Dq ho.n h⟩
theorem re{f:W->W->List al->R W}(ho:wM X (compareOp op) f)(ha:SE X a fa)(hb:SE X b fb)(hm:behindInMarks op b=false:=by first|exact FB _|rfl):SE X (.Compare a [op] [b] pos) (e2 f fa fb):=⟨(JB ho.h ha.h hb.h hm).imp fun _ _ _ h=>Dq ho.n h⟩
def eF(fa:FE):FT:=fun ρ st=>(fa ρ st).bind fun x st=>match x with
 |.bl k=>.ok k st
 |_=>.bad
theorem rh{Q:Bool->Hp->Prop}(h:tT X (eF fa) σ H Q):tE X fa σ H fun x H1=>∃k,x=.bl k/\Q k H1:=by
 walk_at "2"
 walk_at "1"
 cases x with
 |bl k=>exact⟨k,q1.blE,h1 μ1 k H1 (am _) fw.refl l1.sto rfl⟩
 |_=>exact h1.elim
theorem cq{f:W->W->List al->R W}(ho:wM X (compareOp op) f)(ha:SE X a fa)(hb:SE X b fb)(hm:behindInMarks op b=false:=by first|exact FB _|rfl):ST X (.Compare a [op] [b] pos) (eF (e2 f fa fb)):=⟨(JC ho.h ha.h hb.h hm).imp fun σ H Q h=>by
 have h':tE X (e2 f fa fb) σ H fun x H1=>∃k,x=.bl k/\Q k H1:=rh h
 exact Dq ho.n h'⟩
theorem ke(h:SE X e fe)(he:∀whole,isTrue e X.env whole=(do let v <- whole;standAt e.pos;holding [v] (truthy v)):=by intro _;rfl):ST X e (eF fe):=⟨(Mr h.h he).imp fun σ H Q h=>rh h⟩
def QC(t u:FT):FT:=fun ρ st=>(t ρ st).bind fun k st=>if k then u ρ st else .ok false st
def Jf(t u:FT):FT:=fun ρ st=>(t ρ st).bind fun k st=>if k then .ok true st else u ρ st
def Fe(t:FT):FT:=fun ρ st=>(t ρ st).bind fun k st=>.ok (!k) st
theorem yF(ha:ST X a ft):SW X (.BoolOp .Or [a] pos) ft:=⟨Ms ha.h⟩
theorem Dr(ha:ST X a ft)(hb:SW X (.BoolOp .Or (b::iJ) pos) fu):SW X (.BoolOp .Or (a::b::iJ) pos) (Jf ft fu):=⟨(PL ha.h hb.h).imp fun σ H Q h=>by
 walk_at "2"
 walk_at "1"
 cases q1
 cases x with
 |false=>exact⟨μ1,ρ,st1,l1,h1⟩
 |true=>exact h1 μ1 true H1 (am _) fw.refl l1.sto rfl⟩
theorem J3(h:SW X e ft):ST X e ft:=⟨h.h.pt⟩
theorem sP(ha:ST X a ft):ST X (.UnaryOp .Not a pos) (Fe ft):=⟨(Mt ha.h).imp fun σ H Q h=>by
 walk_at "2"
 walk_at "1"
 cases q1
 exact h1 μ1 _ H1 (am _) fw.refl l1.sto rfl⟩
def Cb(fa fb:FE):FE:=fun ρ st=>(fa ρ st).bind fun x st=>match x with
 |.bl true=>fb ρ st
 |.bl false=>.ok (.bl false) st
 |_=>.bad
def J4(fa:FE):FE:=fun ρ st=>(fa ρ st).bind fun x st=>match x with
 |.bl k=>.ok (.bl (!k)) st
 |_=>.bad
theorem Ge{op:BoolOp}(h:SE X a fa):SE X (.BoolOp op [a] pos) fa:=⟨Mu h.h⟩
theorem Ds(ha:SE X a fa)(hb:SE X (.BoolOp .And (b::iJ) pos) fb):SE X (.BoolOp .And (a::b::iJ) pos) (Cb fa fb):=⟨(Mv ha.h hb.h).imp fun σ H Q h=>by
 walk_at "2"
 walk_at "1"
 cases x with
 |bl k=>
  refine⟨k,q1.blE,?_⟩
  cases k with
  |true=>exact⟨μ1,ρ,st1,l1,h1⟩
  |false=>exact h1 μ1 _ H1 (am _) fw.refl l1.sto .bl
 |_=>exact h1.elim⟩
theorem QD(ha:SE X a fa):SE X (.UnaryOp .Not a pos) (J4 fa):=⟨(Mw ha.h).imp fun σ H Q h=>by
 walk_at "2"
 walk_at "1"
 cases x with
 |bl k=>exact⟨k,q1.blE,h1 μ1 _ H1 (am _) fw.refl l1.sto .bl⟩
 |_=>exact h1.elim⟩
def Gf(t:FT)(fa fb:FE):FE:=fun ρ st=>(t ρ st).bind fun k st=>if k then fa ρ st else fb ρ st
theorem ED(hc:ST X c ft)(ha:SE X a fa)(hb:SE X b fb):SE X (.IfExp c a b pos) (Gf ft fa fb):=⟨(Fq hc.h ha.h hb.h).imp fun σ H Q h=>by
 walk_at "2"
 walk_at "1"
 cases q1
 cases x with
 |false=>exact⟨μ1,ρ,st1,l1,h1⟩
 |true=>exact⟨μ1,ρ,st1,l1,h1⟩⟩
noncomputable def W.isNon:W->Bool
 |.non=>true
 |_=>false
def yG(fa:FE):FE:=fun ρ st=>(fa ρ st).bind fun x st=>.ok (.bl x.isNon) st
def gu(fa:FE):FE:=fun ρ st=>(fa ρ st).bind fun x st=>.ok (.bl (!x.isNon)) st
theorem K7{w:W}{v:V}(r:bG X.K μ H w v):decide (v=.non)=w.isNon:=by
 cases w with
 |non=>rw[r.nonE];rfl
 |bl b=>rw[r.blE];rfl
 |int b=>rw[r.intE];rfl
 |str b=>rw[r.strE];rfl
 |tup b=>obtain⟨p,vs,rfl,_⟩:=r.tupE;rfl
 |loc b=>obtain⟨p,_,rfl⟩:=r.locE;rfl
theorem K8{Q:VK}(h:tE X (yG fa) σ H Q):PK (tE X fa) σ H Q:=by
 walk_at "2"
 walk_at "1"
 show Q (.bl (decide (v=.non))) H1
 rw[K7 q1]
 exact h1 μ1 _ H1 (am _) fw.refl l1.sto .bl
theorem Nk{Q:VK}(h:tE X (gu fa) σ H Q):KW (tE X fa) σ H Q:=by
 walk_at "2"
 walk_at "1"
 show Q (.bl (!decide (v=.non))) H1
 rw[K7 q1]
 exact h1 μ1 _ H1 (am _) fw.refl l1.sto .bl
theorem QF(ha:SE X a fa):SE X (.Compare a [.Is] [.Constant .none j iq] pos) (yG fa):=⟨(Mq (Fl ha.h)).imp fun _ _ _ h=>K8 h⟩
theorem Cc(ha:SE X a fa):ST X (.Compare a [.Is] [.Constant .none j iq] pos) (eF (yG fa)):=⟨(Fp (Fl ha.h)).imp fun _ _ _ h=>K8 (rh h)⟩
theorem ii(ha:SE X a fa):ST X (.Compare a [.IsNot] [.Constant .none j iq] pos) (eF (gu fa)):=⟨(Fp (Jr ha.h)).imp fun _ _ _ h=>Nk (rh h)⟩
def aD:FA:=fun _ st=>.ok [] st
def ai(fa:FE)(fs:FA):FA:=fun ρ st=>(fa ρ st).bind fun x st=>(fs ρ st).bind fun xs st=>.ok (x::xs) st
theorem ax:SA X [] aD:=⟨FF.imp fun σ H Q h=>by
 walk_at "2"
 exact h μ [] H (am _) fw.refl l.sto .nilI⟩
theorem ae(ha:SE X e fe)(hr:SA X es fs)(hs:starEach (e::es) X.env=(false,eval e X.env)::starEach es X.env:=by rfl):SA X (e::es) (ai fe fs):=⟨(yr ha.h hr.h hs).imp fun σ H Q h=>by
 walk_at "2"
 refine⟨μ,ρ,st,l,RK.bind h l fun μ1 st1 x v H1 p1 x1 l1 q1 h1=>⟨μ1,ρ,st1,l1,RK.bind h1 l1 fun μ2 c5 xs vs H2 p2 x2 l2 q2 h2=>?_⟩⟩
 exact h2 μ2 _ H2 (am _) fw.refl l2.sto (.consI (q1.mono p2 x2) q2)⟩
def QH(zs:List (List Nat)):FA:=fun _ st=>.ok (zs.map W.str) st
def qg(ws:List W)(st:List al):R W:=if ws.length<=my then .ok (.tup ws) st else .bad
def qh(ws:List W)(st:List al):R W:=if ws.length<=my then .ok #[5] (st++[.lst ws])else .bad
def ga(fs:FA):FE:=fun ρ st=>(fs ρ st).bind fun ws st=>qg ws st
def kg(fs:FA):FE:=fun ρ st=>(fs ρ st).bind fun ws st=>qh ws st
theorem jk.newLst(S:jk K mg μ st H){p:Addr}(hp:H p=none)(r:RelWs K μ H ws vs):jk K mg (μ++[p]) (st++[.lst ws]) (fW H p (.lst vs)):=
 S.push hp ⟨vs,gJ,r.mono (be _ _) (f_.same (df hp _))⟩
theorem oy(S:jk K mg μ st H){p:Addr}:bG K (μ++[p]) H' #[5] (.ref p):=.locI (by rw[S.len];simp)
theorem Gh{Q:VK}(S:jk X.K X.mg μ st H)(q:RelWs X.K μ H ws vs)(h:RK X (sN X) μ σ H Q (qg ws st)):vs.length<=sizeLine/\∀p H2,H p=none->H2=fW H p (.tup vs)->Q (.ref p) H2:=by
 unfold qg at h
 by_cases hz:ws.length<=my
 ·rw[aE hz]at h
  refine⟨by rw[<- q.len];exact ou hz,fun p H2 hp e=>?_⟩
  subst e
  have x:=f_.same (K:=X.K) (df hp (.tup vs))
  exact h μ _ _ (am _) x (S.same (df hp _)) (.tupI f_.new (q.mono (am _) x))
 ·rw[aL hz]at h;exact h.elim
theorem vi{σ:St}{Q:VK}(S:jk X.K X.mg μ st H)(q:RelWs X.K μ H ws vs)(h:RK X (sN X) μ σ H Q (qh ws st)):vs.length<=sizeLine/\∀p H2,H p=none->H2=fW H p (.lst vs)->Q (.ref p) H2:=by
 unfold qh at h
 by_cases hz:ws.length<=my
 ·rw[aE hz]at h
  refine⟨by rw[<- q.len];exact ou hz,fun p H2 hp e=>?_⟩
  subst e
  exact h (μ++[p]) _ _ (be _ _) (f_.same (df hp _)) (S.newLst hp q) (oy S)
 ·rw[aL hz]at h;exact h.elim
theorem eR{k:Nat}(h:SA X es fs):SE X (.Tuple es k pos) (ga fs):=⟨(JT h.h).imp fun σ H Q h=>by
 walk_at "2"
 exact⟨μ,ρ,st,l,RK.bind h l fun μ1 st1 x v H1 p1 x1 l1 q1 h1=>Gh l1.sto q1 h1⟩⟩
theorem iM(h:SA X es fs):SE X (.List es pos) (kg fs):=⟨(JU h.h).imp fun σ H Q h=>by
 walk_at "2"
 exact⟨μ,ρ,st,l,RK.bind h l fun μ1 st1 x v H1 p1 x1 l1 q1 h1=>vi l1.sto q1 h1⟩⟩
end
end L2
namespace L2
open PySem PySem.Spec PyProof.Rows
section
theorem kN{Q:VK}{i:Int}(S:jk X.K X.mg μ st H)(h:Fd X μ H Q (.ok (.int i) st)):Q (.int i) H:=h μ _ H (am _) fw.refl S .int
theorem sQ{Q:VK}{i:Bool}(S:jk X.K X.mg μ st H)(h:Fd X μ H Q (.ok (.bl i) st)):Q (.bl i) H:=h μ _ H (am _) fw.refl S .bl
theorem rj{Q:VK}{i:List Nat}(S:jk X.K X.mg μ st H)(h:Fd X μ H Q (.ok (.str i) st)):Q (.str (tx i)) H:=h μ _ H (am _) fw.refl S .str
theorem Nl{Q:VK}{r:R W}(h:Fd X μ H Q r):RK X (sN X) μ σ H Q r:=by
 cases r with
 |ok a st=>exact h
 |ex c st=>exact h.elim
 |bad=>exact h
noncomputable def EE(C:Int->Int->Prop)[∀i j,Decidable (C i j)](f:Int->Int->Int):W->W->List al->R W
 |.int i,.int j,st=>if C i j then .ok (.int (f i j)) st else .bad
 |_,_,_=>.bad
theorem Ap{C C':Int->Int->Prop}[∀i j,Decidable (C' i j)]{f:Int->Int->Int}(h:oo X g (rI C fun i j=>.int (f i j)))(hC:∀i j,C' i j->C i j):wM X g (EE C' f):=⟨h.imp fun x y H Q zq=>by
 obtain⟨μ,st,wx,wy,S,rx,ry,q⟩:=zq
 cases wx with
 |int i=>
  cases wy with
  |int j=>
   simp only[EE]at q
   by_cases c:C' i j
   ·rw[aE c]at q;exact⟨i,j,rx.intE,ry.intE,hC i j c,kN S q⟩
   ·rw[aL c]at q;exact q.elim
  |_=>exact q.elim
 |_=>cases wy<;>exact q.elim,fun x y st=>by
 unfold EE
 split
 ·split<;>trivial
 ·trivial⟩
noncomputable def EF(f:Int->Int->Bool):W->W->List al->R W
 |.int i,.int j,st=>.ok (.bl (f i j)) st
 |_,_,_=>.bad
theorem Gi{f:Int->Int->Bool}(h:oo X g (Jd fun i j=>.bl (f i j))):wM X g (EF f):=⟨h.imp fun x y H Q zq=>by
 obtain⟨μ,st,wx,wy,S,rx,ry,q⟩:=zq
 cases wx with
 |int i=>
  cases wy with
  |int j=>exact⟨i,j,rx.intE,ry.intE,sQ S q⟩
  |_=>exact q.elim
 |_=>cases wy<;>exact q.elim,fun x y st=>by
 unfold EF
 split<;>trivial⟩
abbrev Nm(i j:Int):Prop:=(-(2^64)<i/\i<2^64)\/(-(2^64)<j/\j<2^64)
abbrev kO:=EE (fun _ _=>True) fun i j=>i-j
abbrev QJ:=EE Nm fun i j=>i*j
abbrev i7:=EE (fun _ j=>0<j) fun i j=>i%j
abbrev t0:=EE (fun _ j=>0<j/\j<1073741824) fun i j=>i/j
abbrev QK:=EE (fun i j=>0<=j/\j<=1000000/\i.natAbs<2^64) fun i j=>i^j.toNat
abbrev Aq:=EE (fun i j=>0<=j/\j<=1000000/\i.natAbs<2^64) fun i j=>i*2^j.toNat
abbrev Nn:=EE (fun _ j=>0<=j) fun i j=>i/2^j.toNat
abbrev Gj:=EE (fun _ _=>True) fun i j=>Builtin.bitAnd i j
theorem Gk{f:Int->Int->V}(h:oo X g (Jd f)):oo X g (rI (fun _ _=>True) f):=h.imp fun _ _ _ _ ⟨i,j,a,b,_,q⟩=>⟨i,j,a,b,q⟩
theorem jZ:wM X (binaryOp .Sub) kO:=Ap (Gk MK) fun _ _ _=>trivial
theorem QL:wM X (binaryOp .Mult) QJ:=Ap ML fun _ _ h=>h
theorem iA:wM X (binaryOp .Mod) i7:=Ap MM fun _ _ h=>h
theorem sR:wM X (binaryOp .FloorDiv) t0:=Ap JA fun _ _ h=>h
theorem QM:wM X (binaryOp .Pow) QK:=Ap MN fun _ _ h=>h
theorem K9:wM X (binaryOp .LShift) Aq:=Ap Fz fun _ _ h=>h
theorem QN:wM X (binaryOp .RShift) Nn:=Ap MO fun _ _ h=>h
theorem No:wM X (binaryOp .BitAnd) Gj:=Ap (Gk MP) fun _ _ _=>trivial
def cQ:W->W->List al->R W
 |.int i,.int j,st=>.ok (.int (i+j)) st
 |.str a,.str b,st=>if a.length+b.length<=my then .ok (.str (a++b)) st else .bad
 |.tup a,.tup b,st=>qg (a++b) st
 |.loc n,.loc m,st=>match st[n]?,st[m]? with
  |some (.lst a),some (.lst b)=>qh (a++b) st
  |_,_=>.bad
 |_,_,_=>.bad
theorem J5(ws:List W)(st:List al):ut (qg ws st):=by unfold qg;split<;>trivial
theorem J6(ws:List W)(st:List al):ut (qh ws st):=by unfold qh;split<;>trivial
theorem cH:wM X (binaryOp .Add) cQ:=⟨fun aj s σ H x y v u Q I rv ru zq=>by
 obtain⟨μ,st,wx,wy,S,rx,ry,q⟩:=zq
 cases wx with
 |int i=>
  cases wy with
  |int j=>exact MJ aj s σ H x y v u Q I rv ru ⟨i,j,rx.intE,ry.intE,kN S q⟩
  |_=>exact q.elim
 |str a=>
  cases wy with
  |str b=>
   simp only[cQ]at q
   by_cases c:a.length+b.length<=my
   ·rw[aE c]at q
    exact BM aj s σ H x y v u Q I rv ru ⟨_,_,rx.strE,ry.strE,by rw[i6,i6];exact ou c,by rw[B2];exact rj S q⟩
   ·rw[aL c]at q;exact q.elim
  |_=>exact q.elim
 |tup a=>
  cases wy with
  |tup b=>
   obtain⟨p1,vs1,rfl,h1,r1⟩:=rx.tupE
   obtain⟨p2,vs2,rfl,h2,r2⟩:=ry.tupE
   have q':Fd X μ H Q (qg (a++b) st):=q
   unfold qg at q'
   by_cases c:(a++b).length<=my
   ·rw[aE c]at q'
    refine Nh.h aj s σ H _ _ v u Q I rv ru ⟨p1,p2,vs1,vs2,rfl,rfl,h1,h2,by rw[<- r1.len,<- r2.len,<- ah];exact ou c,fun p H2 e t=>?_⟩
    exact q' μ _ _ (am _) (f_.same e) (S.same e) (.tupI t ((r1.app r2).mono (am _) (f_.same e)))
   ·rw[aL c]at q';exact q'.elim
  |_=>exact q.elim
 |loc n=>
  cases wy with
  |loc m=>
   simp only[cQ]at q
   cases e1:st[n]? with
   |none=>rw[e1]at q;exact q.elim
   |some c1=>
    cases e2:st[m]? with
    |none=>rw[e1,e2]at q;cases c1<;>exact q.elim
    |some c2=>
     cases c1 with
     |lst a=>
      cases c2 with
      |lst b=>
       rw[e1,e2]at q
       obtain⟨a1,g1,vs1,k1,r1⟩:=S.get e1
       obtain⟨a2,g2,vs2,k2,r2⟩:=S.get e2
       obtain⟨b1,f1,rfl⟩:=rx.locE
       obtain⟨b2,f2,rfl⟩:=ry.locE
       rw[g1]at f1;cases f1
       rw[g2]at f2;cases f2
       obtain⟨hz,qq⟩:=vi (σ:=σ) S (r1.app r2) (Nl q)
       exact JX aj s σ H _ _ v u Q I rv ru ⟨a1,a2,vs1,vs2,rfl,rfl,k1,k2,by rw[<- ah];exact hz,qq⟩
      |_=>rw[e1,e2]at q;exact q.elim
     |_=>rw[e1,e2]at q;exact q.elim
  |_=>exact q.elim
 |_=>cases wy<;>exact q.elim,fun x y st=>by
 unfold cQ
 split
 ·trivial
 ·split<;>trivial
 ·exact J5 _ _
 ·split
  ·exact J6 _ _
  ·trivial
 ·trivial⟩
abbrev Np:=EF fun i j=>decide (i<j)
abbrev Ff:=EF fun i j=>decide (j<i)
abbrev Nq:=EF fun i j=>decide (j<=i)
theorem w_lt:wM X (compareOp .Lt) Np:=Gi P2
theorem yH:wM X (compareOp .Gt) Ff:=Gi P3
theorem J7:wM X (compareOp .GtE) Nq:=Gi P4
end
end L2
namespace L2
open PySem PySem.Spec PyProof.Rows
mutual
noncomputable def kP:W->W->Option Bool
 |.non,.non=>some true
 |.bl a,.bl b=>some (a==b)
 |.bl a,.int b=>some ((if a then 1 else 0)==b)
 |.int a,.bl b=>some (a==(if b then 1 else 0))
 |.int a,.int b=>some (a==b)
 |.str a,.str b=>some (a==b)
 |.tup a,.tup b=>eqWs a b
 |.loc _,_=>none
 |.non,.loc _=>none
 |.bl _,.loc _=>none
 |.int _,.loc _=>none
 |.str _,.loc _=>none
 |.tup _,.loc _=>none
 |.non,.bl _=>some false
 |.non,.int _=>some false
 |.non,.str _=>some false
 |.non,.tup _=>some false
 |.bl _,.non=>some false
 |.bl _,.str _=>some false
 |.bl _,.tup _=>some false
 |.int _,.non=>some false
 |.int _,.str _=>some false
 |.int _,.tup _=>some false
 |.str _,.non=>some false
 |.str _,.bl _=>some false
 |.str _,.int _=>some false
 |.str _,.tup _=>some false
 |.tup _,.non=>some false
 |.tup _,.bl _=>some false
 |.tup _,.int _=>some false
 |.tup _,.str _=>some false
noncomputable def eqWs:List W->List W->Option Bool
 |[],[]=>some true
 |[],_::_=>some false
 |_::_,[]=>some false
 |x::xs,y::ys=>match kP x y,eqWs xs ys with
  |some a,some b=>some (a&&b)
  |_,_=>none
end
mutual
noncomputable def W.dep:W->Nat
 |.tup ws=>depWs ws+1
 |_=>0
noncomputable def depWs:List W->Nat
 |[]=>0
 |w::ws=>max w.dep (depWs ws)
end
theorem qA:∀(xs ys:List W) (b:Bool),eqWs xs ys=some b->∃e:Nat->Bool,(∀j (h1:j<xs.length) (h2:j<ys.length),kP xs[j] ys[j]=some (e j))/\((List.range (min xs.length ys.length)).all e&&xs.length==ys.length)=b
 |[],[],b,h=>by unfold eqWs at h;cases h;exact⟨fun _=>true,fun j h1=>absurd h1 (iW _),rfl⟩
 |[],y::ys,b,h=>by unfold eqWs at h;cases h;exact⟨fun _=>true,fun j h1=>absurd h1 (iW _),by simp⟩
 |x::xs,[],b,h=>by unfold eqWs at h;cases h;exact⟨fun _=>true,fun j _ h1=>absurd h1 (iW _),by simp⟩
 |x::xs,y::ys,b,h=>by
  unfold eqWs at h
  cases e1:kP x y with
  |none=>rw[e1]at h;simp at h
  |some a=>
   cases e2:eqWs xs ys with
   |none=>rw[e1,e2]at h;simp at h
   |some c=>
    rw[e1,e2]at h
    simp at h
    obtain⟨e,he,hb⟩:=qA xs ys c e2
    refine⟨fun j=>match j with|0=>a|j+1=>e j,fun j h1 h2=>?_,?_⟩
    ·cases j with
     |zero=>exact e1
     |succ j=>exact he j (jA h1) (jA h2)
    ·have m:min (x::xs).length (y::ys).length=min xs.length ys.length+1:=by simp only[bg];omega
     rw[m,nu,List.all_cons,List.all_map,<- h,<- hb]
     simp[Function.comp_def,Bool.and_assoc]
theorem Dt{a b:W}{x:V}{k:Bool}(hn:a.dep<=0)(ra:bG X.K μ H a x)(rb:bG X.K μ H b x)(he:kP a b=some k):k=true:=by
 cases a with
 |tup i=>unfold W.dep at hn;omega
 |non=>cases ra.nonE;cases b<;>first|(unfold kP at he;cases he;rfl)|cases rb.blE|cases rb.intE|cases rb.strE|(obtain⟨_,_,z,_⟩:=rb.tupE;cases z)|(unfold kP at he;cases he)
 |bl i=>cases ra.blE;cases b<;>first|(cases rb.blE;unfold kP at he;simp at he;exact he)|cases rb.nonE|cases rb.intE|cases rb.strE|(obtain⟨_,_,z,_⟩:=rb.tupE;cases z)|(unfold kP at he;cases he)
 |int i=>cases ra.intE;cases b<;>first|(cases rb.intE;unfold kP at he;simp at he;exact he)|cases rb.nonE|cases rb.blE|cases rb.strE|(obtain⟨_,_,z,_⟩:=rb.tupE;cases z)|(unfold kP at he;cases he)
 |str i=>cases ra.strE;cases b<;>first|(have z:=rb.strE;injection z with z;rw[yA.mp z]at he;unfold kP at he;simp at he;exact he)|cases rb.nonE|cases rb.blE|cases rb.intE|(obtain⟨_,_,z,_⟩:=rb.tupE;cases z)|(unfold kP at he;cases he)
 |loc i=>cases b<;>(unfold kP at he;cases he)
theorem Gm(I:bT X aj σ H s):∀(n:Nat) (a b:W) (x:V) (k:Bool),a.dep<=n->bG X.K μ H a x->bG X.K μ H b x->kP a b=some k->k=true:=by
 intro n
 induction n with
 |zero=>exact fun a b x k hn ra rb he=>Dt hn ra rb he
 |succ n ih=>
  intro a b x k hn ra rb he
  cases a with
  |tup i=>
   obtain⟨p',C8,rfl,hS',r'⟩:=ra.tupE
   cases b with
   |tup z=>
    obtain⟨p,vs,e,hS,r⟩:=rb.tupE
    cases e
    obtain rfl:=I.tuple_inj hS hS'
    have he':eqWs i z=some k:=by unfold kP at he;exact he
    have dn:depWs i<=n:=by unfold W.dep at hn;omega
    have key:∀(i z:List W) (vs:List V) (k:Bool),depWs i<=n->RelWs X.K μ H i vs->RelWs X.K μ H z vs->eqWs i z=some k->k=true:=by
     intro i
     induction i with
     |nil=>
      intro z vs k _ r' r he
      have e1:=r'.nilE
      subst e1
      cases z with
      |nil=>unfold eqWs at he;cases he;rfl
      |cons _ _=>have e2:=r.len;simp at e2
     |cons w i ih2=>
      intro z vs k dn r' r he
      obtain⟨x,xs,rfl,rx,rxs⟩:=r'.consE
      cases z with
      |nil=>have e2:=r.len;simp at e2
      |cons y z=>
       obtain⟨x2,xs2,e3,ry,rys⟩:=r.consE
       cases e3
       unfold eqWs at he
       cases e1:kP w y with
       |none=>rw[e1]at he;simp at he
       |some k1=>
        cases e2:eqWs i z with
        |none=>rw[e1,e2]at he;simp at he
        |some k2=>
         rw[e1,e2]at he
         simp at he
         unfold depWs at dn
         have q1:=ih w y x k1 #[0] rx ry e1
         have q2:=ih2 z xs k2 #[0] rxs rys e2
         rw[<- he,q1,q2];rfl
    exact key i z _ k dn r' r he'
   |non=>cases rb.nonE
   |bl z=>cases rb.blE
   |int z=>cases rb.intE
   |str z=>cases rb.strE
   |loc z=>unfold kP at he;cases he
  |_=>exact Dt (az _) ra rb he
theorem sT:∀{ws:List W} {j:Nat} (h:j<ws.length),ws[j].dep<=depWs ws
 |w::ws,0,_=>by unfold depWs;exact Nat.le_max_left _ _
 |w::ws,j+1,h=>by unfold depWs;exact aN (sT (j:=j) (jA h)) (Nat.le_max_right _ _)
inductive Sh(s:Shared):W->Value->Prop
 |non:Sh s .non .none
 |bl (b:Bool):Sh s (.bl b) (.bool b)
 |int (i:Int) (t:Tok):Sh s (.int i) (.int i t)
 |str (l:List Nat) (t:Tok):Sh s (.str l) (.str (tx l) t)
 |tup (ws:List W) (p:Addr) (bI:List Value) (h:IsTup s.heap p bI.toArray):Sh s (.tup ws) (.ref p)
 |loc (n:Nat) (u:Value):Sh s (.loc n) u
section
theorem t5(I:bT X aj σ H s){a:W}{x:V}(ra:bG X.K μ H a x)(ru:cS s.toks x u):Sh s a u:=by
 cases a with
 |non=>cases ra.nonE;cases ru;exact .non
 |bl i=>cases ra.blE;cases ru;exact .bl _
 |int i=>cases ra.intE;obtain⟨t,rfl⟩:=ru;exact .int _ _
 |str i=>cases ra.strE;obtain⟨t,rfl⟩:=ru;exact .str _ _
 |tup i=>obtain⟨p,vs,rfl,hS,_⟩:=ra.tupE;cases ru;obtain⟨bI,_,ht,_⟩:=I.tuple hS;exact .tup _ _ _ ht
 |loc i=>exact .loc _ _
open SeqAt.EqAt in
theorem Du{a b:W}{k:Bool}(ha:Sh s a u)(hb:Sh s b v)(hu:A.units<cLine)(ht:b.dep=0\/a.dep=0)(he:kP a b=some k):SeqAt.EqAt A s u v k:=by
 cases ha<;>cases hb<;>first
  |(unfold kP at he;cases he;done)
  |(unfold kP at he;cases he;with_reducible first|exact same _|exact bool_none _|exact bool_bool _ _|exact bool_int _ _ _|exact bool_str _ _ _|exact int_none _ _|exact int_bool _ _ _|exact int_int _ _ _ _|exact int_str _ _ _ _|exact str_none _ _|exact str_bool _ _ _|exact str_int _ _ _ _|exact none_bool _|exact none_int _ _|exact none_str _ _)
  |(unfold kP at he;cases he;(with_reducible first|refine' bool_tuple _ ?_ hu|refine' int_tuple _ _ ?_ hu|refine' str_tuple _ _ ?_ hu|refine' tuple_none ?_ hu|refine' tuple_bool _ ?_ hu|refine' tuple_int _ _ ?_ hu|refine' tuple_str _ _ ?_ hu|refine' none_tuple ?_ hu);rotate_left;assumption)
  |(unfold W.dep at ht;omega)
  |skip
 rename_i i t z r
 unfold kP at he;cases he
 have:=str_str (A:=A) (s:=s) (tx i) t (tx z) r
 rw[<- qv]at this
 exact this
open SeqAt.RcAt in
theorem J8{a b:W}{k:Bool}(ha:Sh s a u)(hb:Sh s b v)(hu:A.units<cLine)(ht:b.dep=0\/a.dep=0)(he:kP a b=some k):SeqAt.RcAt A s u v k:=by
 cases ha<;>cases hb<;>first
  |(unfold kP at he;cases he;done)
  |(unfold kP at he;cases he;with_reducible first|exact none_none|exact bool_none _|exact bool_bool _ _|exact bool_int _ _ _|exact bool_str _ _ _|exact int_none _ _|exact int_bool _ _ _|exact int_int _ _ _ _|exact int_str _ _ _ _|exact str_none _ _|exact str_bool _ _ _|exact str_int _ _ _ _|exact none_bool _|exact none_int _ _|exact none_str _ _)
  |(unfold kP at he;cases he;(with_reducible first|refine' bool_tuple _ ?_ hu|refine' int_tuple _ _ ?_ hu|refine' str_tuple _ _ ?_ hu|refine' tuple_none ?_ hu|refine' tuple_bool _ ?_ hu|refine' tuple_int _ _ ?_ hu|refine' tuple_str _ _ ?_ hu|refine' none_tuple ?_ hu);rotate_left;assumption)
  |(unfold W.dep at ht;omega)
  |skip
 rename_i i t z r
 unfold kP at he;cases he
 have:=str_str (A:=A) (s:=s) (tx i) t (tx z) r
 rw[<- qv]at this
 exact this
open SeqAt.RcNeAt in
theorem EG         {a b:W}  {k:Bool} (ha : Sh s a u) (hb : Sh s b v) (hu : A.units < cLine) (ht : b.dep = 0 \/ a.dep = 0) (he : kP  a b = some k) : SeqAt.RcNeAt A s u v (!k) := by
  cases ha <;> cases hb <;> first
    | (unfold kP  at he; cases he; done)
    | (unfold kP  at he; cases he; try simp only [Bool.not_true, Bool.not_false]
       with_reducible first | exact none_none | exact bool_none _ | exact bool_bool _ _ | exact bool_int _ _ _ | exact bool_str _ _ _ | exact int_none _ _ | exact int_bool _ _ _ | exact int_int _ _ _ _ | exact int_str _ _ _ _ | exact str_none _ _ | exact str_bool _ _ _ | exact str_int _ _ _ _ | exact none_bool _ | exact none_int _ _ | exact none_str _ _)
    | (unfold kP  at he; cases he; try simp only [Bool.not_true, Bool.not_false]
       (with_reducible first | refine' bool_tuple _ ?_ hu | refine' int_tuple _ _ ?_ hu | refine' str_tuple _ _ ?_ hu | refine' tuple_none ?_ hu | refine' tuple_bool _ ?_ hu | refine' tuple_int _ _ ?_ hu | refine' tuple_str _ _ ?_ hu | refine' none_tuple ?_ hu); rotate_left; assumption)
    | (unfold W.dep at ht; omega)
    | skip
  rename_i i t z r
  unfold kP  at he; cases he
  have := str_str (A := A) (s := s) (tx i) t (tx z) r
  rw [<- qv           ] at this
  exact this
theorem Ar{i z:List W}{C8:List V}{its':List Value}{e:Nat->Bool}{A:Around}{m:Nat}(ih:∀(a b:W) (A:Around) (x y:V) (u v:Value) (k:Bool),a.dep<=m->bG X.K μ H a x->bG X.K μ H b y->cS nk x u->cS nk y v->A.units+m<cLine->kP a b=some k->SeqAt.EqAt A s u v k)
  (r':RelWs X.K μ H i C8) (r:RelWs X.K μ H z vs) (w':cL nk C8 its') (w:cL nk vs bI) (hd:depWs i<=m) (hu:A.units+1+m<cLine) (h1:∀j (h1:j<i.length) (h2:j<z.length),kP i[j] z[j]=some (e j)):∀j (j1:j<its'.toArray.size) (j2:j<bI.toArray.size),SeqAt.EqAt A.in1 s its'.toArray[j] bI.toArray[j] (e j):=fun j j1 j2=>by
 have j1':j<i.length:=by rw[r'.len,w'.length];simpa using j1
 have j2':j<z.length:=by rw[r.len,w.length];simpa using j2
 obtain⟨x1,g1,q1⟩:=r'.get (aq j1')
 obtain⟨x2,g2,q2⟩:=r.get (aq j2')
 obtain⟨u1,f1,v1⟩:=w'.get g1
 obtain⟨u2,f2,v2⟩:=w.get g2
 have E:=ih i[j] z[j] A.in1 x1 x2 u1 u2 (e j) (aN (sT j1') hd) q1 q2 v1 v2 hu (h1 j j1' j2')
 have t1:its'.toArray[j]=u1:=by simpa using (au.mp f1).2
 have t2:bI.toArray[j]=u2:=by simpa using (au.mp f2).2
 rw[t1,t2];exact E
theorem Gn(I:bT X aj σ H s):∀(n:Nat) (a b:W) (A:Around) (x y:V) (u v:Value) (k:Bool),a.dep<=n->bG X.K μ H a x->bG X.K μ H b y->cS s.toks x u->cS s.toks y v->A.units+n<cLine->kP a b=some k->SeqAt.EqAt A s u v k:=by
 intro n
 induction n with
 |zero=>exact fun a b A x y u v k hn ra rb ru rv hu he=>Du (t5 I ra ru) (t5 I rb rv) hu (.inr (by omega)) he
 |succ m ih=>
  intro a b A x y u v k hn ra rb ru rv hu he
  by_cases hb:b.dep=0\/a.dep=0
  ·exact Du (t5 I ra ru) (t5 I rb rv) #[0] hb he
  ·cases b with
   |tup z=>
    cases a with
    |tup i=>
     obtain⟨p',C8,rfl,hS',r'⟩:=id ra.tupE;cases ru;obtain⟨its',w',ht',_⟩:=I.tuple hS'
     obtain⟨p,vs,rfl,hS,r⟩:=id rb.tupE;cases rv;obtain⟨bI,w,ht,_⟩:=I.tuple hS
     by_cases zR:p'=p
     ·subst zR
      rw[Gm I (m+1) (.tup i) (.tup z) (.ref p') k hn ra rb he]
      exact SeqAt.EqAt.same _
     ·obtain⟨e,h1,h2⟩:=qA i z k (by unfold kP at he;exact he)
      have R:=SeqAt.RcAt.tuples (A:=A) (e:=e) ht' ht #[0] (Ar ih r' r w' w (by unfold W.dep at hn;omega) #[0] h1)
      rw[show its'.toArray.size=i.length by simp[<- w'.length,<- r'.len],show bI.toArray.size=z.length by simp[<- w.length,<- r.len],h2]at R
      exact SeqAt.EqAt.of_refs zR R
    |_=>exact(hb (.inr rfl)).elim
   |_=>exact(hb (.inl rfl)).elim
theorem Gp(I:bT X aj σ H s){a b:W}{x:V}{k:Bool}(hn:b.dep=0\/a.dep<=n)(ra:bG X.K μ H a x)(rb:bG X.K μ H b y)(ru:cS s.toks x u)(rv:cS s.toks y v)(hu:A.units+n<cLine)(he:kP a b=some k):SeqAt.RcAt A s u v k/\SeqAt.RcNeAt A s u v (!k):=by
 by_cases hb:b.dep=0\/a.dep=0
 ·exact⟨J8 (t5 I ra ru) (t5 I rb rv) #[0] hb he,EG (t5 I ra ru) (t5 I rb rv) #[0] hb he⟩
 cases b with
 |tup z=>
  cases a with
  |tup i=>
   obtain⟨p',C8,rfl,hS',r'⟩:=ra.tupE;cases ru;obtain⟨its',w',ht',_⟩:=I.tuple hS'
   obtain⟨p,vs,rfl,hS,r⟩:=rb.tupE;cases rv;obtain⟨bI,w,ht,_⟩:=I.tuple hS
   obtain⟨e,h1,h2⟩:=qA i z k (by unfold kP at he;exact he)
   have hd:depWs i+1<=n:=hn.elim (fun z=>(hb (.inl z)).elim) id
   obtain⟨m,rfl⟩:∃m,n=m+1:=⟨n-1,by omega⟩
   have T:=Ar (A:=A) (Gn I m) r' r w' w #[0] #[0] h1
   have R:=SeqAt.RcAt.tuples (A:=A) (e:=e) ht' ht #[0] T
   have R2:=SeqAt.RcNeAt.tuples (A:=A) (e:=e) ht' ht #[0] T
   rw[show its'.toArray.size=i.length by simp[<- w'.length,<- r'.len],show bI.toArray.size=z.length by simp[<- w.length,<- r.len],h2]at R R2
   exact⟨R,R2⟩
  |_=>exact(hb (.inr rfl)).elim
 |_=>exact(hb (.inl rfl)).elim
end
def iN:W->W->List al->R W:=fun x y st=>match kP x y with
 |some k=>if y.dep=0\/x.dep<=64 then .ok (.bl k) st else .bad
 |none=>.bad
theorem hW{k:Nat}(hr:iK k X.A):wM X (compareOp .Eq) iN:=⟨fun aj s σ H x y v u Q I rv ru zq=>by
 obtain⟨μ,st,wx,wy,S,rx,ry,q⟩:=zq
 unfold iN at q
 cases e:kP wx wy with
 |none=>rw[e]at q;exact q.elim
 |some b=>
  rw[e]at q
  simp only at q
  by_cases c:wy.dep=0\/wx.dep<=64
  ·rw[aE c]at q
   have:=hr.units
   exact(Gp I c rx ry rv ru this e).1 X.prog X.w X.xe _ ⟨.bl b,H,I,rfl,sQ S q⟩
  ·rw[aL c]at q;exact q.elim,fun x y st=>by
 unfold iN
 split
 ·split<;>trivial
 ·trivial⟩
def J9:W->W->List al->R W:=fun x y st=>match kP x y with
 |some k=>if y.dep=0\/x.dep<=64 then .ok (.bl (!k)) st else .bad
 |none=>.bad
theorem Nr{k:Nat}(hr:iK k X.A):wM X (compareOp .NotEq) J9:=⟨fun aj s σ H x y v u Q I rv ru zq=>by
 obtain⟨μ,st,wx,wy,S,rx,ry,q⟩:=zq
 unfold J9 at q
 cases e:kP wx wy with
 |none=>rw[e]at q;exact q.elim
 |some b=>
  rw[e]at q
  simp only at q
  by_cases c:wy.dep=0\/wx.dep<=64
  ·rw[aE c]at q
   have:=hr.units
   exact(Gp I c rx ry rv ru this e).2 X.prog X.w X.xe _ ⟨.bl (!b),H,I,rfl,sQ S q⟩
  ·rw[aL c]at q;exact q.elim,fun x y st=>by
 unfold J9
 split
 ·split<;>trivial
 ·trivial⟩
def wN(x:W):List W->Option Bool
 |[]=>some false
 |y::ys=>match kP y x,wN x ys with
  |some a,some b=>some (a||b)
  |_,_=>none
def Fg(Sf:Bool)(x y:W)(st:List al):R W:=match y with
 |.str l=>(match x with
  |.str [c]=>.ok (.bl (if Sf then !decide (c∈l)else decide (c∈l))) st
  |_=>.bad)
 |.tup ys=>(match wN x ys with
  |some k=>if depWs ys<=63 then .ok (.bl (if Sf then !k else k)) st else .bad
  |none=>.bad)
 |.loc n=>(match st[n]? with
  |some (.lst ys)=>(match wN x ys with
   |some k=>if depWs ys<=63 then .ok (.bl (if Sf then !k else k)) st else .bad
   |none=>.bad)
  |_=>.bad)
 |_=>.bad
theorem As{x:W}:∀{ys:List W} {k:Bool},wN x ys=some k->(∀(j:Nat) w,ys[j]?=some w->∃b,kP w x=some b)/\(k=true↔∃(j:Nat) (w:W),ys[j]?=some w/\kP w x=some true)
 |[],k,h=>by
  unfold wN at h;cases h
  exact⟨fun j w e=>by simp at e,fun z=>(by cases z),fun⟨j,w,e,_⟩=>(by simp at e)⟩
 |y::ys,k,h=>by
  unfold wN at h
  cases e1:kP y x with
  |none=>rw[e1]at h;simp at h
  |some a=>
   cases e2:wN x ys with
   |none=>rw[e1,e2]at h;simp at h
   |some b=>
    rw[e1,e2]at h
    simp at h
    obtain⟨q1,q2⟩:=As e2
    refine⟨fun j w e=>?_,fun z=>?_,fun⟨j,w,e,f⟩=>?_⟩
    ·cases j with
     |zero=>simp at e;subst e;exact⟨a,e1⟩
     |succ j=>exact q1 j w (by simpa using e)
    ·rw[<- h]at z
     cases a with
     |true=>exact⟨0,y,rfl,e1⟩
     |false=>
      obtain⟨j,w,p,q⟩:=q2.mp (by simpa using z)
      exact⟨j+1,w,by simpa using p,q⟩
    ·rw[<- h]
     cases j with
     |zero=>simp at e;subst e;rw[e1]at f;cases f;rfl
     |succ j=>rw[q2.mpr ⟨j,w,by simpa using e,f⟩];simp
theorem vj(I:bT X aj σ H s){wx:W}{x:V}(rx:bG X.K μ H wx x)(rv:cS s.toks x v)(n:Nat){A:Around}(hu:A.units+n<cLine)
  {ys:List W} {vs:List V} {us:List Value} {k:Bool} (hd:depWs ys<=n) (rs:RelWs X.K μ H ys vs) (om:cL s.toks vs us) (ha:wN wx ys=some k):∃e:Value->Bool,(∀u,u∈us.toArray->SeqAt.EqAt A s u v (e u))/\us.toArray.any e=k:=by
 classical
 obtain⟨q1,q2⟩:=As ha
 have at':∀(j:Nat) (u:Value),us[j]?=some u->∃w b,ys[j]?=some w/\kP w wx=some b/\SeqAt.EqAt A s u v b:=fun j u e=>by
  have hj:j<ys.length:=by
   have h1:=(au.mp e).1
   rw[rs.len,om.length];exact h1
  obtain⟨b,hb⟩:=q1 j ys[j] (aq hj)
  obtain⟨y,g1,r1⟩:=rs.get (aq hj)
  obtain⟨u',f1,v1⟩:=om.get g1
  rw[e]at f1;cases f1
  exact⟨_,b,aq hj,hb,Gn I n ys[j] wx A y x u v b (aN (sT hj) hd) r1 rx v1 rv hu hb⟩
 refine⟨fun u=>decide (∃(j:Nat) (w:W),us[j]?=some u/\ys[j]?=some w/\kP w wx=some true),fun u hu=>?_,?_⟩
 ·by_cases c:∃(j:Nat) (w:W),us[j]?=some u/\ys[j]?=some w/\kP w wx=some true
  ·show SeqAt.EqAt A s u v (decide _)
   rw[bw c]
   obtain⟨j,w,e1,e2,e3⟩:=c
   obtain⟨w',b,f1,f2,f3⟩:=at' j u e1
   rw[e2]at f1;cases f1
   rw[e3]at f2;cases f2
   exact f3
  ·show SeqAt.EqAt A s u v (decide _)
   rw[aW c]
   obtain⟨j,hj,e⟩:=List.mem_iff_getElem.mp (show u∈us by simpa using hu)
   have e':us[j]?=some u:=by rw[aq hj,e]
   obtain⟨w',b,f1,f2,f3⟩:=at' j u e'
   cases b with
   |false=>exact f3
   |true=>exact absurd ⟨j,w',e',f1,f2⟩ c
 ·rw[List.any_toArray]
  cases k with
  |true=>
   obtain⟨j,w,e1,e2⟩:=q2.mp rfl
   have hj:j<us.length:=by rw[<- om.length,<- rs.len];exact(au.mp e1).1
   exact List.any_eq_true.mpr ⟨us[j],eQ hj,bw ⟨j,w,aq hj,e1,e2⟩⟩
  |false=>
   refine List.any_eq_false.mpr fun u _ c=>?_
   obtain⟨j,w,_,e1,e2⟩:=of_decide_eq_true c
   have:=q2.mpr ⟨j,w,e1,e2⟩
   cases this
theorem J_{k:Nat}(hr:iK k X.A):wM X (compareOp .In) (Fg false):=⟨fun aj s σ H x y v u Q I rv ru zq=>by
 obtain⟨μ,st,wx,wy,S,rx,ry,q⟩:=zq
 have hu:=hr.units
 cases wy with
 |str l=>
  simp only[Fg]at q
  split at q
  ·exact Et aj s σ H x y v u Q I rv ru ⟨_,_,rx.strE,ry.strE,sQ S q⟩
  ·exact q.elim
 |tup ys=>
  simp only[Fg]at q
  cases hk:wN wx ys with
  |none=>rw[hk]at q;exact q.elim
  |some kk=>
   rw[hk]at q
   simp only at q
   by_cases c:depWs ys<=63
   ·rw[aE c]at q
    obtain⟨p,vs,rfl,hS,r⟩:=ry.tupE
    cases ru
    obtain⟨bI,w,ht,_⟩:=I.tuple hS
    obtain⟨e,he,ha⟩:=vj (A:=X.A.in1) I rx rv 63 (by show X.A.units+1+63<cLine;omega) c r w hk
    exact SeqAt.in_tupleAt e ht he ⟨.bl _,H,I,rfl,by rw[ha];exact sQ S q⟩
   ·rw[aL c]at q;exact q.elim
 |loc n=>
  simp only[Fg]at q
  cases e1:st[n]? with
  |none=>rw[e1]at q;exact q.elim
  |some cc=>
   rw[e1]at q
   cases cc with
   |lst ys=>
    simp only at q
    cases hk:wN wx ys with
    |none=>rw[hk]at q;exact q.elim
    |some kk=>
     rw[hk]at q
     simp only at q
     by_cases c:depWs ys<=63
     ·rw[aE c]at q
      obtain⟨a1,g1,vs,k1,r⟩:=S.get e1
      obtain⟨b1,f1,rfl⟩:=ry.locE
      rw[g1]at f1;cases f1
      cases ru
      obtain⟨bI,w,ht,_⟩:=I.list (sF.of k1)
      obtain⟨e,he,ha⟩:=vj (A:=X.A.in1) I rx rv 63 (by show X.A.units+1+63<cLine;omega) c r w hk
      exact SeqAt.in_listAt e ht.isList he ⟨.bl _,H,I,rfl,by rw[ha];exact sQ S q⟩
     ·rw[aL c]at q;exact q.elim
   |_=>exact q.elim
 |_=>exact q.elim,fun x y st=>by
 unfold Fg
 repeat' split
 all_goals trivial⟩
end L2
namespace L2
open PySem PySem.Spec PyProof.Rows
section
variable{w:World}
theorem Au{t sl:Addr}{items:Array Value}{vl vu:Value}{lo hi:Option Int}(ht:IsTup s.heap t items)(hs:s.heap.IsSliceOf sl vl vu .none)(pl:IsPart vl lo)(pu:IsPart vu hi)
  (hw:HT.sIx items.size 0 lo=0/\HT.sIx items.size items.size hi=items.size) (h:Q (.ref t) s):wpAny #[8] A (getItem (.ref t) (.ref sl)) Q E s:=by
 obtain⟨os,hos,hcs,Ma⟩:=id hs
 have hTs:s.TypeIs (.ref sl) "slice":=⟨os,hos,hcs⟩
 unfold getItem
 try with_reducible refine dm ?_
 first|refine af (ay ?_)|skip
 refine af (wpAny_sequenceKey ht.typeIs #[12] ?_)
 refine af (bP (name:=Str.ofString "__getitem__") ht.typeIs eK
  (b8 eK ht.typeIs entry_tuple_getitem ?_ (args_tuple_getitem _ _)))
 show wpAny _ _ (Builtin.Tuple.tupleItemsOf (.ref t) >>= _) _ _ s
 refine af (tupleItemsOf_ ht ?_)
 refine af (iy hTs ?_)
 rw[aE #[12]]
 refine af (HT.sliceApplied_gen hs pl pu ?_)
 have hyes:(((HT.sIx items.size 0 lo:Nat):Int)==0&&(1:Int)==1&&(HT.sIx items.size items.size hi-HT.sIx items.size 0 lo)==items.size)=true:=by
  rw[hw.1,hw.2];simp
 show wpAny _ _ (if (((HT.sIx items.size 0 lo:Nat):Int)==0&&(1:Int)==1&&(HT.sIx items.size items.size hi-HT.sIx items.size 0 lo)==items.size)=true then _ else _) _ _ s
 rw[aE hyes]
 unfold Builtin.Tuple.tupleIsExact
 obtain⟨ot,hot,hct,nt,hdt⟩:=id ht
 refine af (af (iy (T:="tuple") ht.typeIs ?_))
 refine ay ?_
 rw[aE #[12]]
 exact af (jS (ay ⟨_,rfl,ay h⟩))
end
section
variable{a b:Expr}{x:Str}{fb fc:FE}{fs:FA}
noncomputable def lstOf(st:List al)(n:Nat):Option (List W):=match st[n]? with
 |some (.lst ws)=>some ws
 |some (.ro ws)=>some ws
 |_=>none
theorem jk.lstOf(S:jk K mg μ st H)(h:lstOf st n=some ws):∃a vs,μ[n]?=some a/\sF K H a vs/\RelWs K μ H ws vs:=by
 unfold L2.lstOf at h
 cases e:st[n]? with
 |none=>rw[e]at h;cases h
 |some cc=>
  rw[e]at h
  cases cc with
  |lst zs=>cases h;obtain⟨a,g,vs,k,r⟩:=S.get e;exact⟨a,vs,g,sF.of k,r⟩
  |ro zs=>cases h;obtain⟨a,g,vs,k,r⟩:=S.get e;exact⟨a,vs,g,k.sq,r⟩
  |exc zs=>cases h
  |dct zs=>cases h
  |rod zs=>cases h
  |dcx zs=>cases h
  |rox zs=>cases h
  |obj _ _=>cases h
  |tab _ _ _=>cases h
  |pin _ _ _ _=>cases h
  |gone=>cases h
noncomputable def sU(o:Option α)(k:α->R W):R W:=match o with
 |some a=>k a
 |none=>.bad
@[simp] theorem eU{α:Type}(a:α)(k:α->R W):sU (some a) k=k a:=rfl
def bj(x y:W)(st:List al):R W:=match x,y with
 |.tup ws,.int i=>sU (sK ws i) fun w=>.ok w st
 |.str l,.int i=>if l.length<=my then sU (sK l i) (fun c=>.ok (.str [c]) st)else .bad
 |.loc n,.int i=>sU (lstOf st n) fun ws=>sU (sK ws i) fun w=>.ok w st
 |_,_=>.bad
theorem Dv{i:Int}{w:W}(r:RelWs K μ H ws vs)(h:sK ws i=some w):∃v,sK vs i=some v/\bG K μ H w v:=by
 unfold sK at h ⊢
 rw[<- r.len]
 cases e:De ws.length i with
 |none=>rw[e]at h;cases h
 |some k=>rw[e]at h;exact r.get h
theorem TL:Je X (TK X bj):=fun value slice aj s σ H x y v u Q I rv ru zq hs=>by
 obtain⟨μ,st,wx,wy,S,rx,ry,q⟩:=zq
 refine MZ value slice aj s σ H x y v u Q I rv ru ?_ hs
 cases wy with
 |int i=>
  cases wx with
  |tup ws=>
   simp only[bj]at q
   cases e1:sK ws i with
   |none=>rw[e1]at q;exact q.elim
   |some w=>
    rw[e1]at q
    obtain⟨p,vs,rfl,hS,r⟩:=rx.tupE
    obtain⟨z,f,g⟩:=Dv r e1
    exact .inr (.inl ⟨p,vs,i,z,rfl,ry.intE,hS,f,q μ z H (am _) fw.refl S g⟩)
  |str l=>
   simp only[bj]at q
   by_cases c:l.length<=my
   ·rw[aE c]at q
    cases e1:sK l i with
    |none=>rw[e1]at q;exact q.elim
    |some w=>
     rw[e1]at q
     exact .inr (.inr ⟨_,i,w,rx.strE,ry.intE,by rw[i6];exact ou c,by rw[M8];exact e1,rj S q⟩)
   ·rw[aL c]at q;exact q.elim
  |loc n=>
   simp only[bj]at q
   cases e0:lstOf st n with
   |none=>rw[e0]at q;exact q.elim
   |some ws=>
    rw[e0]at q
    cases e1:sK ws i with
    |none=>rw[eU,e1]at q;exact q.elim
    |some w=>
     rw[eU,e1]at q
     obtain⟨a,vs,g,hS,r⟩:=S.lstOf e0
     obtain⟨b1,f1,rfl⟩:=rx.locE
     rw[g]at f1;cases f1
     obtain⟨z,f,g⟩:=Dv r e1
     exact .inl ⟨_,vs,i,z,rfl,ry.intE,hS,f,q μ z H (am _) fw.refl S g⟩
  |_=>exact q.elim
 |_=>cases wx<;>exact q.elim
theorem t6{o:Option α}{k:α->R W}(h:∀a,ut (k a)):ut (sU o k):=by
 unfold sU
 split
 ·exact h _
 ·trivial
theorem QO(x y:W)(st:List al):ut (bj x y st):=by
 unfold bj
 split
 ·exact t6 fun _=>trivial
 ·split
  ·exact t6 fun _=>trivial
  ·trivial
 ·exact t6 fun _=>t6 fun _=>trivial
 ·trivial
theorem bf(ha:SE X a fa)(hb:SE X b fb)(hs:Dg b:=by intro _ _;rfl):SE X (.Subscript a b pos) (e2 bj fa fb):=⟨(Qa TL ha.h hb.h hs).imp fun _ _ _ h=>Dq QO h⟩
abbrev FO:=cM->List al->R (Option Int)
abbrev TM:List Addr->Hp->Option Int->Option Int->Prop:=fun _ _ a b=>a=b
structure SO(X:Cx)(e:Option Expr)(f:FO):Prop where
 h:PO X e (tG X TM f)
def gK:FO:=fun _ st=>.ok none st
def eV(fa:FE):FO:=fun ρ st=>(fa ρ st).bind fun x st=>match x with
 |.int i=>.ok (some i) st
 |_=>.bad
theorem PO.imp{e:Option Expr}{t t':TO}(h:PO X e t)(i:∀σ H Q,t' σ H Q->t σ H Q):PO X e t':=fun aj s σ H Q I q=>h aj s σ H Q I (i _ _ _ q)
theorem fg:SO X none gK:=⟨JH.imp fun σ H Q h=>by
 walk_at "2"
 exact h μ none H (am _) fw.refl l.sto rfl⟩
theorem du(ha:SE X a fa):SO X (some a) (eV fa):=⟨(JI ha.h).imp fun σ H Q h=>by
 walk_at "2"
 walk_at "1"
 cases x with
 |int k=>exact⟨k,q1.intE,h1 μ1 _ H1 (am _) fw.refl l1.sto rfl⟩
 |_=>exact h1.elim⟩
noncomputable def jp(xs:List α)(lo hi:Option Int):List α:=(xs.drop (HT.sIx xs.length 0 lo)).take (HT.sIx xs.length xs.length hi-HT.sIx xs.length 0 lo)
def wF(x:W)(lo hi:Option Int)(st:List al):R W:=match x with
 |.tup ws=>.ok (.tup (jp ws lo hi)) st
 |.str l=>if l.length<=my then .ok (.str (jp l lo hi)) st else .bad
 |.loc n=>sU (lstOf st n) fun ws=>.ok (.loc st.length) (st++[.lst (jp ws lo hi)])
 |_=>.bad
theorem QP(x:W)(lo hi:Option Int)(st:List al):ut (wF x lo hi st):=by
 unfold wF sU
 repeat' split
 all_goals trivial
def qX(fa:FE)(fl fh:FO):FE:=fun ρ st=>(fa ρ st).bind fun x st=>(fl ρ st).bind fun l st=>(fh ρ st).bind fun h st=>wF x l h st
theorem TN:P_ X (fun x lo hi H Q=>∃μ st wx,jk X.K X.mg μ st H/\bG X.K μ H wx x/\Fd X μ H Q (wF wx lo hi st)):=by
 intro aj s σ H x v vl vu lo hi sl Q I rv hs pl pu ⟨μ,st,wx,S,rx,q⟩
 cases wx with
 |tup ws=>
  obtain⟨p,vs,rfl,hS,r⟩:=rx.tupE
  have hl:=r.len
  by_cases hw:HT.sIx vs.length 0 lo=0/\HT.sIx vs.length vs.length hi=vs.length
  ·cases rv
   obtain⟨bI,w,ht,hz⟩:=I.tuple hS
   have fX:bI.toArray.size=vs.length:=by rw[aV];exact w.length.symm
   refine⟨"tuple",_,eK.lookup,ht.typeIs,Au ht hs pl pu (by rw[fX];exact hw) ⟨.ref p,H,I,rfl,?_⟩⟩
   have e:jp ws lo hi=ws:=by
    unfold jp
    rw[hl,hw.1,hw.2,List.drop_zero,Nat.sub_zero,<- hl,dR]
   have q':Fd X μ H Q (.ok (.tup (jp ws lo hi)) st):=q
   rw[e]at q'
   exact q' μ _ H (am _) fw.refl S rx
  ·refine MW aj s σ H _ v vl vu lo hi sl Q I rv hs pl pu ⟨p,vs,rfl,hS,hw,fun p2 Ji=>?_⟩
   have x:=f_.same (K:=X.K) (df Ji (.tup (u5 vs lo hi)))
   have rc:RelWs X.K μ H (jp ws lo hi) (u5 vs lo hi):=by
    unfold jp u5
    rw[hl]
    exact(r.drop _).take _
   exact q μ _ _ (am _) x (S.same (df Ji _)) (.tupI f_.new (rc.mono (am _) x))
 |str l=>
  simp only[wF]at q
  by_cases c:l.length<=my
  ·rw[aE c]at q
   exact M' aj s σ H _ v vl vu lo hi sl Q I rv hs pl pu ⟨l,rx.strE,ou c,rj S q⟩
  ·rw[aL c]at q;exact q.elim
 |loc n=>
  simp only[wF]at q
  cases e0:lstOf st n with
  |none=>rw[e0]at q;exact q.elim
  |some ws=>
   rw[e0]at q
   obtain⟨a,vs,g,hS,r⟩:=S.lstOf e0
   obtain⟨b1,f1,rfl⟩:=rx.locE
   rw[g]at f1;cases f1
   have hl:=r.len
   refine JL aj s σ H _ v vl vu lo hi sl Q I rv hs pl pu ⟨_,vs,rfl,hS,fun p2 Ji=>?_⟩
   have rc:RelWs X.K μ H (jp ws lo hi) (u5 vs lo hi):=by
    unfold jp u5
    rw[hl]
    exact(r.drop _).take _
   exact q (μ++[p2]) _ _ (be _ _) (f_.same (df Ji _)) (S.newLst Ji rc) (oy S)
 |_=>exact q.elim
theorem kY{lo hi:Option Expr}{fl fh:FO}(ha:SE X a fa)(hl:SO X lo fl)(hh:SO X hi fh):SE X (.Subscript a (.Slice lo hi none p2) pos) (qX fa fl fh):=⟨(FK TN ha.h hl.h hh.h).imp fun σ H Q h=>by
 walk_at "2"
 refine⟨μ,ρ,st,l,RK.bind h l fun μ1 st1 x v H1 p1 x1 l1 q1 h1=>⟨μ1,ρ,st1,l1,RK.bind h1 l1 fun μ2 c5 y u H2 p2 x2 l2 q2 h2=>⟨μ2,ρ,c5,l2,RK.bind h2 l2 fun μ3 lW z t H3 p3 x3 l3 q3 h3=>?_⟩⟩⟩
 cases q2;cases q3
 exact⟨μ3,lW,x,l3.sto,(q1.mono p2 x2).mono p3 x3,sO h3 (QP _ _ _ _)⟩⟩
def Uu(X:Cx)(F:List W->List al->R W):List V->Hp->VK->Prop:=fun vs H Q=>∃μ st ws,jk X.K X.mg μ st H/\RelWs X.K μ H ws vs/\Fd X μ H Q (F ws st)
structure oz(X:Cx)(f:Value)(F:List W->List al->R W):Prop where
 h:i' X f (Uu X F)
 n:∀ws st,ut (F ws st)
def bE(F:List W->List al->R W)(fs:FA):FE:=fun ρ st=>(fs ρ st).bind fun ws st=>F ws st
theorem Dw{Q:VK}(n:∀ws st,ut (F ws st))(h:tE X (bE F fs) σ H Q):Tq (Uu X F) (Qz X fs) σ H Q:=by
 walk_at "2"
 exact⟨μ,ρ,st,l,RK.bind h l fun μ1 st1 x v H1 p1 x1 l1 q1 h1=>⟨μ1,st1,x,l1.sto,q1,sO h1 (n _ _)⟩⟩
theorem bJ{id:String}(hc:oz X (.builtin id) F)(hm:X.mg x=none)(hv:bootBuiltins x=some (.builtin id))(ha:SA X (e::es) fs)(hg:Gl X x:=by rfl)(hn:x ≠ "__name__":=by decide)(IJ:(x==("__debug__":Str))=false:=by decide)
  (he:starEach (e::es) X.env=(false,eval e X.env)::starEach es X.env:=by rfl) (p_:(backTo pos (starEach es X.env)).any (·.1)=false:=by rfl):SE X (.Call (.Name x p) (e::es) [] pos) (bE F fs):=⟨(zY hc.h hg hm hv ha.h hn IJ he p_).imp fun _ _ _ h=>Dw hc.n h⟩
theorem gg(hc:oz X (.type T) F)(hm:X.mg x=none)(hv:bootBuiltins x=some (.type T))(ha:SA X (e::es) fs)(hg:Gl X x:=by rfl)(hn:x ≠ "__name__":=by decide)(IJ:(x==("__debug__":Str))=false:=by decide)
  (he:starEach (e::es) X.env=(false,eval e X.env)::starEach es X.env:=by rfl) (p_:(backTo pos (starEach es X.env)).any (·.1)=false:=by rfl):SE X (.Call (.Name x p) (e::es) [] pos) (bE F fs):=⟨(El hc.h hg hm hv ha.h hn IJ he p_).imp fun _ _ _ h=>Dw hc.n h⟩
theorem RelWs.two{a b:W}(r:RelWs K μ H [a,b] vs):∃x y,vs=[x,y]/\bG K μ H a x/\bG K μ H b y:=by
 obtain⟨x,xs,rfl,rx,rn⟩:=r.consE
 obtain⟨y,ys,rfl,ry,rm⟩:=rn.consE
 rw[rm.nilE];exact⟨x,y,rfl,rx,ry⟩
theorem RelWs.one{a:W}(r:RelWs K μ H [a] vs):∃x,vs=[x]/\bG K μ H a x:=by
 obtain⟨x,xs,rfl,rx,rn⟩:=r.consE
 rw[rn.nilE];exact⟨x,rfl,rx⟩
def dI(ws:List W)(st:List al):R W:=match ws with
 |[.tup xs]=>.ok (.int xs.length) st
 |[.str l]=>if l.length<=my then .ok (.int l.length) st else .bad
 |[.loc n]=>sU (lstOf st n) fun xs=>.ok (.int xs.length) st
 |_=>.bad
theorem dO:oz X (.builtin "len") dI:=⟨fun aj s σ H vs us Q I rv zq=>by
 obtain⟨μ,st,ws,S,r,q⟩:=zq
 unfold dI at q
 split at q
 ·obtain⟨x,rfl,rx⟩:=r.one
  obtain⟨p,ys,rfl,hS,r'⟩:=rx.tupE
  exact qY aj s σ H _ us Q I rv ⟨p,ys,rfl,.inr hS,by rw[<- r'.len];exact kN S q⟩
 ·obtain⟨x,rfl,rx⟩:=r.one
  split at q
  ·rename_i c
   exact yw aj s σ H _ us Q I rv ⟨_,by rw[rx.strE],by rw[i6];exact ou c,by rw[i6];exact kN S q⟩
  ·exact q.elim
 ·obtain⟨x,rfl,rx⟩:=r.one
  unfold sU at q
  split at q
  ·rename_i ys e0
   obtain⟨a,vs,g,hS,r'⟩:=S.lstOf e0
   obtain⟨b1,f1,rfl⟩:=rx.locE
   rw[g]at f1;cases f1
   exact qY aj s σ H _ us Q I rv ⟨_,vs,rfl,.inl hS,by rw[<- r'.len];exact kN S q⟩
  ·exact q.elim
 ·exact q.elim,fun ws st=>by
 unfold dI sU
 repeat' split
 all_goals trivial⟩
noncomputable def Cd(ws:List W)(st:List al):R W:=match ws with
 |[.int i,.int j]=>.ok (.int (if j>i then j else i)) st
 |_=>.bad
noncomputable def EH(ws:List W)(st:List al):R W:=match ws with
 |[.int i,.int j]=>.ok (.int (if j<i then j else i)) st
 |_=>.bad
theorem QQ(hc:X.calm=true:=by rfl):oz X (.builtin "max") Cd:=⟨fun aj s σ H vs us Q I rv zq=>by
 obtain⟨μ,st,ws,S,r,q⟩:=zq
 unfold Cd at q
 split at q
 ·obtain⟨x,y,rfl,rx,ry⟩:=r.two
  exact Ef hc aj s σ H _ us Q I rv ⟨_,_,by rw[rx.intE,ry.intE],kN S q⟩
 ·exact q.elim,fun ws st=>by unfold Cd;split<;>trivial⟩
theorem QR(hc:X.calm=true:=by rfl):oz X (.builtin "min") EH:=⟨fun aj s σ H vs us Q I rv zq=>by
 obtain⟨μ,st,ws,S,r,q⟩:=zq
 unfold EH at q
 split at q
 ·obtain⟨x,y,rfl,rx,ry⟩:=r.two
  exact Eg hc aj s σ H _ us Q I rv ⟨_,_,by rw[rx.intE,ry.intE],kN S q⟩
 ·exact q.elim,fun ws st=>by unfold EH;split<;>trivial⟩
def i8(ws:List W)(st:List al):R W:=match ws with
 |[.tup xs]=>.ok (.tup xs) st
 |[.loc n]=>sU (lstOf st n) fun xs=>.ok (.tup xs) st
 |_=>.bad
theorem kQ:oz X (.type "tuple") i8:=⟨fun aj s σ H vs us Q I rv zq=>by
 obtain⟨μ,st,ws,S,r,q⟩:=zq
 unfold i8 at q
 split at q
 ·obtain⟨x,rfl,rx⟩:=r.one
  obtain⟨p,ys,rfl,hS,r'⟩:=id rx.tupE
  exact zZ aj s σ H _ us Q I rv ⟨p,ys,rfl,hS,q μ _ H (am _) fw.refl S rx⟩
 ·obtain⟨x,rfl,rx⟩:=r.one
  unfold sU at q
  split at q
  ·rename_i ys e0
   obtain⟨a,vs,g,hS,r'⟩:=S.lstOf e0
   obtain⟨b1,f1,rfl⟩:=rx.locE
   rw[g]at f1;cases f1
   refine Ac aj s σ H _ us Q I rv ⟨_,vs,rfl,hS,fun l H2 hl e=>?_⟩
   subst e
   have x:=f_.same (K:=X.K) (df hl (.tup vs))
   exact q μ _ _ (am _) x (S.same (df hl _)) (.tupI f_.new (r'.mono (am _) x))
  ·exact q.elim
 ·exact q.elim,fun ws st=>by
 unfold i8 sU
 repeat' split
 all_goals trivial⟩
def xB(ws:List W)(st:List al):R W:=match ws with
 |[.tup xs]=>.ok (.loc st.length) (st++[.lst xs])
 |[.loc n]=>sU (lstOf st n) fun xs=>.ok (.loc st.length) (st++[.lst xs])
 |_=>.bad
theorem Nt:oz X (.type "list") xB:=⟨fun aj s σ H vs us Q I rv zq=>by
 obtain⟨μ,st,ws,S,r,q⟩:=zq
 unfold xB at q
 split at q
 ·obtain⟨x,rfl,rx⟩:=r.one
  obtain⟨p,ys,rfl,hS,r'⟩:=id rx.tupE
  refine u_ aj s σ H _ us Q I rv ⟨p,ys,rfl,.inr hS,fun l H2 hl e=>?_⟩
  subst e
  exact q (μ++[l]) _ _ (be _ _) (f_.same (df hl _)) (S.newLst hl r') (oy S)
 ·obtain⟨x,rfl,rx⟩:=r.one
  unfold sU at q
  split at q
  ·rename_i ys e0
   obtain⟨a,vs,g,hS,r'⟩:=S.lstOf e0
   obtain⟨b1,f1,rfl⟩:=rx.locE
   rw[g]at f1;cases f1
   refine u_ aj s σ H _ us Q I rv ⟨_,vs,rfl,.inl hS,fun l H2 hl e=>?_⟩
   subst e
   exact q (μ++[l]) _ _ (be _ _) (f_.same (df hl _)) (S.newLst hl r') (oy S)
  ·exact q.elim
 ·exact q.elim,fun ws st=>by
 unfold xB sU
 repeat' split
 all_goals trivial⟩
noncomputable def EI(ws:List W)(st:List al):R W:=match ws with
 |[.int i]=>.ok (.int i) st
 |[.bl k]=>.ok (.int (if k then 1 else 0)) st
 |_=>.bad
theorem K_:oz X (.type "int") EI:=⟨fun aj s σ H vs us Q I rv zq=>by
 obtain⟨μ,st,ws,S,r,q⟩:=zq
 unfold EI at q
 split at q
 ·obtain⟨x,rfl,rx⟩:=r.one
  exact xi aj s σ H _ us Q I rv (.inl ⟨_,by rw[rx.intE],kN S q⟩)
 ·obtain⟨x,rfl,rx⟩:=r.one
  exact xi aj s σ H _ us Q I rv (.inr ⟨_,by rw[rx.blE],kN S q⟩)
 ·exact q.elim,fun ws st=>by unfold EI;split<;>trivial⟩
end
section
variable{a b:Expr}{x:Str}{fb fc:FE}{fs:FA}{ft:FT}{st1:Stmt}{sr sa sb:List Stmt}{g g':FS}
def aI(g g':FS):FS:=fun ρ st=>match g ρ st with
 |.nx ρ' bn=>g' ρ' bn
 |r=>r
def bK:FS:=fun ρ st=>.nx ρ st
theorem bM:SB X [] bK:=⟨Js.imp fun D σ H h=>by
 walk_at "2"
 exact h μ σ H (am _) fw.refl l⟩
theorem aG(h1:SS X st1 g):SB X [st1] g:=⟨Jt h1.h⟩
theorem ar(h1:SS X st1 g)(h2:SB X sr g'):SB X (st1::sr) (aI g g'):=⟨(Fr h1.h h2.h).imp fun D σ H h=>by
 walk_at "2"
 refine⟨μ,ρ,st,l,?_⟩
 unfold aI at h
 cases e:g ρ st with
 |nx ρ' bn=>rw[e]at h;exact fun μ' σ' H' p x l'=>⟨μ',ρ',bn,l',SK.mono h p x⟩
 |rt w bn=>rw[e]at h;exact h
 |bk ρ' bn=>rw[e]at h;exact h
 |ct ρ' bn=>rw[e]at h;exact h
 |ex c ρ' bn=>rw[e]at h;exact h
 |bad=>rw[e]at h;exact h⟩
def Ce:FS:=fun ρ st=>.bk ρ st
def vk:FS:=fun ρ st=>.ct ρ st
theorem Gq:SS X (.Break pos) Ce:=⟨Fs.imp fun D σ H h=>by
 walk_at "2"
 exact h μ σ H (am _) fw.refl l⟩
theorem oE:SS X (.Continue pos) vk:=⟨zX.imp fun D σ H h=>by
 walk_at "2"
 exact h μ σ H (am _) fw.refl l⟩
def R.stmt(r:R α)(ρ:cM)(k:α->List al->RS):RS:=match r with
 |.ok a st=>k a st
 |.ex c st=>.ex c ρ st
 |.bad=>.bad
@[simp] theorem R.stmt_ok{α:Type}(a:α)(st:List al)(ρ:cM)(k:α->List al->RS):(R.ok a st).stmt ρ k=k a st:=rfl
theorem RK.stmt{rel:List Addr->Hp->α->β->Prop}{D:yp}{r:R α}{k:α->List al->RS}{T:β->Hp->Prop}
  (h:SK X μ H D (r.stmt ρ k)) (l:Rl X μ ρ st σ H)
  (hk:∀μ' bn x v H',μ <+: μ'->fw X.K H H'->Rl X μ' ρ bn σ H'->rel μ' H' x v->SK X μ' H' D (k x bn)->T v H'):RK X rel μ σ H T r:=by
 cases r with
 |ok a bn=>exact fun μ' b H' p x s q=>hk μ' bn a b H' p x (l.to p x s) q (SK.mono h p x)
 |ex c bn=>exact XS.toE h l
 |bad=>exact h
def c7(fe:FE):FS:=fun ρ st=>(fe ρ st).stmt ρ fun _ st=>.nx ρ st
theorem cI(he:SE X e fe)(hs:swapsWith e none pos.line X.env=pure false:=by rfl):SS X (.Expr e pos) (c7 fe):=⟨(Ju he.h hs).imp fun D σ H h=>by
 walk_at "2"
 exact⟨μ,ρ,st,l,RK.stmt h l fun μ1 st1 x v H1 p1 x1 l1 q1 h1=>h1 μ1 σ H1 (am _) fw.refl l1⟩⟩
def cW(fe:FE):FS:=fun ρ st=>(fe ρ st).stmt ρ fun w st=>.rt w st
theorem bt(he:SE X e fe):SS X (.Return (some e) pos) (cW fe):=⟨(My he.h).imp fun D σ H h=>by
 walk_at "2"
 exact⟨μ,ρ,st,l,RK.stmt h l fun μ1 st1 x v H1 p1 x1 l1 q1 h1=>h1 μ1 v H1 (am _) fw.refl l1.sto q1⟩⟩
def fO(t:FT)(g g':FS):FS:=fun ρ st=>(t ρ st).stmt ρ fun k st=>if k then g ρ st else g' ρ st
theorem cE(hc:ST X c ft)(ha:SB X sa g)(hb:SB X sb g'):SS X (.If c sa sb pos) (fO ft g g'):=⟨(PU hc.h ha.h hb.h).imp fun D σ H h=>by
 walk_at "2"
 refine⟨μ,ρ,st,l,RK.stmt h l fun μ1 st1 x v H1 p1 x1 l1 q1 h1=>?_⟩
 cases q1
 cases x with
 |true=>exact⟨μ1,ρ,st1,l1,h1⟩
 |false=>exact⟨μ1,ρ,st1,l1,h1⟩⟩
abbrev FG:=W->cM->Option cM
abbrev K':=List W->cM->Option cM
def QT(X:Cx)(f:FG):TG:=fun v σ H Q=>∃μ ρ st w ρ',Rl X μ ρ st σ H/\bG X.K μ H w v/\f w ρ=some ρ'/\∀σ',Rl X μ ρ' st σ' H->Q σ' H
def TQ(X:Cx)(f:K'):Jv:=fun vs σ H Q=>∃μ ρ st ws ρ',Rl X μ ρ st σ H/\RelWs X.K μ H ws vs/\f ws ρ=some ρ'/\∀σ',Rl X μ ρ' st σ' H->Q σ' H
theorem PG.imp{t t':TG}(h:PG X e t)(i:∀v σ H Q,t' v σ H Q->t v σ H Q):PG X e t':=fun aj s σ H x u Q I r q=>h aj s σ H x u Q I r (i _ _ _ _ q)
theorem KY.imp{e:List Expr}{t t':Jv}(h:KY X e t)(i:∀v σ H Q,t' v σ H Q->t v σ H Q):KY X e t':=fun aj s σ H x u Q I r q=>h aj s σ H x u Q I r (i _ _ _ _ q)
structure SG(X:Cx)(e:Expr)(f:FG):Prop where
 h:PG X e (QT X f)
structure Sw(X:Cx)(e:List Expr)(f:K'):Prop where
 h:KY X e (TQ X f)
def jD(i:Nat):FG:=fun w ρ=>some (ρ.set i (some w))
theorem Dx(hN:X.N.Nodup)(hi:X.N[i]?=some x)(hx:Jo X.env.scope x)(hf:X.fn x=true\/X.env.scope.names.lookup x=some .local:=by first|exact .inl rfl|exact .inr rfl|assumption):SG X (.Name x pos) (jD i):=⟨(Jx hN hi hx hf).imp fun v σ H Q h=>by
 obtain⟨μ,ρ,st,w,ρ',l,r,e,q⟩:=h
 cases e
 exact q _ ⟨vh r i l.env,l.sto⟩⟩
def oF:K':=fun ws ρ=>match ws with
 |[]=>some ρ
 |_=>none
def fD(f:FG)(fs:K'):K':=fun ws ρ=>match ws with
 |w::ws=>(f w ρ).bind fun ρ'=>fs ws ρ'
 |[]=>none
theorem jV:Sw X [] oF:=⟨Jy.imp fun vs σ H Q h=>by
 obtain⟨μ,ρ,st,ws,ρ',l,r,e,q⟩:=h
 cases ws with
 |nil=>cases e;exact⟨r.nilE,q σ l⟩
 |cons _ _=>cases e⟩
theorem dJ{f:FG}{fs:K'}(h1:SG X e f)(h2:Sw X es fs)(hs:(assignEach (e::es) X.env).map (·.2)=assign e X.env::(assignEach es X.env).map (·.2):=by rfl):Sw X (e::es) (fD f fs):=⟨(Ft h1.h h2.h hs).imp fun vs σ H Q h=>by
 obtain⟨μ,ρ,st,ws,ρ',l,r,e,q⟩:=h
 cases ws with
 |nil=>cases e
 |cons w ws=>
  obtain⟨x,xs,rfl,rx,rs⟩:=r.consE
  simp only[fD]at e
  cases e1:f w ρ with
  |none=>rw[e1]at e;cases e
  |some ρ1=>
   rw[e1]at e
   exact⟨x,xs,rfl,μ,ρ,st,w,ρ1,l,rx,e1,fun σ1 l1=>⟨μ,ρ1,st,ws,ρ',l1,rs,e,q⟩⟩⟩
def Fh(n:Nat)(fs:K'):FG:=fun w ρ=>match w with
 |.tup ws=>if ws.length=n then fs ws ρ else none
 |_=>none
theorem l9{k:Nat}{fs:K'}(hc:X.calm=true)(h:Sw X es fs)(hn:(assignEach es X.env).length=n:=by rfl)(sm:(assignEach es X.env).findIdx? (·.1)=none:=by rfl):SG X (.Tuple es k pos) (Fh n fs):=⟨(Mz hc h.h hn sm).imp fun v σ H Q h=>by
 obtain⟨μ,ρ,st,w,ρ',l,r,e,q⟩:=h
 cases w with
 |tup ws=>
  obtain⟨p,vs,rfl,hS,rs⟩:=r.tupE
  simp only[Fh]at e
  by_cases c:ws.length=n
  ·rw[aE c]at e
   exact⟨p,vs,rfl,hS,by rw[<- rs.len];exact c,μ,ρ,st,ws,ρ',l,rs,e,q⟩
  ·rw[aL c]at e;cases e
 |_=>cases e⟩
def uu(fe:FE)(f:FG):FS:=fun ρ st=>(fe ρ st).stmt ρ fun w st=>match f w ρ with
 |some ρ'=>.nx ρ' st
 |none=>.bad
theorem QU{f:FG}{D:yp}(h:Sv X (uu fe f) D σ H):Fu (tE X fe) (QT X f) D σ H:=by
 walk_at "2"
 refine⟨μ,ρ,st,l,RK.stmt h l fun μ1 st1 x v H1 p1 x1 l1 q1 h1=>?_⟩
 cases e1:f x ρ with
 |none=>rw[e1]at h1;exact h1.elim
 |some ρ'=>rw[e1]at h1;exact⟨μ1,ρ,st1,x,ρ',l1,q1,e1,fun σ' l'=>h1 μ1 σ' H1 (am _) fw.refl l'⟩
theorem yI{f:FG}(he:SE X e fe)(hg:SG X tg f)(hs:swapsWithSole [tg] e pos.line X.env=pure false:=by rfl)(hw:swappedStores [tg] e X.env=pure none:=by rfl)(h1:(assignEach [tg] X.env).map (·.2)=[assign tg X.env]:=by rfl):SS X (.Assign [tg] e pos) (uu fe f):=⟨(Fv he.h hg.h hs hw h1).imp fun D σ H h=>QU h⟩
def ba(i:Nat)(fe:FE):FS:=fun ρ st=>(fe ρ st).stmt ρ fun w st=>.nx (ρ.set i (some w)) st
theorem Nu(hN:X.N.Nodup)(hi:X.N[i]?=some x)(hx:Jo X.env.scope x)(he:SE X e fe)(hs:swapsWith e (some (.Name x iq)) pos.line X.env=pure false:=by rfl)(hf:X.fn x=true\/X.env.scope.names.lookup x=some .local:=by first|exact .inl rfl|exact .inr rfl|assumption) :
  SS X (.Assign [.Name x iq] e pos) (ba i fe):=⟨(MB hN hi hx he.h hs hf).imp fun D σ H h=>by
 walk_at "2"
 exact⟨μ,ρ,st,l,RK.stmt h l fun μ1 st1 x v H1 p1 x1 l1 q1 h1=>h1 μ1 _ H1 (am _) fw.refl ⟨vh q1 i l1.env,l1.sto⟩⟩⟩
def qi(x i v:W)(st:List al):Option (List al):=match x,i with
 |.loc n,.int k=>(match st[n]? with
  |some (.lst ws)=>(De ws.length k).map fun j=>st.set n (.lst (ws.set j v))
  |_=>none)
 |_,_=>none
def wO(fo fi fe:FE)(f:W->W->W->List al->Option (List al)):FS:=fun ρ st=>(fe ρ st).stmt ρ fun v st=>(fo ρ st).stmt ρ fun x st=>(fi ρ st).stmt ρ fun i st=>match f x i v st with
 |some bn=>.nx ρ bn
 |none=>.bad
def Gs(X:Cx)(f:W->W->W->List al->Option (List al)):Jw:=fun o i v H Q=>∃μ st wo wi wv bn,jk X.K X.mg μ st H/\bG X.K μ H wo o/\bG X.K μ H wi i/\bG X.K μ H wv v/\f wo wi wv st=some bn/\∀H',fw X.K H H'->jk X.K X.mg μ bn H'->Q H'
theorem Cf:Ea X (Gs X qi):=fun aj s σ H o i v ov iv u Q I r1 r2 r3 zq=>by
 obtain⟨μ,st,wo,wi,wv,bn,S,ro,ri,rv,e,q⟩:=zq
 cases wo with
 |loc n=>
  cases wi with
  |int k=>
   simp only[qi]at e
   cases e1:st[n]? with
   |none=>rw[e1]at e;cases e
   |some cc=>
    rw[e1]at e
    cases cc with
    |lst ws=>
     simp only at e
     cases e2:De ws.length k with
     |none=>rw[e2]at e;cases e
     |some jj=>
      rw[e2]at e
      cases e
      obtain⟨a1,g1,vs,k1,r⟩:=S.get e1
      obtain⟨b1,f1,rfl⟩:=ro.locE
      rw[g1]at f1;cases f1
      refine Eu aj s σ H _ i v ov iv u Q I r1 r2 r3 ⟨a1,vs,k,jj,rfl,ri.intE,k1,by rw[<- r.len];exact e2,fun H2 eH=>?_⟩
      subst eH
      exact q _ (f_.but jn k1) (S.set e1 g1 k1 (r.setI jj rv))
    |_=>cases e
  |_=>cases e
 |_=>cases wi<;>cases e
theorem yJ{f:W->W->W->List al->Option (List al)}{i:Expr}{fi:FE}(Ph:Ea X (Gs X f))(he:SE X e fe)(ho:SE X o fo)(hi:SE X i fi)
  (ha:∀v,assign (.Subscript o i iq) X.env v=(do
   let ov <- holding [v] (eval o X.env)
   let iv <- holding [v,ov] (eval i X.env)
   standAt iq
   holding [v,ov,iv] (setItem ov iv v)
   release [v,ov,iv] []):=by intro _;rfl)
  (hs:swapsWithSole [.Subscript o i iq] e pos.line X.env=pure false:=by rfl) (hw:swappedStores [.Subscript o i iq] e X.env=pure none:=by rfl) (h1:(assignEach [.Subscript o i iq] X.env).map (·.2)=[assign (.Subscript o i iq) X.env]:=by rfl) :
  SS X (.Assign [.Subscript o i iq] e pos) (wO fo fi fe f):=⟨(Fv he.h (MA ho.h hi.h Ph ha) hs hw h1).imp fun D σ H h=>by
 walk_at "2"
 refine⟨μ,ρ,st,l,RK.stmt h l fun μ1 st1 v vv H1 p1 x1 l1 q1 h1=>⟨μ1,ρ,st1,l1,RK.stmt h1 l1 fun μ2 c5 x xv H2 p2 x2 l2 q2 h2=>⟨μ2,ρ,c5,l2,RK.stmt h2 l2 fun μ3 lW i iv H3 p3 x3 l3 q3 h3=>?_⟩⟩⟩
 cases e1:f x i v lW with
 |none=>rw[e1]at h3;exact h3.elim
 |some bn=>
  rw[e1]at h3
  exact⟨μ3,lW,x,i,v,bn,l3.sto,q2.mono p3 x3,q3,(q1.mono p2 x2).mono p3 x3,e1,fun H' xx S'=>h3 μ3 σ H' (am _) xx (l3.to (am _) xx S')⟩⟩
end
def jq(st:List al):Option (Nat×List W)->Prop
 |none=>True
 |some (n,ws)=>lstOf st n=some ws
noncomputable abbrev Gu:=List W×Option (Nat×List W)
abbrev FI:=cM->List al->R Gu
def Cg(X:Cx)(J:It)(k:Gu)(μ:List Addr)(H:Hp):Prop:=
 ∀(i:Nat) μ' bn H',μ <+: μ'->fw X.K H H'->jk X.K X.mg μ' bn H'->jq bn k.2 ->
  (∀w,k.1[i]?=some w->J.go i H'/\∀x H'',J.yld i H' x H''->fw X.K H' H''/\jk X.K X.mg μ' bn H''/\bG X.K μ' H'' w x)/\(k.1.length<=i->J.stop i H')
abbrev QV(X:Cx):List Addr->Hp->Gu->It->Prop:=fun μ H k J=>Cg X J k μ H
structure SI(X:Cx)(tg it:Expr)(f:FI):Prop where
 h:PI X tg it (fun σ H R=>tG X (QV X) f σ H R)
theorem PI.imp{it:Expr}{t t':TI}(h:PI X tg it t)(i:∀σ H Q,t' σ H Q->t σ H Q):PI X tg it t':=fun aj s σ H Q I q=>h aj s σ H Q I (i _ _ _ q)
open Classical in
def nY(f:FG)(body:FS)(ck:Option (Nat×List W)):List W->FS
 |[],ρ,st=>if jq st ck then .nx ρ st else .bad
 |w::ws,ρ,st=>if jq st ck then(match f w ρ with
  |none=>.bad
  |some ρ'=>(match body ρ' st with
   |.nx ρ2 c5=>nY f body ck ws ρ2 c5
   |.ct ρ2 c5=>nY f body ck ws ρ2 c5
   |.bk ρ2 c5=>.nx ρ2 c5
   |.rt w c5=>.rt w c5
   |.ex c ρ2 c5=>.ex c ρ2 c5
   |.bad=>.bad))else .bad
def kZ(fi:FI)(f:FG)(body:FS):FS:=fun ρ st=>(fi ρ st).stmt ρ fun k st=>nY f body k.2 k.1 ρ st
section
variable{a b:Expr}{fb:FE}{fs:FA}{ft:FT}{body:List Stmt}{g:FS}{f:FG}{fi:FI}
theorem gX(hi:SI X tg d_ fi)(hg:SG X tg f)(hb:SB X body g)(hc:X.calm=true:=by rfl)(hp:PassesOwn #[3] X.A X.env X.xe:=by passes_own)(hs:∀x,foldedSetIterable d_ X.env x=pure x:=by intro _;rfl):SS X (.For tg d_ body [] pos) (kZ fi f g):=⟨(MD hp hc hi.h hg.h hb.h hs).imp fun D σ H h=>by
 walk_at "2"
 refine⟨μ,ρ,st,l,RK.stmt h l fun μ1 st1 k J H1 p1 x1 l1 wk h1=>?_⟩
 refine⟨fun i m σ' H'=>i<=k.1.length/\m=k.1.length-i/\∃μ' ρ' bn,μ1 <+: μ'/\fw X.K H1 H'/\Rl X μ' ρ' bn σ' H'/\SK X μ' H' D (nY f g k.2 (k.1.drop i) ρ' bn),
  ⟨_,cn _,rfl,μ1,ρ,st1,am _,fw.refl,l1,h1⟩,?_⟩
 rintro i m σ' H' ⟨hi,rfl,μ',ρ',bn,pm,xm,lm,hm⟩
 by_cases hlt:i<k.1.length
 ·rw[fQ hlt]at hm
  unfold nY at hm
  by_cases ck:jq bn k.2
  ·rw[aE ck]at hm
   obtain⟨go,yld⟩:=(wk i μ' bn H' pm xm lm.sto ck).1 _ (aq hlt)
   cases hf:f k.1[i] ρ' with
   |none=>rw[hf]at hm;exact hm.elim
   |some ρ2=>
    rw[hf]at hm
    simp only at hm
    refine .inr ⟨go,fun σ2 H2=>∃μ2 ρ3 c5,μ' <+: μ2/\fw X.K H' H2/\Rl X μ2 ρ3 c5 σ2 H2/\SK X μ2 H2 D (nY f g k.2 (k.1.drop (i+1)) ρ3 c5),fun σ2 H2 ⟨μ2,ρ3,c5,q1,q2,q3,q4⟩=>
     ⟨_,by omega,hlt,rfl,μ2,ρ3,c5,pm.trans q1,xm.trans q2,q3,q4⟩,fun x H2 hy=>?_⟩
    obtain⟨y1,y2,y3⟩:=yld x H2 hy
    refine⟨μ',ρ',bn,k.1[i],ρ2,lm.to (am _) y1 y2,y3,hf,fun σ2 l2=>⟨μ',ρ2,bn,l2,?_⟩⟩
    cases e:g ρ2 bn with
    |nx ρ3 lW=>rw[e]at hm;exact fun μ4 σ4 H4 p4 x4 l4=>⟨μ4,ρ3,lW,p4,y1.trans x4,l4,SK.mono hm p4 (y1.trans x4)⟩
    |ct ρ3 lW=>rw[e]at hm;exact fun μ4 σ4 H4 p4 x4 l4=>⟨μ4,ρ3,lW,p4,y1.trans x4,l4,SK.mono hm p4 (y1.trans x4)⟩
    |bk ρ3 lW=>rw[e]at hm;exact fun μ4 σ4 H4 p4 x4 l4=>hm μ4 σ4 H4 p4 (y1.trans x4) l4
    |rt w lW=>rw[e]at hm;exact fun μ4 v4 H4 p4 x4=>hm μ4 v4 H4 p4 (y1.trans x4)
    |ex c ρ3 lW=>rw[e]at hm;exact XS.mono hm (am _) y1
    |bad=>rw[e]at hm;exact hm
  ·rw[aL ck]at hm;exact hm.elim
 ·have hi':i=k.1.length:=by omega
  subst hi'
  rw[nz (az _)]at hm
  unfold nY at hm
  by_cases ck:jq bn k.2
  ·rw[aE ck]at hm
   exact .inl ⟨(wk _ μ' bn H' pm xm lm.sto ck).2 (az _),hm μ' σ' H' (am _) fw.refl lm⟩
  ·rw[aL ck]at hm;exact hm.elim⟩
def dE(t:FT)(body:FS):Nat->FS
 |0,_,_=>.bad
 |n+1,ρ,st=>(t ρ st).stmt ρ fun k st=>if k then(match body ρ st with
   |.nx ρ2 c5=>dE t body n ρ2 c5
   |.ct ρ2 c5=>dE t body n ρ2 c5
   |.bk ρ2 c5=>.nx ρ2 c5
   |.rt w c5=>.rt w c5
   |.ex c ρ2 c5=>.ex c ρ2 c5
   |.bad=>.bad)else .nx ρ st
open Classical in
def mU(t:FT)(body:FS):FS:=fun ρ st=>if h:∃n,dE t body n ρ st≠.bad then dE t body h.choose ρ st else .bad
theorem oG(t:FT)(g:FS):∀(n:Nat) (ρ:cM) (st:List al),dE t g n ρ st≠.bad->dE t g (n+1) ρ st=dE t g n ρ st
 |0,_,_,h=>absurd rfl h
 |n+1,ρ,st,h=>by
  unfold dE at h ⊢
  cases e:t ρ st with
  |ex c st1=>rfl
  |bad=>rfl
  |ok k st1=>
   rw[e]at h
   simp only[R.stmt_ok]at h ⊢
   cases k with
   |false=>rfl
   |true=>
    simp only[f6]at h ⊢
    cases e2:g ρ st1 with
    |nx ρ2 c5=>rw[e2]at h;exact oG t g n ρ2 c5 h
    |ct ρ2 c5=>rw[e2]at h;exact oG t g n ρ2 c5 h
    |_=>rfl
theorem xC{n m:Nat}(h:dE t g n ρ st≠.bad)(hm:n<=m):dE t g m ρ st=dE t g n ρ st:=by
 induction hm with
 |refl=>rfl
 |@step m _ ih=>rw[oG t g m ρ st (by rw[ih];exact h),ih]
theorem pL{r:RS}(h:dE t g n ρ st=r)(hr:r≠.bad):mU t g ρ st=r:=by
 have hx:∃n,dE t g n ρ st≠.bad:=⟨n,by rw[h];exact hr⟩
 unfold mU
 rw[dif_pos hx]
 have c:=hx.choose_spec
 have a:=xC c (Nat.le_max_left hx.choose n)
 have b:=xC (n:=n) (m:=max hx.choose n) (by rw[h];exact hr) (Nat.le_max_right _ _)
 rw[<- a,b,h]
theorem Av{D:yp}:∀(n:Nat) (σ:St) (H:Hp) (μ:List Addr) (ρ:cM) (st:List al),Rl X μ ρ st σ H->SK X μ H D (dE t g n ρ st)->Fw (tT X t) (Sv X g) D σ H:=by
 intro n σ H μ ρ st l h
 refine⟨fun m σ' H'=>∃μ' ρ' bn,Rl X μ' ρ' bn σ' H'/\SK X μ' H' D (dE t g m ρ' bn),⟨n,μ,ρ,st,l,h⟩,?_⟩
 rintro m σ' H' ⟨μ',ρ',bn,l',h'⟩
 cases m with
 |zero=>exact h'.elim
 |succ m=>
  refine⟨μ',ρ',bn,l',RK.stmt h' l' fun μ1 st1 k v H1 p1 x1 l1 q1 h1=>?_⟩
  cases q1
  cases k with
  |false=>exact h1 μ1 σ' H1 (am _) fw.refl l1
  |true=>
   refine⟨fun σ2 H2=>∃μ2 ρ2 c5,Rl X μ2 ρ2 c5 σ2 H2/\SK X μ2 H2 D (dE t g m ρ2 c5),fun σ2 H2 z=>⟨m,b7 m,z⟩,μ1,ρ',st1,l1,?_⟩
   simp only[f6]at h1
   cases e:g ρ' st1 with
   |nx ρ3 lW=>rw[e]at h1;exact fun μ4 σ4 H4 p4 x4 l4=>⟨μ4,ρ3,lW,l4,SK.mono h1 p4 x4⟩
   |ct ρ3 lW=>rw[e]at h1;exact fun μ4 σ4 H4 p4 x4 l4=>⟨μ4,ρ3,lW,l4,SK.mono h1 p4 x4⟩
   |bk ρ3 lW=>rw[e]at h1;exact h1
   |rt w lW=>rw[e]at h1;exact h1
   |ex c ρ3 lW=>rw[e]at h1;exact h1
   |bad=>rw[e]at h1;exact h1
theorem vm(hc:ST X c t)(hb:SB X body g)(hp:PassesOwn #[3] X.A X.env X.xe:=by passes_own):SS X (.While c body [] pos) (mU t g):=⟨(Fx hp hc.h hb.h).imp fun D σ H h=>by
 walk_at "2"
 unfold mU at h
 by_cases hx:∃n,dE t g n ρ st≠.bad
 ·rw[dif_pos hx]at h;exact Av _ σ H μ ρ st l h
 ·rw[dif_neg hx]at h;exact h.elim⟩
def Gv(fe:FE):FI:=fun ρ st=>(fe ρ st).bind fun x st=>match x with
 |.tup ws=>.ok (ws,none) st
 |_=>.bad
theorem Gw(he:SE X e fe):SI X tg e (Gv fe):=⟨(MC he.h).imp fun σ H R h=>by
 walk_at "2"
 walk_at "1"
 cases x with
 |tup ws=>
  obtain⟨p,vs,rfl,hS,r⟩:=q1.tupE
  refine⟨p,rfl,⟨vs,hS⟩,h1 μ1 _ H1 (am _) fw.refl l1.sto fun i μ' bn H' pp xx S _=>⟨fun w hw=>?_,fun hl=>⟨vs,xx _ _ hS,by rw[<- r.len];exact hl⟩⟩⟩
  have r':=r.mono pp xx
  obtain⟨v,g1,g2⟩:=r'.get hw
  refine⟨⟨vs,v,xx _ _ hS,g1⟩,fun y H'' hy=>?_⟩
  obtain⟨rfl,hy⟩:=hy
  have:=hy vs (xx _ _ hS)
  rw[g1]at this;cases this
  exact⟨fw.refl,S,g2⟩
 |_=>exact h1.elim⟩
def La(fe:FE):FI:=fun ρ st=>(fe ρ st).bind fun x st=>match x with
 |.loc n=>(match lstOf st n with
  |some ws=>.ok (ws,some (n,ws)) st
  |none=>.bad)
 |_=>.bad
theorem Nv(he:SE X e fe):SI X tg e (La fe):=⟨(Jz he.h).imp fun σ H R h=>by
 walk_at "2"
 walk_at "1"
 cases x with
 |loc n=>
  obtain⟨a,ha,rfl⟩:=q1.locE
  simp only at h1
  cases e1:lstOf st1 n with
  |none=>rw[e1]at h1;exact h1.elim
  |some ws=>
   rw[e1]at h1
   obtain⟨a',vs0,g0,hS0,r0⟩:=l1.sto.lstOf e1
   rw[ha]at g0;cases g0
   refine⟨a,rfl,⟨vs0,hS0⟩,h1 μ1 _ H1 (am _) fw.refl l1.sto fun i μ' bn H' pp xx S ck=>?_⟩
   obtain⟨a2,vs,g2,hS,r⟩:=S.lstOf (show lstOf bn n=some ws from ck)
   have:μ'[n]?=some a:=pre_get pp ha
   rw[g2]at this;cases this
   refine⟨fun w hw=>?_,fun hl=>⟨vs,hS,by rw[<- r.len];exact hl⟩⟩
   obtain⟨v,g1,g3⟩:=r.get hw
   refine⟨⟨vs,v,hS,g1⟩,fun y H'' hy=>?_⟩
   obtain⟨rfl,hy⟩:=hy
   have:=hy vs hS
   rw[g1]at this;cases this
   exact⟨fw.refl,S,g3⟩
 |_=>exact h1.elim⟩
noncomputable def gC(lo:Int)(n:Nat):List W:=(List.range n).map fun(i:Nat)=>W.int (lo+i)
theorem fE(lo:Int)(n:Nat):(gC lo n).length=n:=by simp[gC]
theorem Ch{lo:Int}:Cg X (So lo n) (gC lo n,none) μ H:=fun i μ' bn H' pp xx S _=>by
 refine⟨fun w hw=>?_,fun hl=>by rw[fE]at hl;exact hl⟩
 have hi:i<n:=by
  have:=(au.mp hw).1
  rw[fE]at this;exact this
 refine⟨hi,fun y H'' hy=>?_⟩
 obtain⟨rfl,rfl⟩:=hy
 have e:w=.int (lo+i):=by
  unfold gC at hw
  rw[aJ,iI hi]at hw
  exact(bq hw).symm
 subst e
 exact⟨fw.refl,S,.int⟩
def dP(fs:FA):FI:=fun ρ st=>(fs ρ st).bind fun ws st=>match ws with
 |[.int j]=>if -(2^62)<=j/\j<2^62 then .ok (gC 0 j.toNat,none) st else .bad
 |_=>.bad
theorem gT(hm:X.mg "range"=none)(ha:SA X [a] fs)(hg:Gl X "range":=by rfl)(hs:starEach [a] X.env=[(false,eval a X.env)]:=by rfl):SI X tg (.Call (.Name "range" p) [a] [] pos) (dP fs):=⟨(Ec hg hm ha.h hs).imp fun σ H R h=>by
 walk_at "2"
 walk_at "1"
 split at h1
 ·obtain⟨y,rfl,ry⟩:=q1.one
  split at h1
  ·rename_i c
   exact⟨_,by rw[ry.intE],c.1,c.2,h1 μ1 _ H1 (am _) fw.refl l1.sto Ch⟩
  ·exact h1.elim
 ·exact h1.elim⟩
end
end L2
variable{fi:L2.FI}
namespace L2
open PySem PySem.Spec PyProof.Rows
mutual
noncomputable def W.und(n:Nat):W->Bool
 |.loc m=>decide (m<n)
 |.tup ws=>undWs n ws
 |_=>true
noncomputable def undWs(n:Nat):List W->Bool
 |[]=>true
 |w::ws=>w.und n&&undWs n ws
end
def al.und(n:Nat):al->Bool
 |.lst ws=>undWs n ws
 |.ro ws=>undWs n ws
 |.exc _=>true
 |.dct kvs=>undWs n (kvs.map fun p=>p.2)
 |.rod kvs=>undWs n (kvs.map fun p=>p.2)
 |.dcx kvs=>undWs n (kvs.map fun p=>p.2)
 |.rox kvs=>undWs n (kvs.map fun p=>p.2)
 |.obj _ fs=>undWs n (fs.map fun p=>p.2)
 |.tab _ _ _=>true
 |.pin _ _ _ w=>w.und n
 |.gone=>true
section
mutual
theorem bG.und:∀{w:W} {v:V},bG K μ H w v->w.und μ.length=true
 |.non,_,_=>by simp[W.und]
 |.bl _,_,_=>by simp[W.und]
 |.int _,_,_=>by simp[W.und]
 |.str _,_,_=>by simp[W.und]
 |.tup _,_,r=>by obtain⟨p,vs,_,_,c⟩:=r.tupE;unfold W.und;exact RelWs.und c
 |.loc _,_,r=>by obtain⟨a,e,_⟩:=r.locE;unfold W.und;exact bw (au.mp e).1
theorem RelWs.und:∀{ws:List W} {vs:List V},RelWs K μ H ws vs->undWs μ.length ws=true
 |[],_,_=>by unfold undWs;rfl
 |_::_,_,r=>by obtain⟨x,xs,_,b,c⟩:=r.consE;unfold undWs;rw[bG.und b,RelWs.und c];rfl
end
mutual
theorem bG.take:∀{w:W} {v:V},bG K μ H w v->w.und n=true->bG K (μ.take n) H w v
 |.non,_,r,_=>by rw[r.nonE];exact .non
 |.bl _,_,r,_=>by rw[r.blE];exact .bl
 |.int _,_,r,_=>by rw[r.intE];exact .int
 |.str _,_,r,_=>by rw[r.strE];exact .str
 |.tup _,_,r,b=>by obtain⟨p,vs,rfl,h,c⟩:=r.tupE;unfold W.und at b;exact .tupI h (RelWs.takeN c b)
 |.loc _,_,r,b=>by obtain⟨a,e,rfl⟩:=r.locE;unfold W.und at b;exact .locI (by rw[cO (of_decide_eq_true b)];exact e)
theorem RelWs.takeN:∀{ws:List W} {vs:List V},RelWs K μ H ws vs->undWs n ws=true->RelWs K (μ.take n) H ws vs
 |[],_,r,_=>by rw[r.nilE];exact .nilI
 |_::_,_,r,b=>by
  obtain⟨x,xs,rfl,b1,c1⟩:=r.consE
  unfold undWs at b
  rw[dB]at b
  exact .consI (bG.take b1 b.1) (RelWs.takeN c1 b.2)
end
theorem KX.und_w(k:KX)(n:Nat):k.w.und n=true:=by
 have hi:∀ks:List Int,undWs n (ks.map W.int)=true:=fun ks=>by
  induction ks with
  |nil=>rfl
  |cons a l ih=>show(true&&undWs n (l.map W.int))=true;rw[ih];rfl
 cases k with
 |bo b=>rfl
 |fl ks=>unfold KX.w W.und;exact hi ks
 |pr i ks=>unfold KX.w W.und undWs;rw[show(W.int i).und n=true from rfl];unfold undWs;rw[show(W.tup (ks.map W.int)).und n=true by unfold W.und;exact hi ks];rfl
theorem vn:∀{kvs:List (KX×W)} {es:List DictEntry},Paired (Ao K μ H) kvs es->undWs μ.length (kvs.map fun p=>p.2)=true
 |_,_,.nil=>rfl
 |_,_,.cons r t=>by
  obtain⟨_,_,v,h,_⟩:=r
  show(_&&undWs _ _)=true
  rw[h.und,vn t];rfl
theorem sV:∀{kvs:List (KX×W)} {es:List DictEntry},Paired (Ao K μ H) kvs es->undWs n (kvs.map fun p=>p.2)=true->Paired (Ao K (μ.take n) H) kvs es
 |_,_,.nil,_=>.nil
 |_,_,.cons r t,b=>by
  obtain⟨a,⟨u,c,d⟩,v,h,g⟩:=r
  have b:(_&&undWs n _)=true:=b
  rw[dB]at b
  exact .cons ⟨a,⟨u,bG.take c (KX.und_w _ n),d⟩,v,bG.take h b.1,g⟩ (sV t b.2)
theorem lS.und{c:al}{a:Addr}(r:lS K mg μ H c a):c.und μ.length=true:=by
 cases c with
 |lst ws=>obtain⟨vs,_,y⟩:=r;exact y.und
 |ro ws=>obtain⟨vs,_,y⟩:=r;exact y.und
 |exc c=>rfl
 |dct kvs=>obtain⟨vs,_,y⟩:=r;exact y.und
 |rod kvs=>obtain⟨vs,_,_,y⟩:=r;exact y.und
 |dcx kvs=>obtain⟨es,_,_,y,_⟩:=r;exact vn y
 |rox kvs=>obtain⟨es,_,_,_,y,_⟩:=r;exact vn y
 |obj _ fs=>obtain⟨_,_,vs,_,_,y⟩:=r;exact y.und
 |tab _ _ _=>rfl
 |pin _ _ _ _=>obtain⟨_,_,_,v,y,_⟩:=r;exact y.und
 |gone=>rfl
theorem lS.take{c:al}{a:Addr}(r:lS K mg μ H c a)(b:c.und n=true):lS K mg (μ.take n) H c a:=by
 cases c with
 |lst ws=>obtain⟨vs,x,y⟩:=r;exact⟨vs,x,y.takeN b⟩
 |ro ws=>obtain⟨vs,x,y⟩:=r;exact⟨vs,x,y.takeN b⟩
 |exc c=>exact r
 |dct kvs=>obtain⟨vs,x,y⟩:=r;exact⟨vs,x,y.takeN b⟩
 |rod kvs=>obtain⟨vs,o,x,y⟩:=r;exact⟨vs,o,x,y.takeN b⟩
 |dcx kvs=>obtain⟨es,x,d,y,z⟩:=r;exact⟨es,x,d,sV y b,z⟩
 |rox kvs=>obtain⟨es,o,x,d,y,z⟩:=r;exact⟨es,o,x,d,sV y b,z⟩
 |obj _ fs=>obtain⟨C,dx,vs,m,x,y⟩:=r;exact⟨C,dx,vs,m,x,y.takeN b⟩
 |tab _ _ _=>exact r
 |pin _ _ _ _=>obtain⟨ea,p,g,v,y,z⟩:=r;exact⟨ea,p,g,v,y.take b,z⟩
 |gone=>trivial
end
theorem fq.ex{w:World}{a:Addr}{o:HO}(x:fq P w nk H h a o):∃ob,h.get? a=some ob:=by
 cases o with
 |lst xs=>obtain⟨_,_,_,_,e⟩:=x;exact⟨_,e⟩
 |tup xs=>obtain⟨_,_,_,o,e,_⟩:=x;exact⟨_,e⟩
 |dK kvs=>obtain⟨_,_,_,_,o,_,_,e,_⟩:=x;exact⟨_,e⟩
 |dT kvs=>obtain⟨_,_,_,_,o,_,_,e,_⟩:=x;exact⟨_,e⟩
 |set S n=>obtain⟨o,_,_,_,e,_⟩:=x;exact⟨_,e⟩
 |ins C dx fs=>obtain⟨_,_,_,e,_⟩:=x;exact⟨_,e⟩
 |own y=>obtain⟨_,e⟩:=x;exact⟨_,e⟩
 |xd fs=>obtain⟨_,⟨_,_,_,e,_⟩,_⟩:=x;exact⟨_,e⟩
 |rng lo hi=>obtain⟨_,_,_,e⟩:=x;exact⟨_,e⟩
 |frz ob u=>obtain⟨e,_⟩:=x;exact⟨_,e⟩
 |tbl ps=>exact⟨_,(show h.get? a=some _ from x)⟩
 |met f y=>exact⟨_,(show h.get? a=some _ from x)⟩
 |ext φ=>obtain⟨_,⟨_,e⟩,_⟩:=x;exact⟨_,e⟩
def Lb(st bn:List al)(ws:List W):Prop:=undWs st.length ws=true/\st.length<=bn.length/\∀(i:Nat),i<st.length->bn[i]?=st[i]?\/∃c,bn[i]?=some c/\c.und st.length=true
open Classical in
noncomputable def hX(st bn:List al)(ws:List W):List al:=if Lb st bn ws then bn.take st.length else bn
theorem vo{ws:List W}{vs:List V}(S:jk K mg μ st H)(S':jk K mg μ' bn H')(p:μ <+: μ')(r:RelWs K μ' H' ws vs) :
  ∃μ2,μ <+: μ2/\jk K mg μ2 (hX st bn ws) H'/\RelWs K μ2 H' ws vs:=by
 unfold hX
 by_cases k:Lb st bn ws
 ·rw[aE k]
  obtain⟨k1,k2,k3⟩:=k
  have e:μ'.take st.length=μ:=by
   obtain⟨t,rfl⟩:=p
   rw[S.len,gs]
  refine⟨μ'.take st.length,by rw[e];exact am _,⟨fun i j a ci cj h1 h2 r1 r2 m1 m2=>?_,by rw[aM,aM,S'.len],fun i c a h1 h2=>?_⟩,r.takeN k1⟩
  ·have hi:i<st.length:=by have:=(au.mp h1).1;rw[aM]at this;omega
   have hj:j<st.length:=by have:=(au.mp h2).1;rw[aM]at this;omega
   rw[cO hi]at h1 m1
   rw[cO hj]at h2 m2
   exact S'.nd i j a ci cj h1 h2 r1 r2 m1 m2
  ·have hi:i<st.length:=by have:=(au.mp h1).1;rw[aM]at this;omega
   rw[cO hi]at h1 h2
   refine(S'.at' i c a h1 h2).take ?_
   rcases k3 i hi with q|⟨c',q,b⟩
   ·rw[h1]at q
    obtain⟨a0,g0,r0⟩:=S.get q.symm
    have:=r0.und
    rw[S.len];exact this
   ·rw[h1]at q;cases q;exact b
 ·rw[aL k]
  exact⟨μ',p,S',r⟩
def de(N:Nat)(body:FS)(ws:List W)(st:List al):R W:=match body #[14] st with
 |.rt w bn=>.ok w (hX st bn [w])
 |.nx _ bn=>.ok .non (hX st bn [])
 |.ex c _ bn=>.ex c (hX st bn [])
 |_=>.bad
def hZ(P:Program)(w:World):Ej:=fun outer H s E e s'=>∃x C t B H',e=.ref x/\E C none H'/\s'.os=s.os/\AllBare s'.gens/\Un (uN outer) [] H H' s.heap s'.heap/\pI P w s'.toks H' s'.heap/\H' x=none/\Heap.FlyingW B outer x C (.ref t) s'.heap /\
 ∀b o,s'.heap.get? b=some o->(H' b≠none\/((∃o0,s.heap.get? b=some o0)/\b∉uN outer))->B.get? b=some o
def iD(K:Frag)(mg:Str->Option Value)(n:Nat)(F:List W->List al->R W):Sp:=fun vs H Q E=>vs.length=n/\∃μ ws st,jk K mg μ st H/\RelWs K μ H ws vs/\(match F ws st with
 |.ok w bn=>∀μ' v H',μ <+: μ'->fw K H H'->jk K mg μ' bn H'->bG K μ' H' w v->Q v H'
 |.ex c bn=>∀C μ' H',mg c=some C->μ <+: μ'->fw K H H'->jk K mg μ' bn H'->E C none H'
 |.bad=>False)
theorem xA.noted{c:Str}{e:Value}{Q:Unit->Shared->Prop}{E:Value->Shared->Prop}{M:Model}{outer:List Env}(f:xA X aj σ c H e s)(sm:X.stack=X.env::outer)(CY:X.env.frame=some X.env.locals)(hA:X.A.frames=some X.stack)
  (h:∀x C t B h',e=.ref x->X.mg c=some C->H x=none->Heap.FlyingW B X.stack x C (.ref t) h'->s.heap.UpToSlots h' ->
   (∀b o,s.heap.get? b=some o->(H b≠none\/((∃o0,X.s₀.heap.get? b=some o0)/\b∉X.fs/\b∉X.ex)\/((∃y,X.env.cells.lookup y=some b)/\b∉uN X.stack)\/∃p∈X.pn++aj,p.1=b)->B.get? b=some o)->Q () { s with heap:=h' }) :
  wpAny M X.A (leaving X.env e) Q E s:=by
 obtain⟨x,C,t,B,rfl,hC,hx,st,nx,ff,tr,cov⟩:=f.ex
 rw[sm]at ff hA
 rcases tr with tr|⟨oe,vs,he,rfl,_,hd,h1,h0⟩|⟨L,hL,tr⟩
 ·refine wpAny_leaving_nextW hA ff CY tr st nx fun h' hL=>?_
  obtain⟨k1,k2,k3,k4⟩:=hL
  exact h x C t B h' rfl hC hx ⟨k1,nx,by rw[sm];exact k2,k3⟩ k4 cov
 ·refine wpAny_leaving_firstW hA ff CY he st nx hd h1 h0 fun h' hL=>?_
  obtain⟨k1,k2,k3,k4⟩:=hL
  exact h x _ t B h' rfl hC hx ⟨k1,nx,by rw[sm];exact k2,k3⟩ k4 cov
 ·unfold leaving
  refine af (wpAny_noteFrame_againW hL tr (wpAny_landsW ⟨st,nx,ff,tr⟩ fun h' fl up=>?_))
  exact h x C t B h' rfl hC hx (by rw[sm];exact fl) up cov
theorem xA.leaves{c:Str}{e:Value}{E:XK}{E':Value->Shared->Prop}(f:xA X aj σ c H e s)(sm:X.stack=X.env::X.outer)(CY:X.env.frame=some X.env.locals)(hA:X.A.frames=some X.stack)(zP:X.ex=[])
  (hE:∀C,X.mg c=some C->E C none H):wpAny M X.A (leaving X.env e) (fun _ s''=>hZ X.prog X.w X.outer X.H₀ X.s₀ E e s'') E' s:=by
 refine f.noted sm CY hA fun x C t B h' he hC hx fl up cov=>?_
 have I:=f.inv
 have un:=I.base
 rw[zP]at un
 have fsE:X.fs=uN X.outer:=rfl
 obtain⟨f1,f2,f3,f4⟩:=fl
 rw[sm]at f3
 obtain⟨_,_,f3'⟩:=f3
 have frames:∀b∈uN X.outer,∀o,s.heap.get? b=some o->∃sl,h'.get? b=some { o with slots:=sl }:=fun b hb o ho=>by
  obtain⟨_,o',ho',hd⟩:=I.funs.mem hb
  rw[ho]at ho';cases ho'
  exact up b o ho hd
 have kept:∀b o,s.heap.get? b=some o->(∃o0,X.s₀.heap.get? b=some o0)->b∉uN X.outer->h'.get? b=some o:=fun b o ho h0 hb=>f1 b o (cov b o ho (.inr (.inl ⟨h0,hb,by rw[zP];simp⟩)))
 have keptH:∀b o,s.heap.get? b=some o->H b≠none->h'.get? b=some o:=fun b o ho h0=>f1 b o (cov b o ho (.inl h0))
 refine⟨x,C,t,B,H,he,hE C hC,I.os,I.bare,⟨fun b o q n hb hx=>?_,fun b o q n hb hx=>?_,fun b o q n hx=>un.free b o q n hx,fun b o q hx=>?_,un.tups,un.frzs,un.tbls⟩,fun b u hb=>?_,hx,⟨f1,f2,f3',f4⟩,fun b o ho hr=>?_⟩
 ·exact kept b o (un.keep b o q n hb hx) ⟨o,q⟩ hb
 ·obtain⟨sl,q1⟩:=un.slot b o q n hb hx
  obtain⟨sl2,q2⟩:=frames b hb _ q1
  exact⟨sl2,q2⟩
 ·obtain⟨o',q1⟩:=un.there b o q hx
  by_cases hb:b∈uN X.outer
  ·obtain⟨sl2,q2⟩:=frames b hb _ q1;exact⟨_,q2⟩
  ·exact⟨o',kept b o' q1 ⟨o,q⟩ hb⟩
 ·refine(I.hok b u hb).stay (fun c v hc q=>?_) (fun _ q=>q) fun _ _ q=>q
  refine keptH c v q ?_
  rcases hc with rfl|hc
  ·rw[hb];simp
  ·rw[hc];simp
 ·rcases hr with hr|⟨⟨o0,h0⟩,hb⟩
  ·cases hu:H b with
   |none=>exact absurd hu hr
   |some u=>
    have lt:=I.hok.lt hu
    obtain⟨ob,hob⟩:∃ob,s.heap.get? b=some ob:=by
     exact(I.hok b u hu).ex
    have:=keptH b ob hob hr
    rw[ho]at this;cases this
    exact cov b o hob (.inl hr)
  ·obtain⟨o',q1⟩:=un.there b o0 h0 #[15]
   have:=kept b o' q1 ⟨o0,h0⟩ hb
   rw[ho]at this;cases this
   exact cov b o q1 (.inr (.inl ⟨⟨o0,h0⟩,hb,by rw[zP];simp⟩))
structure bY(P:Program)(w:World)(K:Frag)(mg:Str->Option Value)(base:Heap)(k:Nat)(x:Str)(n:Nat)(F:List W->List al->R W):Prop where
 ex:∃(f:Addr) (fd:FuncData) (ps:List Str),mg x=some (.ref f)/\keepIn K (.ref f)=true/\ps.length=n/\qc K fd ps []/\c6 P w K mg base (hZ P w) k f fd ps (iD K mg n F)
theorem bY.mono{w:World}{k:Nat}{x:Str}(h:bY P w K mg base j x n F)(hj:j<=k):bY P w K mg base k x n F:=by
 obtain⟨f,fd,ps,a,b,c,d,e⟩:=h.ex
 exact⟨f,fd,ps,a,b,c,d,e.mono hj⟩
def cu(n:Nat)(F:List W->List al->R W)(fs:FA):FE:=fun ρ st=>(fs ρ st).bind fun ws st=>if ws.length=n then F ws st else .bad
section
theorem Gx{k:Nat}{f:Addr}{Q:VK}{us:List Value}{vs:List V}
  (Fn:c6 X.prog X.w X.K X.mg X.base (hZ X.prog X.w) k f fd ps (iD X.K X.mg n F)) (hn:ps.length=n) (hr:iK k X.A) (hb:qc X.K fd ps []) (I:bT X aj σ H s) (S:jk X.K X.mg μ st H) (r:RelWs X.K μ H ws vs) (rv:cL s.toks vs us) (hl:ws.length=n)
  (h:RK X (sN X) μ σ H Q (F ws st)):wpAny #[3] X.A (call (.ref f) us) (EP X aj σ Q) X.xe s:=by
 have hl':(us++([]:List Value)).length=ps.length:=by rw[bx,<- rv.length,<- r.len,hl,hn]
 cases e:F ws st with
 |bad=>rw[e]at h;exact h.elim
 |ok w bn=>
  rw[e]at h
  refine up (qV (iw (Fn.run X.A X.stack s H ⟨us,[]⟩ us vs Q (fun _ _ _=>False) hr I.env0 (.inl I.pos) (by have:=hb s us I.kIn hl';rwa[bx]at this) rv ⟨by rw[<- r.len];exact hl,μ,ws,st,S,r,by rw[e];exact h⟩) fun r s' hq=>?_))
  cases r with
  |error e=>obtain⟨_,_,_,_,_,_,z,_⟩:=hq;exact z.elim
  |ok fl=>
   cases fl with
   |ret u=>exact fun kt=>I.after hq kt
   |next=>exact False.elim hq
   |brk=>exact False.elim hq
   |cont=>exact False.elim hq
 |ex c bn=>
  rw[e]at h
  refine up (qV (iw (Fn.run X.A X.stack s H ⟨us,[]⟩ us vs (fun _ _=>False) (fun C _ H'=>X.mg c=some C/\∃μ',μ <+: μ'/\fw X.K H H'/\jk X.K X.mg μ' bn H') hr I.env0 (.inl I.pos) (by have:=hb s us I.kIn hl';rwa[bx]at this) rv
   ⟨by rw[<- r.len];exact hl,μ,ws,st,S,r,by rw[e];exact fun C μ' H' hC p x S'=>⟨hC,μ',p,x,S'⟩⟩) fun r s' hq=>?_))
  cases r with
  |ok fl=>
   cases fl with
   |ret u=>obtain⟨_,_,_,_,_,_,_,z⟩:=hq;exact z.elim
   |next=>exact False.elim hq
   |brk=>exact False.elim hq
   |cont=>exact False.elim hq
  |error ev=>
   obtain⟨x,C,t,B,H',rfl,⟨hC,μ',p,xx,S'⟩,os,bare,un,hok,hx,fl,cov⟩:=hq
   intro kt
   have I':bT X aj σ H' s':=I.call' os un hok bare (fun b hb=>absurd hb #[15]) kt
   refine h aj μ' H' (.ref x) s' p xx S' ⟨I',x,C,t,B,rfl,hC,hx,fl.1,fl.2.1,fl.2.2.1,.inl fl.2.2.2,fun b o ho hrel=>?_⟩
   refine cov b o ho ?_
   rcases hrel with q|⟨⟨o0,h0⟩,hb,hbx⟩|⟨⟨y,hy⟩,hb⟩|⟨pp,hp,rfl⟩
   ·exact .inl q
   ·refine .inr ⟨?_,fun z=>?_⟩
    ·obtain⟨o',q1⟩:=I.base.there b o0 h0 hbx
     exact⟨o',q1⟩
    ·rcases aT.mp (I.stkSub b z)with z|z
     ·rw[z]at h0
      exact absurd (aP (aH h0) I.ok.above) (dL _)
     ·exact hb z
   ·obtain⟨v,ov,hov,_⟩:=I.cell y b hy
    exact .inr ⟨⟨_,hov⟩,hb⟩
   ·obtain⟨g1,g2,g3,g4,_⟩:=I.pin pp hp
    refine .inr ⟨⟨_,g1⟩,fun z=>?_⟩
    rcases aT.mp (I.stkSub _ z)with z|z
    ·exact g3 z
    ·exact g4 z
variable{x:Str}{fs:FA}
theorem bR{k k':Nat}(Fn:bY X.prog X.w X.K X.mg X.base k x n F)(hr:iK k' X.A)(hk:k<=k')(ha:SA X (e::es) fs)(hg:Gl X x:=by rfl)(IJ:(x==("__debug__":Str))=false:=by decide)
  (he:starEach (e::es) X.env=(false,eval e X.env)::starEach es X.env:=by rfl) (p_:(backTo pos (starEach es X.env)).any (·.1)=false:=by rfl):SE X (.Call (.Name x p) (e::es) [] pos) (cu n F fs):=⟨by
 intro aj s σ H Q I h
 obtain⟨f,fd,ps,hm,hkp,hn,hb,Fo⟩:=(Fn.mono hk).ex
 refine fK (uO I hg hm ?_ IJ)
 walk_at "2"
 have h':Qz X fs σ H fun vs H1=>∃μ1 st1 ws,Rl X μ1 ρ st1 σ H1/\RelWs X.K μ1 H1 ws vs/\RK X (sN X) μ1 σ H1 Q (if ws.length=n then F ws st1 else .bad):=
  ⟨μ,ρ,st,l,RK.bind h l fun μ1 st1 x v H1 p1 x1 l1 q1 h1=>⟨μ1,st1,x,l1,q1,h1⟩⟩
 refine PySem.W.callWith_K (h₀:=X.base) I.ok.mod.kin hkp (jC (ha.h pos aj s σ H _ I h') fun us s1 kt1 ⟨vs,H1,I1,r,μ1,st1,ws,l1,r1,q⟩=>⟨I1.kIn,?_⟩) he p_
 by_cases c:ws.length=n
 ·rw[aE c]at q
  exact Gx Fo hn hr hb I1 l1.sto r1 r c q
 ·rw[aL c]at q;exact q.elim⟩
end
theorem J'{w:World}{x:Str}{st:Stmt}{f:Addr}{N:List Str}{k:Nat}{g:FS}(F:iC K x fG st f fd)(S:bh N ps (aQ st))(hn:ps.length=n)
  (BA:∀(fA:Value) (A:Around) (outer:List Env) (s:Shared) (H:Hp) (E:XK),fd.code=fA->iK k (A.deeper (envOfC fG (aQ st) s.heap.objs.size f fA)) ->
   SB (BT (hZ P w) P w K mg base N fG (aQ st) f fA A outer s H E) (gB st) g):c6 P w K mg base (hZ P w) (k+1) f fd ps (iD K mg n (de N.length g)):=by
 obtain⟨oc,od,kV,sE,pm,an,fA,ct,Md,rfl,lk,Fb⟩:=F.ex
 refine P8 lk Fb S (fun vs H Q E h=>by rw[hn];exact h.1) fun A outer s H vs Q E hr Mg=>?_
 obtain⟨hl,μ,ws,S5,Sr,r,h⟩:=Mg
 refine⟨_,(BA fA A outer s H E rfl hr).h,μ,ws.map some++List.replicate (N.length-ws.length) none,S5,⟨?_,Sr⟩,?_⟩
 ·unfold tV
  rw[<- r.len]
  have base:∀(ws:List W) (vs:List V) (m:Nat),RelWs K μ H ws vs->Paired (fun(o:Option W) (s:Option V)=>∀w,o=some w->∃v,s=some v/\bG K μ H w v) (ws.map some++List.replicate m none) (vs.map some++List.replicate m none):=by
   intro ws
   induction ws with
   |nil=>
    intro vs m r
    rw[r.nilE]
    induction m with
    |zero=>exact .nil
    |succ m ih=>exact .cons (fun w z=>nomatch z) ih
   |cons w ws ih=>
    intro vs m r
    obtain⟨y,ys,rfl,ry,rys⟩:=r.consE
    exact .cons (fun w' z=>⟨y,rfl,by cases z;exact ry⟩) (ih ys m rys)
  exact base ws vs _ r
 ·unfold de at h
  cases e:g (ws.map some++List.replicate (N.length-ws.length) none) S5 with
  |rt w bn=>
   rw[e]at h
   intro μ' v H' p x S' om
   obtain⟨μ2,p2,S2,r2⟩:=vo Sr S' p (.consI om .nilI)
   obtain⟨_,e2,r3⟩:=r2.one
   cases e2
   exact h μ2 v H' p2 x S2 r3
  |nx ρ' bn=>
   rw[e]at h
   intro μ' σ' H' p x l'
   obtain⟨μ2,p2,S2,_⟩:=vo (ws:=[]) (vs:=[]) Sr l'.sto p .nilI
   exact h μ2 .non H' p2 x S2 .non
  |ex c ρ' bn=>
   rw[e]at h
   intro aj μ' σ' H' ev s' p x l' fl
   obtain⟨μ2,p2,S2,_⟩:=vo (ws:=[]) (vs:=[]) Sr l'.sto p .nilI
   exact fl.leaves rfl rfl fl.inv.ok.frames rfl fun C hC=>h C μ2 H' hC p2 x S2
  |bk ρ' bn=>rw[e]at h;exact h.elim
  |ct ρ' bn=>rw[e]at h;exact h.elim
  |bad=>rw[e]at h;exact h.elim
theorem bS{w:World}{x:Str}{st:Stmt}{f:Addr}{N:List Str}{k:Nat}{g:FS}(F:iC K x fG st f fd)(S:bh N ps (aQ st))(hn:ps.length=n)
  (BA:∀(fA:Value) (A:Around) (outer:List Env) (s:Shared) (H:Hp) (E:XK),iK k (A.deeper (envOfC fG (aQ st) s.heap.objs.size f fA)) ->
   SB (BT (hZ P w) P w K mg base N fG (aQ st) f fA A outer s H E) (gB st) g):c6 P w K mg base (hZ P w) (k+1) f fd ps (iD K mg n (de N.length g)):=J' F S hn fun fA A outer s H E _ hr=>BA fA A outer s H E hr
theorem yK{w:World}{k:Nat}{x:Str}{st:Stmt}{f:Addr}{ps:List Str}
  (F:iC K x x st f fd) (hm:mg x=some (.ref f)) (hn:ps.length=n)
  (hb:∀(kV sE pm:Value) (an:Option Addr) (fA ct:Value) (us:List Value),us.length=ps.length->bindArgs (fnOf x x (ig st) (gB st) (aQ st) .none kV sE pm an fA ct) ⟨us,[]⟩=pure (ps.zip us))
  (ok:c6 P w K mg base (hZ P w) k f fd ps (iD K mg n G)):bY P w K mg base k x n G:=⟨f,fd,ps,hm,F.kp,hn,F.binds hb,ok⟩
end L2
namespace L2
open PySem PySem.Spec PyProof.Rows
theorem RelWs.split:∀{as bs:List W} {vs:List V},RelWs K μ H (as++bs) vs->∃xs ys,vs=xs++ys/\RelWs K μ H as xs/\RelWs K μ H bs ys
 |[],_,vs,r=>⟨[],vs,rfl,.nilI,r⟩
 |w::as,bs,vs,r=>by
  obtain⟨x,xs,rfl,rx,rs⟩:=r.consE
  obtain⟨ys,zs,rfl,r1,r2⟩:=RelWs.split rs
  exact⟨x::ys,zs,rfl,.consI rx r1,r2⟩
section
variable{a b:Expr}{x:Str}{fb:FE}{fs:FA}{id:String}
structure Ps(X:Cx)(id:String)(F:W->List W->List al->R W):Prop where
 h:Em X id (fun x vs H Q=>∃μ st wx ws,jk X.K X.mg μ st H/\bG X.K μ H wx x/\RelWs X.K μ H ws vs/\Fd X μ H Q (F wx ws st))
 n:∀x ws st,ut (F x ws st)
noncomputable def k6(st:List al):W->Bool
 |.loc n=>(match st[n]? with|some (.lst _)=>true|_=>false)
 |_=>false
noncomputable def xD:W->Bool
 |.str _=>true
 |_=>false
theorem Aw{w:W}{v:V}(S:jk X.K X.mg μ st H)(r:bG X.K μ H w v)(h:k6 st w=true):∃l ys,v=.ref l/\H l=some (.lst ys):=by
 cases w with
 |loc n=>
  obtain⟨a,ha,rfl⟩:=r.locE
  simp only[k6]at h
  cases e1:st[n]? with
  |none=>rw[e1]at h;cases h
  |some cc=>
   rw[e1]at h
   cases cc with
   |lst ws=>obtain⟨a1,g1,vs,k1,_⟩:=S.get e1;rw[ha]at g1;cases g1;exact⟨_,vs,rfl,k1⟩
   |_=>cases h
 |_=>cases h
def k7(F:W->List W->List al->R W)(fo:FE)(fs:FA):FE:=fun ρ st=>(fo ρ st).bind fun x st=>if k6 st x then(fs ρ st).bind fun ws st=>F x ws st else .bad
def Jg(F:W->List W->List al->R W)(fo:FE)(fs:FA):FE:=fun ρ st=>(fo ρ st).bind fun x st=>if xD x then(fs ρ st).bind fun ws st=>F x ws st else .bad
theorem lI{F:W->List W->List al->R W}(slot:Slot "list" name id)(C6:typeOf (.builtin id)=pure (.type "method_descriptor"))(hm:Ps X id F)(ho:SE X o fo)(ha:SA X (e::es) fs)
  (j8:attributeBase o name X.env (eval o X.env)=eval o X.env:=by rfl)
  (qR:((backTo dG (starEach (e::es) X.env)).all (fun x=>!x.1)&&(backToKw dG (keywordEach [] X.env)).all (fun x=>x.1.isSome)
   && decide #[19])=true:=by rfl)
  (j7:(fH.endLine==dG.line)=true:=by rfl) (hs:starEach (e::es) X.env=(false,eval e X.env)::starEach es X.env:=by rfl) (nn:(backTo dG (starEach es X.env)).any (·.1)=false:=by rfl) :
  SE X (.Call (.Attribute o name fH) (e::es) [] dG) (k7 F fo fs):=⟨(Qm slot C6 hm.h ho.h ha.h j8 qR j7 hs nn).imp fun σ H Q h=>by
 walk_at "2"
 walk_at "1"
 by_cases c:k6 st1 x=true
 ·rw[aE c]at h1
  refine⟨Aw l1.sto q1 c,μ1,ρ,st1,l1,RK.bind h1 l1 fun μ2 c5 ws vs H2 p2 x2 l2 q2 h2=>?_⟩
  exact⟨μ2,c5,x,ws,l2.sto,q1.mono p2 x2,q2,sO h2 (hm.n _ _ _)⟩
 ·rw[aL c]at h1;exact h1.elim⟩
theorem qj{F:W->List W->List al->R W}(slot:Slot "list" name id)(C6:typeOf (.builtin id)=pure (.type "method_descriptor"))(hm:Ps X id F)(ho:SE X o fo)
  (j8:attributeBase o name X.env (eval o X.env)=eval o X.env:=by rfl) (j7:(fH.endLine==dG.line)=true:=by rfl):SE X (.Call (.Attribute o name fH) [] [] dG) (k7 F fo aD):=⟨(Nb slot C6 hm.h ho.h j8 j7).imp fun σ H Q h=>by
 walk_at "2"
 walk_at "1"
 by_cases c:k6 st1 x=true
 ·rw[aE c]at h1
  exact⟨Aw l1.sto q1 c,μ1,st1,x,[],l1.sto,q1,.nilI,sO h1 (hm.n _ _ _)⟩
 ·rw[aL c]at h1;exact h1.elim⟩
theorem Ka{F:W->List W->List al->R W}(slot:Slot "str" name id)(C6:typeOf (.builtin id)=pure (.type "method_descriptor"))(hm:Ps X id F)(ho:SE X o fo)(ha:SA X (e::es) fs)
  (j8:attributeBase o name X.env (eval o X.env)=eval o X.env:=by rfl)
  (qR:((backTo dG (starEach (e::es) X.env)).all (fun x=>!x.1)&&(backToKw dG (keywordEach [] X.env)).all (fun x=>x.1.isSome)
   && decide #[19])=true:=by rfl)
  (j7:(fH.endLine==dG.line)=true:=by rfl) (hs:starEach (e::es) X.env=(false,eval e X.env)::starEach es X.env:=by rfl) (nn:(backTo dG (starEach es X.env)).any (·.1)=false:=by rfl) :
  SE X (.Call (.Attribute o name fH) (e::es) [] dG) (Jg F fo fs):=⟨(Qn slot C6 hm.h ho.h ha.h j8 qR j7 hs nn).imp fun σ H Q h=>by
 walk_at "2"
 walk_at "1"
 cases x with
 |str z=>
  rw[aE (show xD (W.str z)=true from rfl)]at h1
  refine⟨⟨z,q1.strE⟩,μ1,ρ,st1,l1,RK.bind h1 l1 fun μ2 c5 ws vs H2 p2 x2 l2 q2 h2=>?_⟩
  exact⟨μ2,c5,_,ws,l2.sto,q1.mono p2 x2,q2,sO h2 (hm.n _ _ _)⟩
 |_=>exact h1.elim⟩
def bU(x:W)(ws:List W)(st:List al):R W:=match x,ws with
 |.loc n,[y]=>(match st[n]? with
  |some (.lst zs)=>if zs.length<my then .ok .non (st.set n (.lst (zs++[y])))else .bad
  |_=>.bad)
 |_,_=>.bad
theorem cZ:Ps X "list.append" bU:=⟨fun aj s σ H x vs v us Q I rv rus zq=>by
 obtain⟨μ,st,wx,ws,S,rx,rs,q⟩:=zq
 unfold bU at q
 split at q
 ·rename_i n y
  obtain⟨y1,rfl,ry⟩:=rs.one
  split at q
  ·rename_i zs e1
   split at q
   ·rename_i c
    obtain⟨a1,g1,vs,k1,r⟩:=S.get e1
    obtain⟨b1,f1,rfl⟩:=rx.locE
    rw[g1]at f1;cases f1
    refine B5 aj s σ H _ _ v us Q I rv rus ⟨a1,vs,y1,rfl,rfl,k1,by rw[<- r.len];exact Ni (fY c),fun H2 e=>?_⟩
    subst e
    exact q μ _ _ (am _) (f_.but jn k1) (S.set e1 g1 k1 (r.app (.consI ry .nilI))) .non
   ·exact q.elim
  ·exact q.elim
 ·exact q.elim,fun x ws st=>by
 unfold bU
 repeat' split
 all_goals trivial⟩
def mD(x:W)(ws:List W)(st:List al):R W:=match x,ws with
 |.loc n,[]=>(match st[n]? with
  |some (.lst zs)=>sU zs.getLast? fun w=>.ok w (st.set n (.lst zs.dropLast))
  |_=>.bad)
 |_,_=>.bad
theorem l_:Ps X "list.pop" mD:=⟨fun aj s σ H x vs v us Q I rv rus zq=>by
 obtain⟨μ,st,wx,ws,S,rx,rs,q⟩:=zq
 unfold mD at q
 split at q
 ·rename_i n
  have e0:=rs.nilE
  subst e0
  split at q
  ·rename_i zs e1
   obtain⟨a1,g1,vs,k1,r⟩:=S.get e1
   obtain⟨b1,f1,rfl⟩:=rx.locE
   rw[g1]at f1;cases f1
   cases hl:zs.getLast? with
   |none=>rw[hl]at q;exact q.elim
   |some w=>
    rw[hl]at q
    have hz:zs=zs.dropLast++[w]:=by
     obtain⟨ys,rfl⟩:=List.getLast?_eq_some_iff.mp hl
     simp
    rw[hz]at r
    obtain⟨xs',Pv,hx,r1,r3⟩:=r.split
    obtain⟨y',rfl,r2⟩:=r3.one
    refine JV aj s σ H _ _ v us Q I rv rus ⟨a1,xs',y',rfl,rfl,by rw[<- hx];exact k1,fun H2 e=>?_⟩
    subst e
    have xx:fw X.K H (fW H a1 (.lst xs')):=f_.but jn k1
    exact q μ _ _ (am _) xx (S.set e1 g1 k1 r1) (r2.mono (am _) xx)
  ·exact q.elim
 ·exact q.elim,fun x ws st=>by
 unfold mD sU
 repeat' split
 all_goals trivial⟩
noncomputable def nE:List W->Option (List (List Nat))
 |[]=>some []
 |.str l::ws=>(nE ws).map (l :: ·)
 |_=>none
theorem vp:∀{ws:List W} {ls:List (List Nat)} {vs:List V},nE ws=some ls->RelWs K μ H ws vs->vs=ls.map fun l=>V.str (tx l)
 |[],ls,vs,h,r=>by simp only[nE]at h;cases h;exact r.nilE
 |w::ws,ls,vs,h,r=>by
  obtain⟨x,xs,rfl,rx,rs⟩:=r.consE
  cases w with
  |str l=>
   simp only[nE]at h
   cases e:nE ws with
   |none=>rw[e]at h;cases h
   |some ls'=>rw[e]at h;cases h;rw[rx.strE,vp e rs];rfl
  |_=>simp only[nE]at h;cases h
theorem xE(ls:List (List Nat)):nE (ls.map W.str)=some ls:=by
 induction ls with
 |nil=>rfl
 |cons a r ih=>show(nE (r.map W.str)).map (a :: ·)=_;rw[ih];rfl
def nF(x:W)(ws:List W)(st:List al):R W:=match x,ws with
 |.str sep,[.loc n]=>sU (lstOf st n) fun zs=>sU (nE zs) fun ls=>if (ls.map List.length).sum+ls.length*sep.length<=my then .ok (.str (kX sep ls)) st else .bad
 |_,_=>.bad
theorem uQ:Ps X "str.join" nF:=⟨fun aj s σ H x vs v us Q I rv rus zq=>by
 obtain⟨μ,st,wx,ws,S,rx,rs,q⟩:=zq
 unfold nF at q
 split at q
 ·rename_i sep n
  obtain⟨y1,rfl,ry⟩:=rs.one
  cases e1:lstOf st n with
  |none=>rw[e1]at q;exact q.elim
  |some zs=>
   rw[e1,eU]at q
   cases e2:nE zs with
   |none=>rw[e2]at q;exact q.elim
   |some ls=>
    rw[e2,eU]at q
    split at q
    ·rename_i c
     obtain⟨a,vs,g,hS,r⟩:=S.lstOf e1
     obtain⟨b1,f1,rfl⟩:=ry.locE
     rw[g]at f1;cases f1
     have:=vp e2 r
     subst this
     exact JS aj s σ H _ _ v us Q I rv rus ⟨sep,_,ls,rx.strE,rfl,hS,aN c #[12],rj S q⟩
    ·exact q.elim
 ·exact q.elim,fun x ws st=>by
 unfold nF
 split
 ·exact t6 fun _=>t6 fun _=>by split<;>trivial
 ·trivial⟩
end
def sX(cap:List (Option Nat))(ρ:cM):cM:=cap.map fun o=>o.bind fun j=>(ρ[j]?).join
theorem QW(r:Paired (fun(o:Option W) (s:Option V)=>∀w,o=some w->∃v,s=some v/\bG X.K μ H w v) ρ σ):∀cap:List (Option Nat),
  Paired (fun(o:Option W) (s:Option V)=>∀w,o=some w->∃v,s=some v/\bG X.K μ H w v) (sX cap ρ) (qd cap σ)
 |[]=>.nil
 |o::cap=>by
  refine .cons (fun w e=>?_) (QW r cap)
  cases o with
  |none=>cases e
  |some j=>
   have e':(ρ[j]?).join=some w:=e
   have e2:ρ[j]?=some (some w):=by
    cases h:ρ[j]? with
    |none=>rw[h]at e';cases e'
    |some ow=>rw[h]at e';simp at e';rw[e']
   obtain⟨v,g1,g2⟩:=vg r e2
   exact⟨v,by show(σ[j]?).join=some v;rw[g1];rfl,g2⟩
open Classical in
def rk(f:FG)(t:FT)(el:FE)(ck:Option (Nat×List W))(ρ0:cM):List W->List W->List al->R (List W)
 |[],iS,st=>if jq st ck then .ok iS st else .bad
 |w::ws,iS,st=>if jq st ck then(match f w ρ0 with
  |none=>.bad
  |some ρ'=>(match t ρ' st with
   |.ok true st1=>(match el ρ' st1 with
    |.ok y c5=>rk f t el ck ρ0 ws (iS++[y]) c5
    |_=>.bad)
   |.ok false st1=>rk f t el ck ρ0 ws iS st1
   |_=>.bad))else .bad
def j3(cap:List (Option Nat))(fi:FI)(f:FG)(t:FT)(el:FE):FE:=fun ρ st=>(fi ρ st).bind fun k st=>if k.1.length<=my then(rk f t el k.2 (sX cap ρ) k.1 [] st).bind fun ys st=>qh ys st else .bad
def Sx(X:Cx)(rel:List Addr->Hp->α->β->Prop)(f:cM->List al->R α)(σ:St)(H:Hp)(Q:β->Hp->Prop):Prop:=
 ∃μ ρ st a bn,Rl X μ ρ st σ H/\f ρ st=.ok a bn/\∀μ' b H',μ <+: μ'->fw X.K H H'->jk X.K X.mg μ' bn H'->rel μ' H' a b->Q b H'
def wP:FT:=fun _ st=>.ok true st
structure QX(X:Cx)(es:List Expr)(f:FT):Prop where
 h:FW X es (tT X f)
theorem FW.imp{e:List Expr}{t t':TT}(h:FW X e t)(i:∀σ H Q,t' σ H Q->t σ H Q):FW X e t':=fun aj s σ H Q I q=>h aj s σ H Q I (i _ _ _ q)
theorem uR:QX X [] wP:=⟨JO.imp fun σ H Q h=>by
 walk_at "2"
 exact h μ true H (am _) fw.refl l.sto rfl⟩
theorem Dy(hc:ST X c t):QX X [c] t:=⟨JP hc.h⟩
theorem Gy{f:FG}{Q:VK}(h:tE X (j3 cap fi f t el) σ H Q) :
  u6 cap (fun σ H R=>tG X (QV X) fi σ H R) (QT X f) (Sx X Nj t) (Sx X (sN X) el) σ H Q:=by
 walk_at "2"
 refine⟨μ,ρ,st,l,RK.bind h l fun μ1 st1 k J H1 p1 x1 l1 wk h1=>?_⟩
 by_cases hz:k.1.length<=my
 ·rw[aE hz]at h1
  refine⟨fun i m ys H'=>i<=k.1.length/\m=k.1.length-i/\ys.length<=i/\∃μ' iS bn,μ1 <+: μ'/\fw X.K H1 H'/\Rl X μ' ρ bn σ H'/\RelWs X.K μ' H' iS ys/\RK X (sN X) μ' σ H' Q ((rk f t el k.2 (sX cap ρ) (k.1.drop i) iS bn).bind fun ys st=>qh ys st),
   ⟨_,cn _,rfl,az _,μ1,[],st1,am _,fw.refl,l1,.nilI,h1⟩,?_⟩
  rintro i m ys H' ⟨hi,rfl,hy,μ',iS,bn,pm,xm,lm,ra,hm⟩
  by_cases hlt:i<k.1.length
  ·rw[fQ hlt]at hm
   unfold rk at hm
   by_cases ck:jq bn k.2
   ·rw[aE ck]at hm
    obtain⟨go,yld⟩:=(wk i μ' bn H' pm xm lm.sto ck).1 _ (aq hlt)
    refine .inr ⟨go,fun x H2 hy2=>?_⟩
    obtain⟨y1,y2,y3⟩:=yld x H2 hy2
    cases hf:f k.1[i] (sX cap ρ)with
    |none=>rw[hf]at hm;exact hm.elim
    |some ρ2=>
     rw[hf]at hm
     simp only at hm
     have lb:Rl X μ' (sX cap ρ) bn (qd cap σ) H2:=⟨QW (lm.to (am _) y1 y2).env cap,y2⟩
     refine⟨μ',sX cap ρ,bn,k.1[i],ρ2,lb,y3,hf,fun σ2 l2=>?_⟩
     cases ht:t ρ2 bn with
     |bad=>rw[ht]at hm;exact hm.elim
     |ex c s=>rw[ht]at hm;exact hm.elim
     |ok kk c5=>
      rw[ht]at hm
      refine⟨μ',ρ2,bn,kk,c5,l2,ht,fun μ3 b3 H3 p3 x3 S3 q3=>?_⟩
      cases q3
      cases kk with
      |false=>
       exact⟨_,by omega,hlt,rfl,by omega,μ3,iS,c5,pm.trans p3,xm.trans (y1.trans x3),lm.to p3 (y1.trans x3) S3,ra.mono p3 (y1.trans x3),RK.mono hm p3 (y1.trans x3)⟩
      |true=>
       rw[aE rfl]
       simp only at hm
       cases he:el ρ2 c5 with
       |bad=>rw[he]at hm;exact hm.elim
       |ex c s=>rw[he]at hm;exact hm.elim
       |ok w lW=>
        rw[he]at hm
        refine⟨μ3,ρ2,c5,w,lW,l2.to p3 x3 S3,he,fun μ4 b4 H4 p4 x4 S4 q4=>?_⟩
        have pp:=p3.trans p4
        have xx:=y1.trans (x3.trans x4)
        exact⟨gG hy (aP hlt (ou hz)),_,by omega,hlt,rfl,by simp;omega,μ4,iS++[w],lW,pm.trans pp,xm.trans xx,lm.to pp xx S4,(ra.mono pp xx).app (.consI q4 .nilI),RK.mono hm pp xx⟩
   ·rw[aL ck]at hm;exact hm.elim
  ·have hi':i=k.1.length:=by omega
   subst hi'
   rw[nz (az _)]at hm
   unfold rk at hm
   by_cases ck:jq bn k.2
   ·rw[aE ck]at hm
    obtain⟨z1,z2⟩:=vi lm.sto ra hm
    exact .inl ⟨(wk _ μ' bn H' pm xm lm.sto ck).2 (az _),z1,fun p hp=>z2 p _ hp rfl⟩
   ·rw[aL ck]at hm;exact hm.elim
 ·rw[aL hz]at h1;exact h1.elim
section
variable{f:FG}{m:Nat}
theorem Uv{X X':Cx}{f:FE}(hK:X'.K=X.K)(hm:X'.mg=X.mg)(h:SE X' e f):QE X' e (Sx X (sN X) f):=⟨h.h.imp fun σ H Q ⟨μ,ρ,st,a,bn,l,e,q⟩=>⟨μ,ρ,st,⟨by rw[hK];exact l.env,by rw[hK,hm];exact l.sto⟩,by rw[e];exact fun μ' b H' p x S r=>q μ' b H' p (by rw[<- hK];exact x) (by rw[<- hK,<- hm];exact S) (by show bG X.K μ' H' a b;rw[<- hK];exact r)⟩⟩
theorem Uw{X X':Cx}{e:List Expr}{f:FT}(hK:X'.K=X.K)(hm:X'.mg=X.mg)(h:QX X' e f):TB X' e (Sx X Nj f):=⟨h.h.imp fun σ H Q ⟨μ,ρ,st,a,bn,l,e,q⟩=>⟨μ,ρ,st,⟨by rw[hK];exact l.env,by rw[hK,hm];exact l.sto⟩,by rw[e];exact fun μ' b H' p x S r=>q μ' b H' p (by rw[<- hK];exact x) (by rw[<- hK,<- hm];exact S) r⟩⟩
theorem Ux{X X':Cx}(hK:X'.K=X.K)(hm:X'.mg=X.mg)(h:SG X' e f):QG X' e (QT X f):=⟨h.h.imp fun v σ H Q ⟨μ,ρ,st,w,ρ',l,r,e,q⟩=>⟨μ,ρ,st,w,ρ',⟨by rw[hK];exact l.env,by rw[hK,hm];exact l.sto⟩,by rw[hK];exact r,e,fun σ' l'=>q σ' ⟨by rw[<- hK];exact l'.env,by rw[<- hK,<- hm];exact l'.sto⟩⟩⟩
theorem Ci(hB:Ev X.env.scope.names scope.names nm cap X.N=true)(qN:X.env.cells=cellsFrom m X.env.scope.names [])(hi:SI X tg d_ fi)(hg:∀cl C s0 H0 fp,SG #[9] tg f)(ht:∀cl C s0 H0 fp,QX #[9] mR t)
  (he:∀cl C s0 H0 fp,SE #[9] qU el) (jH:X.calm=true:=by rfl) (jG:scope.kind=.function:=by rfl) (hs:∀x,foldedSetIterable d_ X.env x=pure x:=by intro _;rfl) :
  SE X #[10] (j3 cap fi f t el):=
 ⟨(Nd jH qN jG hB ⟨hi.h⟩ (fun cl C s0 H0 fp=>Ux (X:=X) rfl rfl (hg cl C s0 H0 fp)) (fun cl C s0 H0 fp=>Uw (X:=X) rfl rfl (ht cl C s0 H0 fp)) (fun cl C s0 H0 fp=>Uv (X:=X) rfl rfl (he cl C s0 H0 fp)) hs).h.imp fun _ _ _ h=>Gy h⟩
theorem qB{x0:Str}{p0 p1:Pos}(I_:SG X (.Name x0 p0) (jD i))(hB:Ev X.env.scope.names scope.names nm cap X.N=true)(qN:X.env.cells=cellsFrom m X.env.scope.names [])(hi:SI X tg d_ fi)(hg:∀cl C s0 H0 fp,SG #[9] tg f)(ht:∀cl C s0 H0 fp,QX #[9] mR t)
  (he:∀cl C s0 H0 fp,SE #[9] qU el) (jH:X.calm=true:=by rfl) (jG:scope.kind=.function:=by rfl) (hs:∀x,foldedSetIterable d_ X.env x=pure x:=by intro _;rfl)
  (Sa:swapsWith #[10] (some (.Name x0 p0)) p1.line X.env=pure true:=by first|rfl|kernel_rfl) :
  SS X (.Assign [.Name x0 p0] #[10] p1) (uu (j3 cap fi f t el) (jD i)):=
 ⟨(B' ⟨I_.h⟩ jH qN jG hB ⟨hi.h⟩ (fun cl C s0 H0 fp=>Ux (X:=X) rfl rfl (hg cl C s0 H0 fp)) (fun cl C s0 H0 fp=>Uw (X:=X) rfl rfl (ht cl C s0 H0 fp)) (fun cl C s0 H0 fp=>Uv (X:=X) rfl rfl (he cl C s0 H0 fp)) hs Sa).h.imp fun D σ H h=>by
  walk_at "2"
  have h':tE X (j3 cap fi f t el) σ H fun x H1=>QT X (jD i) x σ H1 D.nx:=⟨μ,ρ,st,l,RK.stmt h l fun μ1 st1 x v H1 p1 x1 l1 q1 h1=>⟨μ1,ρ,st1,x,ρ.set i (some x),l1,q1,rfl,fun σ' l'=>h1 μ1 σ' H1 (am _) fw.refl l'⟩⟩
  exact Gy h'⟩
end
section
variable{a b:Expr}{x:Str}{fb fc:FE}{fs:FA}
theorem EJ{uH:List V}(hr:∀μ H,RelWs X.K μ H ws uH):Cg X (Tv uH) (ws,none) μ H:=fun i μ' bn H' pp xx S _=>by
 have hl:ws.length=uH.length:=(hr μ H).len
 refine⟨fun w hw=>?_,fun h=>by show uH.length<=i;rw[<- hl];exact h⟩
 obtain⟨v,g1,g2⟩:=(hr μ' H').get hw
 refine⟨(au.mp g1).1,fun y H'' hy=>?_⟩
 obtain⟨rfl,hy⟩:=hy
 rw[g1]at hy;cases hy
 exact⟨fw.refl,S,g2⟩
noncomputable def iE(l:List Nat):List W:=l.map fun c=>.str [c]
theorem xF(l:List Nat)(μ:List Addr)(H:Hp):RelWs X.K μ H (iE l) (jm l):=by
 induction l with
 |nil=>exact .nilI
 |cons a r ih=>exact .consI .str ih
def Lc(fe:FE):FI:=fun ρ st=>(fe ρ st).bind fun x st=>match x with
 |.str l=>.ok (iE l,none) st
 |_=>.bad
theorem Nw(he:SE X e fe):SI X tg e (Lc fe):=⟨(M9 he.h).imp fun σ H R h=>by
 walk_at "2"
 walk_at "1"
 cases x with
 |str z=>exact⟨z,q1.strE,h1 μ1 _ H1 (am _) fw.refl l1.sto (EJ (xF z))⟩
 |_=>exact h1.elim⟩
def gy(fe:FE):FI:=fun ρ st=>(fe ρ st).bind fun x st=>match x with
 |.tup ws=>.ok (ws,none) st
 |.loc n=>(match lstOf st n with
  |some ws=>.ok (ws,some (n,ws)) st
  |none=>.bad)
 |.str l=>.ok (iE l,none) st
 |_=>.bad
theorem k8(he:SE X e fe):SI X tg e (gy fe):=⟨fun aj s σ H Rr I h=>by
 walk_at "2"
 cases e1:fe ρ st with
 |bad=>simp only[gy,e1,R.bind_bad]at h;exact h.elim
 |ex c st1=>
  refine(Gw (tg:=tg) he).h aj s σ H Rr I ⟨μ,ρ,st,l,?_⟩
  simp only[gy,Gv,e1,R.bind_ex]at h ⊢;exact h
 |ok w st1=>
  cases w with
  |tup ws=>
   refine(Gw (tg:=tg) he).h aj s σ H Rr I ⟨μ,ρ,st,l,?_⟩
   simp only[gy,Gv,e1,R.bind_ok]at h ⊢;exact h
  |loc n=>
   refine(Nv (tg:=tg) he).h aj s σ H Rr I ⟨μ,ρ,st,l,?_⟩
   simp only[gy,La,e1,R.bind_ok]at h ⊢;exact h
  |str z=>
   refine(Nw (tg:=tg) he).h aj s σ H Rr I ⟨μ,ρ,st,l,?_⟩
   simp only[gy,Lc,e1,R.bind_ok]at h ⊢;exact h
  |_=>simp only[gy,e1,R.bind_ok]at h;exact h.elim⟩
noncomputable def lT(ws:List W):List W:=(List.range ws.length).map fun(i:Nat)=>W.tup [.int i,ws.getD i .non]
theorem sY{w:W}(h:(lT ws)[i]?=some w):∃y,ws[i]?=some y/\w=.tup [.int i,y]:=by
 unfold lT at h
 rw[aJ]at h
 by_cases hi:i<ws.length
 ·rw[iI hi]at h
  refine⟨ws[i],aq hi,?_⟩
  have:=(bq h).symm
  rw[this]
  show W.tup [W.int i,ws.getD i W.non]=_
  rw[aO,aq hi];rfl
 ·rw[cm (by simpa using hi)]at h;cases h
theorem xG(ws:List W):(lT ws).length=ws.length:=by simp[lT]
def qC(fs:FA):FI:=fun ρ st=>(fs ρ st).bind fun ws st=>match ws with
 |[.tup zs]=>.ok (lT zs,none) st
 |_=>.bad
theorem Dz{wA:List Expr}{kk:Nat}{tp:Pos}(hm:X.mg "enumerate"=none)(ha:SA X [a] fs)(hg:Gl X "enumerate":=by rfl)(hs:starEach [a] X.env=[(false,eval a X.env)]:=by rfl) :
  SI X (.Tuple wA kk tp) (.Call (.Name "enumerate" p) [a] [] pos) (qC fs):=⟨(F5 hm ⟨ha.h⟩ hg hs).h.imp fun σ H R h=>by
 walk_at "2"
 walk_at "1"
 split at h1
 ·rename_i zs
  obtain⟨y,rfl,ry⟩:=q1.one
  obtain⟨p,vs,rfl,hS,r⟩:=ry.tupE
  refine⟨p,rfl,⟨vs,hS⟩,h1 μ1 _ H1 (am _) fw.refl l1.sto fun i μ' bn H' pp xx S _=>⟨fun w hw=>?_,fun hl=>⟨vs,xx _ _ hS,by rw[xG]at hl;rw[<- r.len];exact hl⟩⟩⟩
  obtain⟨y,hy,rfl⟩:=sY hw
  have r':=r.mono pp xx
  obtain⟨v,g1,g2⟩:=r'.get hy
  refine⟨⟨vs,v,xx _ _ hS,g1⟩,fun z H'' hz=>?_⟩
  obtain⟨q,hq,rfl,hH⟩:=hz
  have e:=hH vs v (xx _ _ hS) g1
  subst e
  have ex:=f_.same (K:=X.K) (df hq (.tup [.int i,v]))
  exact⟨ex,S.same (df hq _),.tupI f_.new (.consI .int (.consI (g2.mono (am _) ex) .nilI))⟩
 ·exact h1.elim⟩
def pY(fa:FE):FE:=fun ρ st=>(fa ρ st).bind fun x st=>match x with
 |.int i=>.ok (.int (-i)) st
 |_=>.bad
theorem vq(ha:SE X a fa):SE X (.UnaryOp .USub a pos) (pY fa):=⟨(P1 MQ ha.h).imp fun σ H Q h=>by
 walk_at "2"
 walk_at "1"
 cases x with
 |int k=>exact⟨k,q1.intE,h1 μ1 _ H1 (am _) fw.refl l1.sto .int⟩
 |_=>exact h1.elim⟩
noncomputable def TR(x y:W)(st:List al):R W:=match x,y with
 |.int i,.int j=>.ok (.bl (decide (i<=j))) st
 |.str [c],.str [d]=>.ok (.bl (decide (c<=d))) st
 |_,_=>.bad
end
noncomputable def yL(c:Nat):List Nat->List Nat
 |[]=>[c]
 |d::r=>if c<d then c::d::r else if c=d then d::r else d::yL c r
def gi(l:List Nat):List Nat:=l.foldr yL []
theorem vt{c x:Nat}:∀{l:List Nat},x∈yL c l↔x=c\/x∈l
 |[]=>by simp[yL]
 |d::r=>by
  unfold yL
  split
  ·simp
  ·split
   ·rename_i h;subst h;simp
   ·simp only[aT,vt]
    constructor
    ·rintro(h|h|h)<;>simp[h]
    ·rintro(h|h|h)<;>simp[h]
theorem DA{c:Nat}:∀{l:List Nat},l.Pairwise (· < ·)->(yL c l).Pairwise (· < ·)
 |[],_=>by simp[yL]
 |d::r,h=>by
  obtain⟨h1,h2⟩:=bX.mp h
  unfold yL
  split
  ·rename_i hc
   refine bX.mpr ⟨fun x hx=>?_,h⟩
   rcases aT.mp hx with rfl|hx
   ·exact hc
   ·exact nr hc (h1 x hx)
  ·split
   ·exact h
   ·rename_i hc hd
    refine bX.mpr ⟨fun x hx=>?_,DA h2⟩
    rcases vt.mp hx with rfl|hx
    ·omega
    ·exact h1 x hx
theorem jb{x:Nat}:x∈gi l↔x∈l:=by
 induction l with
 |nil=>simp[gi]
 |cons a r ih=>show x∈yL a (gi r)↔_;rw[vt,ih];simp
theorem jr(l:List Nat):(gi l).Pairwise (· < ·):=by
 induction l with
 |nil=>exact List.Pairwise.nil
 |cons a r ih=>exact DA ih
theorem yM:∀{l m:List Nat},l.Pairwise (· < ·)->m.Pairwise (· < ·)->(∀x,x∈l↔x∈m)->l=m
 |[],[],_,_,_=>rfl
 |[],b::m,_,_,h=>by have:=(h b).mpr (by simp);simp at this
 |a::l,[],_,_,h=>by have:=(h a).mp (by simp);simp at this
 |a::l,b::m,h1,h2,h=>by
  obtain⟨p1,p2⟩:=bX.mp h1
  obtain⟨q1,q2⟩:=bX.mp h2
  have e:a=b:=by
   rcases aT.mp ((h a).mp #[15])with z|z
   ·exact z
   ·rcases aT.mp ((h b).mpr #[15])with y|y
    ·exact y.symm
    ·have:=p1 b y;have:=q1 a z;omega
  subst e
  rw[yM p2 q2 fun x=>?_]
  constructor
  ·intro hx
   rcases aT.mp ((h x).mp (aS _ hx))with z|z
   ·subst z;exact absurd (p1 x hx) (dL _)
   ·exact z
  ·intro hx
   rcases aT.mp ((h x).mpr (aS _ hx))with z|z
   ·subst z;exact absurd (q1 x hx) (dL _)
   ·exact z
noncomputable def Cj(c:List Nat):List (List Nat)->List (List Nat)
 |[]=>[c]
 |d::r=>if c<d then c::d::r else d::Cj c r
def jc(l:List (List Nat)):List (List Nat):=l.foldr Cj []
theorem sZ(c:List Nat):∀l:List (List Nat),(Cj c l).Perm (c::l)
 |[]=>ie _
 |d::r=>by
  unfold Cj
  split
  ·exact ie _
  ·exact((sZ c r).cons d).trans (List.Perm.swap c d r)
theorem gD(l:List (List Nat)):(jc l).Perm l:=by
 induction l with
 |nil=>exact ie _
 |cons a r ih=>exact(sZ a _).trans (ih.cons a)
def Kb:List (List Nat)->Prop:=List.Pairwise fun a b=>¬ b<a
theorem DB(c:List Nat):∀{l:List (List Nat)},Kb l->Kb (Cj c l)
 |[],_=>by simp[Cj,Kb]
 |d::r,h=>by
  obtain⟨h1,h2⟩:=bX.mp h
  unfold Cj
  split
  ·rename_i hc
   refine bX.mpr ⟨fun x hx=>?_,h⟩
   rcases aT.mp hx with rfl|hx
   ·exact fun z=>List.lt_irrefl _ (List.lt_trans z hc)
   ·exact fun z=>h1 x hx (List.lt_trans z hc)
  ·rename_i hc
   refine bX.mpr ⟨fun x hx=>?_,DB c h2⟩
   rcases aT.mp ((sZ c r).mem_iff.mp hx)with rfl|hx
   ·exact hc
   ·exact h1 x hx
theorem vw(l:List (List Nat)):Kb (jc l):=by
 induction l with
 |nil=>exact List.Pairwise.nil
 |cons a r ih=>exact DB a ih
theorem uS:∀{l m:List (List Nat)},Kb l->Kb m->l.Perm m->l=m
 |[],m,_,_,h=>(List.Perm.nil_eq h)
 |a::l,[],_,_,h=>(by have:=h.length_eq;simp at this)
 |a::l,b::m,h1,h2,h=>by
  obtain⟨p1,p2⟩:=bX.mp h1
  obtain⟨q1,q2⟩:=bX.mp h2
  have e:a=b:=by
   rcases aT.mp (h.mem_iff.mp (by simp:a∈a::l))with z|z
   ·exact z
   ·rcases aT.mp (h.mem_iff.mpr (by simp:b∈b::m))with y|y
    ·exact y.symm
    ·exact List.le_antisymm (show a<=b from p1 b y) (show b<=a from q1 a z)
  subst e
  rw[uS p2 q2 (List.perm_cons a |>.mp h)]
theorem vx:∀{zs:List (List Nat)},sortedS (zs.map tx)=true->Kb zs:=by
 have key:∀(zs:List (List Nat)) (p:List Nat),risingS (tx p) (zs.map tx)=true->Kb (p::zs):=by
  intro zs
  induction zs with
  |nil=>intro p _;simp[Kb]
  |cons a r ih=>
   intro p h
   have h':(!ltCps a p&&risingS (tx a) (r.map tx))=true:=h
   rw[dB,hV,ltCps_eq,decide_eq_false_iff_not]at h'
   have u:=ih a h'.2
   refine bX.mpr ⟨fun x hx=>?_,u⟩
   rcases aT.mp hx with rfl|hx
   ·exact h'.1
   ·have:=(bX.mp u).1 x hx
    exact List.not_lt.mpr (List.le_trans (List.not_lt.mp h'.1) (List.not_lt.mp this))
 intro zs h
 cases zs with
 |nil=>exact List.Pairwise.nil
 |cons a r=>exact key r a h
section
variable{a b:Expr}{x:Str}{fb fc:FE}{fs:FA}
def pM(ws:List W)(st:List al):R W:=match ws with
 |[.loc n]=>sU (lstOf st n) fun zs=>sU (nE zs) fun ls=>if ls.length<64 then .ok (.loc st.length) (st++[.lst ((jc ls).map W.str)])else .bad
 |_=>.bad
theorem Ax(ls:List (List Nat)):RelWs K μ H (ls.map W.str) (ls.map fun l=>V.str (tx l)):=by
 induction ls with
 |nil=>exact .nilI
 |cons a r ih=>exact .consI .str ih
theorem Ay:oz X (.builtin "sorted") pM:=⟨fun aj s σ H vs us Q I rv zq=>by
 obtain⟨μ,st,ws,S,r,q⟩:=zq
 unfold pM at q
 split at q
 ·rename_i n
  obtain⟨y,rfl,ry⟩:=r.one
  cases e1:lstOf st n with
  |none=>rw[e1]at q;exact q.elim
  |some zs=>
   rw[e1,eU]at q
   cases e2:nE zs with
   |none=>rw[e2]at q;exact q.elim
   |some ls=>
    rw[e2,eU]at q
    split at q
    ·rename_i c
     obtain⟨a,vs,g,hS,rz⟩:=S.lstOf e1
     obtain⟨b1,f1,rfl⟩:=ry.locE
     rw[g]at f1;cases f1
     have:=vp e2 rz
     subst this
     refine wI.h aj s σ H _ us Q I rv ⟨_,ls,rfl,hS,c,fun zs hp hs l H2 hl eH=>?_⟩
     subst eH
     have ez:zs=jc ls:=uS (vx hs) (vw ls) (hp.trans (gD ls).symm)
     subst ez
     exact q (μ++[l]) _ _ (be _ _) (f_.same (df hl _)) (S.newLst hl (Ax _)) (oy S)
    ·exact q.elim
 ·exact q.elim,fun ws st=>by
 unfold pM
 split
 ·exact t6 fun _=>t6 fun _=>by split<;>trivial
 ·trivial⟩
noncomputable def kU:List W->Option (List Nat)
 |[]=>some []
 |.str [c]::ws=>(kU ws).map (c :: ·)
 |_=>none
theorem rq:∀{ws:List W} {l:List Nat} {vs:List V},kU ws=some l->RelWs K μ H ws vs->vs=jm l
 |[],l,vs,h,r=>by simp only[kU]at h;cases h;exact r.nilE
 |w::ws,l,vs,h,r=>by
  obtain⟨x,xs,rfl,rx,rs⟩:=r.consE
  unfold kU at h
  split at h
  ·rename_i e;cases e
  ·rename_i c R8 e
   cases e
   cases e2:kU ws with
   |none=>rw[e2]at h;cases h
   |some l'=>rw[e2]at h;cases h;rw[rx.strE,rq e2 rs];rfl
  ·cases h
def vy:W->Option (List Nat)
 |.str l=>some l
 |.tup ws=>kU ws
 |_=>none
def rC(fe:FE):FE:=fun ρ st=>(fe ρ st).bind fun x st=>sU (vy x) fun l=>if l.length<4000/\(gi l).length<64 then .ok #[5] (st++[.lst (iE (gi l))])else .bad
theorem ma(hm:m.Nodup)(h:∀c∈m,c∈l):m.length<=l.length:=by
 induction m generalizing l with
 |nil=>exact cn _
 |cons a r ih=>
  obtain⟨h1,h2⟩:=iV.mp hm
  have ha:a∈l:=h a #[15]
  have:=ih h2 (l:=l.erase a) fun c hc=>by
   have:c≠a:=fun z=>h1 (z▸hc)
   exact(List.mem_erase_of_ne this).mpr (h c (aS _ hc))
  rw[List.length_erase_of_mem ha]at this
  have:0<l.length:=List.length_pos_of_mem ha
  simp;omega
theorem EK{p1 p2 Pc KO:Pos}(h1:X.mg "sorted"=none)(h3:X.mg "set"=none)(he:SE X e fe)(hc:X.calm=true:=by rfl)
  (T7:Gl X "sorted":=by rfl) (T4:Gl X "set":=by rfl) (S8:starEach [e] X.env=(false,eval e X.env)::starEach [] X.env:=by rfl):SE X (.Call (.Name "sorted" p1) [.Call (.Name "set" p2) [e] [] KO] [] Pc) (rC fe):=⟨(EC h1 h3 ⟨he.h⟩ hc T7 T4 S8).h.imp fun σ H Q h=>by
 walk_at "2"
 walk_at "1"
 cases e1:vy x with
 |none=>rw[e1]at h1;exact h1.elim
 |some ll=>
  rw[e1,eU]at h1
  split at h1
  ·rename_i c
   refine⟨ll,?_,c.1,fun m hm hsub=>?_,fun m T6 hup hmem a H2 ha eH=>?_⟩
   ·cases x with
    |str z=>cases e1;exact .inl q1.strE
    |tup ws=>obtain⟨p,vs,rfl,hS,r⟩:=q1.tupE;have:=rq e1 r;subst this;exact .inr ⟨p,rfl,hS⟩
    |_=>cases e1
   ·exact gG (ma hm fun c hc=>jb.mpr (hsub c hc)) c.2
   ·subst eH
    have em:m=gi ll:=by
     refine yM ((List.Pairwise.and hup T6).imp fun z=>Nat.lt_of_le_of_ne z.1 z.2) (jr ll) fun x=>?_
     rw[hmem,jb]
    subst em
    exact h1 (μ1++[a]) _ _ (be _ _) (f_.same (df ha _)) (l1.sto.newLst ha (xF (X:=X) _ _ _)) (oy l1.sto)
  ·exact h1.elim⟩
end
noncomputable def W.ty:W->Option String
 |.non=>some "NoneType" | .bl _=>some "bool" | .int _=>some "int" | .str _=>some "str" | .tup _=>some "tuple" | .loc _=>none
noncomputable def Kc(t T:String):Bool:=(t==T)||(t == "bool" && T == "int")
theorem QY{K:Frag}(h:F2 T){w:W}{t:String}(hw:w.ty=some t):PySem.W.kitOne K (.type t) (.type T)=some (Kc t T):=by
 cases w<;>simp only[W.ty]at hw<;>cases hw<;>(rcases h with rfl|rfl|rfl|rfl<;>rfl)
def vz(T:String)(fa:FE):FE:=fun ρ st=>(fa ρ st).bind fun x st=>match x.ty with
 |some t=>.ok (.bl (Kc t T)) st
 |none=>.bad
section
variable{a b:Expr}{x:Str}{fb fc:FE}{fs:FA}
theorem t7{xT:Str}(hm:X.mg "isinstance"=none)(hT:X.mg xT=none)(hv:bootBuiltins xT=some (.type T))(ha:SE X a fa)(hk:F2 T:=by first|exact .inl rfl|exact .inr (.inl rfl)|exact .inr (.inr (.inl rfl))|exact .inr (.inr (.inr rfl)))
  (hg:Gl X "isinstance":=by rfl) (U5:Gl X xT:=by rfl) (hn:xT ≠ "__name__":=by decide) (hd:(xT==("__debug__":Str))=false:=by decide)
  (he:starEach [a,.Name xT p2] X.env=(false,eval a X.env)::starEach [.Name xT p2] X.env:=by rfl) (Ub:starEach [.Name xT p2] X.env=(false,eval (.Name xT p2) X.env)::starEach [] X.env:=by rfl) (p_:(backTo pos (starEach [.Name xT p2] X.env)).any (·.1)=false:=by rfl) :
  SE X (.Call (.Name "isinstance" p) [a,.Name xT p2] [] pos) (vz T fa):=by
 have C:i' X (.builtin "isinstance") (fun xs H Q=>∃x μ st w t,xs=[x,.ty T]/\jk X.K X.mg μ st H/\bG X.K μ H w x/\w.ty=some t/\Q (.bl (Kc t T)) H):=by
  intro aj s σ H xs us Q I r h
  obtain⟨x,μ,st,w,t,rfl,S,rx,ht,q⟩:=h
  obtain⟨u,u2,rfl,r1,r2⟩:=cL.two r
  obtain rfl:u2=.type T:=r2
  have e:=QY (K:=X.K) hk ht
  cases w with
  |tup ws=>
   cases ht
   obtain⟨p,vs,rfl,hS,_⟩:=rx.tupE
   cases(show u=Value.ref p from r1)
   obtain⟨bI,_,hp,_⟩:=I.tuple hS
   obtain⟨o,h1,h2,_⟩:=hp
   exact up (kia_one PySem.W.kitx_tuple I.kIn ⟨o,h1,h2⟩ e (fun z=>nomatch z) fun tk hk=>⟨.bl _,H,I.tok tk,rfl,q⟩)
  |non=>cases ht;cases rx.nonE;exact up (pJ I r1 .non e fun tk hk=>⟨.bl _,H,I.tok tk,rfl,q⟩)
  |bl b=>cases ht;cases rx.blE;exact up (pJ I r1 (.bl _) e fun tk hk=>⟨.bl _,H,I.tok tk,rfl,q⟩)
  |int b=>cases ht;cases rx.intE;exact up (pJ I r1 (.int _) e fun tk hk=>⟨.bl _,H,I.tok tk,rfl,q⟩)
  |str b=>cases ht;cases rx.strE;exact up (pJ I r1 (.str _) e fun tk hk=>⟨.bl _,H,I.tok tk,rfl,q⟩)
  |loc b=>cases ht
 refine⟨(zY C hg hm boot_isinstance (yr ha.h (yr (Jq U5 hT hv (v:=.ty T) rfl hn hd) FF Ub) he) #[12] #[12] he p_).imp fun σ H Q h=>?_⟩
 walk_at "2"
 walk_at "1"
 cases ht:x.ty with
 |none=>rw[ht]at h1;exact h1.elim
 |some t=>
  rw[ht]at h1
  exact⟨v,μ1,st1,x,t,rfl,l1.sto,q1,ht,h1 μ1 _ H1 (am _) fw.refl l1.sto .bl⟩
theorem Gz{w:World}{k:Nat}{st:Stmt}{f:Addr}{ps:List Str}
  (F:iC K x x st f fd) (hm:mg x=some (.ref f)) (hn:ps.length=n)
  (hb:∀(kV sE pm:Value) (an:Option Addr) (fA ct:Value) (us:List Value),us.length=ps.length->bindArgs (fnOf x x (ig st) (gB st) (aQ st) .none kV sE pm an fA ct) ⟨us,[]⟩=pure (ps.zip us)) :
  bY P w K mg base k x n (fun _ _=>.bad):=yK F hm hn hb ⟨fun vs H Q E h=>by rw[hn];exact h.1,fun _ _ _ _ _ _ _ _ _ _ _ _ _ _ h=>by obtain⟨_,_,_,_,_,_,z⟩:=h;exact z.elim⟩
end
def Ld(F:List W->List al->R W):Prop:=∀ns:List Int,ns.length<=63->∃bn,F [.loc 0] [.ro (ns.map W.int)]=.ok (.bl true) bn
theorem walkW{l:PySem.W.OpenLaw}{k:Nat}{q:Program}{yj:List Str}{d:DefRec}{K:Params->Frag}{x:Str}(hn:l.most=some 63)(R7:d.params.defaults=[])(hr:iK k callerA)
  (hY:∀(w:World) (h:Heap),YP w h->(K w.params).In h)
  (F:∀(w:World) (mg:Str->Option Value) (fa:Addr) (h:Heap),(K w.params).In h->h.Ns mainGlobals mg->mg d.name=some (.ref fa) ->
   ∃fd:FuncData,fd.scope.names.lookup x=some .local/\(∀(s:Shared) (u:Value),BindsTo s fd ⟨[u],[]⟩ [(x,u)])/\∀base:Heap,(K w.params).In base->base.Ns mainGlobals mg->c6 l.prog w (K w.params) mg base (hZ l.prog w) k fa fd [x] (iD (K w.params) mg 1 G))
  (ok:Ld G):PySem.W.WalkO q yj XP YP l.row.toRowW d [] (fun f vs=>PySem.call f vs):=by
 refine L2.walk_of (n:=63) (k:=k) (x:=x) (CX:=fun w=>hZ l.prog w)
  (sp:=fun w=>fun vs H Q E=>∃(a:Addr) (ns:List Int),vs=[.ref a]/\sF (K w.params) H a (ns.map V.int)/\JM H/\ns.length<=63/\∀H',Q (.bl true) H') hn #[12] R7 hr hY (fun w mg fa h h1 h2 h3=>?_)
  (fun w H a ns hl hO hS=>⟨a,ns,rfl,hS,hO,hl,fun _=>rfl⟩) fun w H s e s' z=>?_
 ·obtain⟨fd,hlo,hb,ho⟩:=F w mg fa h h1 h2 h3
  refine⟨fd,hlo,hb,fun base kb nb=>(ho base kb nb).imp fun vs H Q E hh=>?_⟩
  obtain⟨a,ns,rfl,hS,hO,hl,q⟩:=hh
  obtain⟨bn,e⟩:=ok ns hl
  have BB:Su (K w.params) H a (ns.map V.int):=by
   rcases hS with(z|⟨o,z⟩)|z
   ·rcases hO a with y|⟨o,xs,y⟩
    ·rw[z]at y;cases y
    ·rw[z]at y;cases y
   ·exact .inl ⟨o,z⟩
   ·exact .inr z
  have hr:RelWs (K w.params) [a] H (ns.map W.int) (ns.map V.int):=by
   clear hS BB e hl
   induction ns with
   |nil=>exact .nilI
   |cons n r ih=>exact .consI .int ih
  refine⟨rfl,[a],[.loc 0],[.ro (ns.map W.int)],⟨fun i j b ci cj c1 c2 r1 r2 m1 m2=>?_,rfl,fun i c b c1 c2=>?_⟩,.consI (.locI rfl) .nilI,?_⟩
  ·cases i with
   |zero=>cases c1;cases r1
   |succ i=>simp at c1
  ·cases i with
   |zero=>cases c1;cases c2;exact⟨_,BB,hr⟩
   |succ i=>simp at c1
  ·rw[e]
   intro μ' v H' _ _ _ rv
   rw[rv.blE];exact q H'
 ·obtain⟨_,_,_,_,_,_,z,_⟩:=z
  exact z
abbrev Kd:List Value:=[.type "ValueError",.type "Exception",.type "BaseException",.type "object"]
abbrev DC:String:="ValueError.__new__"
def Nx(K:Frag)(C:Addr):List Value:=match K.lookup C with
 |some ⟨_,_,.cls cd,_⟩=>cd.mro
 |_=>[]
theorem Ke{UL:List Value}{IB:String}(X:K.In h)(q:excIn K C UL IB=true) :
  ∃bm N nm qn bs hdct sn sub ab col dd k0 k1 k2 k3 k5 mN,h.get? C=some (excClassObj nm qn C N bs bm hdct sn sub ab col dd k0 k1 k2 k3 k5 IB)/\h.Ns N mN/\mN "__init__"=none/\OwnTail h UL bm/\Nx K C=.ref C::bm:=by
 have q0:=q
 unfold excIn at q
 split at q
 ·rename_i dd cd sl ho
  split at q
  ·rename_i C' bm k0 k1 k2 k3 n k5 hm hs
   simp only[dB,dg,hV]at q
   obtain⟨⟨⟨⟨⟨rfl,rfl⟩,hdel⟩,ht⟩,hok⟩,hni⟩:=q
   have hmro:Nx K C'=cd.mro:=by unfold Nx;rw[ho]
   obtain⟨nm,bs,mro,ns,qn,hd,sn,sub,ab,col,del⟩:=cd
   dsimp only at hm hdel hok hni hmro
   subst hm hdel
   have hsl:sl=#[k0,k1,k2,k3,some (.builtin n),k5]:=by
    obtain⟨l⟩:=sl
    simp only at hs
    rw[hs]
   subst hsl
   exact⟨bm,ns,nm,qn,bs,hd,sn,sub,ab,col,dd,k0,k1,k2,k3,k5,_,X _ _ ho,.of_isNs (PySem.W.isNs_of_in X hok),PySem.W.nsMap_none_of_in X hok hni,PySem.W.tail_of_in X ht,hmro⟩
  ·cases q
 ·cases q
structure Kf(K:Frag)(mg:Str->Option Value)(x:Str):Prop where
 ex:∃C,mg x=some (.ref C)/\excIn K C Kd DC=true
def vA(c:Str):FS:=fun ρ st=>.ex c ρ st
theorem rD{x:Str}{np dG pos p':Pos}{z:Str}{j:Nat}(hC:Kf X.K X.mg x)(jH:X.calm=true:=by rfl)(hg:Gl X x:=by rfl)(hd:(x==("__debug__":Str))=false:=by decide)
  (he:starEach [.Constant (.str z) j p'] X.env=(false,eval (.Constant (.str z) j p') X.env)::starEach [] X.env:=by rfl):SS X (.Raise (some (.Call (.Name x np) [.Constant (.str z) j p'] [] dG)) none pos) (vA x):=⟨by
 intro aj s σ H D I h
 walk_at "2"
 obtain⟨C,hm,q⟩:=hC.ex
 have hh:X.A.handled=none:=I.ok.hd jH
 obtain⟨bm,N,nm,qn,bs,hdct,sn,sub,ab,col,dd,k0,k1,k2,k3,k5,mN,g1,g2,g3,g4,g5⟩:=Ke I.kIn q
 refine wpAny_Raise_call_subT (C:=C) (nm:=nm) (q:=qn) (N:=N) (bs:=bs) (bm:=bm) (hdct:=hdct) (sn:=sn) (sub:=sub) (ab:=ab) (col:=col) (dd:=dd) (k0:=k0) (k1:=k1) (k2:=k2) (k3:=k3) (k5:=k5)
  F.excBase_ValueError (mN:=mN) (g4.hasType F.excBase_ValueError.hasBase) hh (by rw[he];rfl) g3 (uO I hg hm ⟨rfl,?_⟩ hd)
 rw[he]
 refine ic ?_
 show wpAny _ _ (spliced ((false,eval (.Constant (.str z) j p') X.env)::[])) _ _ s
 refine eP (wpAny_Constant_str (fZ ?_))
 refine⟨rfl,(by show 1<=sizeLine;decide),g1,g2,g4,fun h' e hx=>?_⟩
 have I2:bT X aj σ H { s with heap:=h',toks:=s.toks+1 }:=I.kept hx.keeps
 have en:H e=none:=by
  cases hu:H e with
  |none=>rfl
  |some u=>
   obtain⟨ob,hob⟩:=(I.hok e u hu).ex
   have:=hx.new
   rw[show({ s with toks:=s.toks+1 }:Shared).heap=s.heap from rfl]at this
   rw[hob]at this;cases this
 obtain⟨t,Px,ht2,ht3⟩:=hx.there
 have hin:∀env∈X.stack,∀b,env.frame=some b->b∈uN X.stack:=fun env he b hb=>lr.mpr ⟨env,he,hb⟩
 refine h aj μ σ H (.ref e) _ (am _) fw.refl l ⟨I2,e,.ref C,t,hideAll s.heap (uN X.stack),rfl,hm,en,fun b o hb=>hx.keeps b o (PySem.W.of_hideAll _ hb),?_,?_,.inr (.inl ⟨_,_,Px,rfl,rfl,rfl,rfl,rfl⟩),fun b o hb hr=>?_⟩
 ·cases hq:(hideAll s.heap (uN X.stack)).get? e with
  |none=>rfl
  |some o=>have z:=PySem.W.of_hideAll _ hq;have y:=hx.new;rw[show({ s with toks:=s.toks+1 }:Shared).heap=s.heap from rfl,z]at y;cases y
 ·exact(PySem.W.funFrames_hide I.stack hin).of_keeps fun b o hb _=>⟨o,hx.keeps b o hb,rfl⟩
 ·have old:∀o0,s.heap.get? b=some o0->s.heap.get? b=some o:=fun o0 h0=>by
   have h1:h'.get? b=some o0:=hx.keeps b o0 h0
   have h2:h'.get? b=some o:=hb
   rw[h1]at h2;rw[<- h2];exact h0
  have kJ:∀o0,s.heap.get? b=some o0->b∉uN X.stack->(hideAll s.heap (uN X.stack)).get? b=some o:=fun o0 h0 hn=>PySem.W.hideAll_get _ (old o0 h0) hn
  rcases hr with hr|⟨⟨o0,h0⟩,hf,hbx⟩|⟨⟨y,hy⟩,hf⟩|⟨pp,hp,rfl⟩
  ·cases hu:H b with
   |none=>exact absurd hu hr
   |some u=>
    obtain⟨ob,hob⟩:=(I.hok b u hu).ex
    exact kJ ob hob fun z=>by have:=I.stkFree b z;rw[hu]at this;cases this
  ·obtain⟨o1,h1⟩:=I.base.there b o0 h0 hbx
   refine kJ o1 h1 fun z=>?_
   rcases aT.mp (I.stkSub b z)with z|z
   ·rw[z]at h0;exact absurd (aP (aH h0) I.ok.above) (dL _)
   ·exact hf z
  ·obtain⟨v,ov,hov,_⟩:=I.cell y b hy
   exact kJ ov hov hf
  ·obtain⟨p1,p2,p3,p4,_⟩:=I.pin pp hp
   refine kJ _ p1 fun z=>?_
   rcases aT.mp (I.stkSub _ z)with z|z
   ·exact p3 z
   ·exact p4 z⟩
section
end
open AutoSeq1 (wpAny_loadPart')
section
end
section
variable{a b:Expr}{fb:FE}{fs:FA}
end
section
variable{w:World}{g:Array GenState}{d:Drawn}{t:Nat}{os:OsState}{a:Addr}{o:Obj}
 {nm q:Str} {C N:Addr} {bs bm:List Value} {hdct:Bool} {sn:List Str} {sub:List Value} {ab:Bool} {col:Option Bool} {dd:Option Addr} {k0 k1 k2 k3 k5:Option Value} {IB:String} {K:Frag}
end
end L2
namespace L2
open PySem PySem.Spec PyProof.Rows
section
variable{a:Expr}
end
end L2
namespace L2
open PySem PySem.Spec PyProof.Rows
section
variable{a:Expr}{k:Nat}
end
end L2
namespace L2
open PySem PySem.Spec PyProof.Rows
section
end
section
theorem vB(l:List α):∀(k:Nat) (iS:List α),List.foldl (fun x1 x2=>x1++x2) iS.toArray (List.replicate k l.toArray)=(iS++(List.replicate k l).flatten).toArray
 |0,iS=>by simp
 |k+1,iS=>by
  have e:iS.toArray++l.toArray=(iS++l).toArray:=by simp
  rw[List.replicate_succ,List.foldl_cons,e,vB l k (iS++l),List.replicate_succ,l6,ak]
theorem Ny(l:List Nat)(n:Int):Txt.mul (tx l) n=tx (List.replicate n.toNat l).flatten:=by
 unfold Txt.mul
 by_cases h:n<1
 ·rw[aE h,show n.toNat=0 by omega];rfl
 ·rw[aL h]
  split
  ·rename_i hc
   rw[Bool.or_eq_true,dg,dg,i6]at hc
   rcases hc with rfl|hc
   ·simp
   ·have:l=[]:=List.length_eq_zero_iff.mp hc
    subst this
    simp
  ·have:=vB l n.toNat []
   rw[eW]at this
   show Str.mk _=Str.mk _
   congr 1
theorem Kg:oo X (binaryOp .Mult) (fun x y H Q=>∃(l:List Nat) (k:Int),x=.str (tx l)/\y=.int k/\-(2^62)<=k/\k<2^62/\l.length*k.toNat<=1000000/\l.length*k.toNat≠1/\Q (.str (tx (List.replicate k.toNat l).flatten)) H):=by
 intro aj s σ H x y v u Q I rx ry h
 obtain⟨l,k,rfl,rfl,h1,h2,h3,h31,q⟩:=h
 obtain⟨t,rfl⟩:=rx
 obtain⟨t',rfl⟩:=ry
 refine up (SB.mul ⟨?_,?_,?_⟩ fun t2 tk hk=>⟨.str _,H,I.tok _,⟨⟨t2,fun e=>absurd e ?_⟩,?_⟩,q⟩)
 ·simp;omega
 ·intro hk hx
  rw[i6]
  intro hg
  have hk1:1<=k:=by omega
  have:k*((2^63-1)/k)<=2^63-1:=Int.mul_ediv_self_le #[0]
  have h4:(2^63-1)<k*(l.length:Int):=by
   have:=Int.lt_mul_of_ediv_lt (a:=2^63-1) (b:=(l.length:Int)) (c:=k) #[0] hg
   rw[nC];exact this
  have h5:k*(l.length:Int)=((l.length*k.toNat:Nat):Int):=by
   rw[iX,Int.toNat_of_nonneg #[0],nC]
  rw[h5]at h4
  omega
 ·intro hk hx
  rw[i6]
  unfold Builtin.Str.tooLong
  rw[aW]
  have:(1000000:Nat)<=sizeLine:=by decide
  omega
 ·rw[i6];simpa[Nat.mul_comm]using h31
 ·rw[Ny]
def iB:W->W->List al->R W
 |.int i,.int j,st=>if Nm i j then .ok (.int (i*j)) st else .bad
 |.str l,.int k,st=>if -(2^62)<=k/\k<2^62/\l.length*k.toNat<=my/\l.length*k.toNat≠1 then .ok (.str (List.replicate k.toNat l).flatten) st else .bad
 |_,_,_=>.bad
theorem js:wM X (binaryOp .Mult) iB:=⟨fun aj s σ H x y v u Q I rv ru zq=>by
 obtain⟨μ,st,wx,wy,S,rx,ry,q⟩:=zq
 cases wx with
 |int i=>
  cases wy with
  |int j=>
   have q':Fd X μ H Q (QJ (.int i) (.int j) st):=q
   exact QL.h aj s σ H x y v u Q I rv ru ⟨μ,st,.int i,.int j,S,rx,ry,q'⟩
  |_=>exact q.elim
 |str l=>
  cases wy with
  |int k=>
   simp only[iB]at q
   split at q
   ·rename_i cc
    exact Kg aj s σ H x y v u Q I rv ru ⟨l,k,rx.strE,ry.intE,cc.1,cc.2.1,cc.2.2.1,cc.2.2.2,rj S q⟩
   ·exact q.elim
  |_=>exact q.elim
 |_=>cases wy<;>exact q.elim,fun x y st=>by
 unfold iB
 repeat' split
 all_goals trivial⟩
end
section
variable{x:Str}{fs:FA}
end
section
variable{w:World}
theorem vC:∀(l:List Nat) (vs:List Value),vs.length=l.length->(∀(j:Nat) (v:Value),vs[j]?=some v->∃c u,l[j]?=some c/\v=.str (tx [c]) u)->StrsAre vs (l.map fun c=>tx [c])
 |[],[],_,_=>.nil
 |c::l,v::vs,hl,h=>by
  obtain⟨d,u,e,rfl⟩:=h 0 v rfl
  cases e
  exact .cons _ _ (vC l vs (Nat.succ.inj hl) fun j v hj=>h (j+1) v hj)
 |[],_::_,hl,_=>nomatch hl
 |_::_,[],hl,_=>nomatch hl
noncomputable abbrev Nz(iS:Array Value)(c:Nat):Obj:={ cls:=.type "list",data:=.seq iS c }
theorem GA{R:Result->Shared->Prop}{I:Addr}{wr:List Addr}{n0:Nat}{P:Nat->Value->Prop}{St:Nat->Heap->Prop}(W:Walks prog w A.in1 I fp wr n P St)(few:n<=sizeLine)(D:Addr)(hD:D∉fp)(res:Value)
  (Bz:∀i (s:Shared) (Q:Option Value->Shared->Prop) (E:Value->Shared->Prop),n0<=s.toks->i<n->St i s.heap ->
   (∀v h' tk,s.toks<=tk->iL tk [v]->P i v->St (i+1) h'->(∀b o,b∉wr->s.heap.get? b=some o->h'.get? b=some o)->Q (some v) { s with heap:=h',toks:=tk })->wpAny #[8] A.in1 (pyNext (.ref I)) Q E s) :
  ∀(m i:Nat) (z:Shared) (D5:Array Value) (c:Nat),i+m=n->n0<=z.toks->St i z.heap->z.heap.get? D=some (Nz D5 c)->ItemsOf P D5 i->iL z.toks D5.toList ->
   (∀g tk got' c',z.toks<=tk->(∀b o,b≠D->b∉wr->z.heap.get? b=some o->g.get? b=some o)->g.get? D=some (Nz got' c')->ItemsOf P got' n->iL tk got'.toList->R (.ok (.ret res)) { z with heap:=g,toks:=tk }) ->
   codeAny #[8] A (.builtin "list.extend.loop" ⟨[.ref D,.ref I,res],[]⟩) R z:=by
 have nw:D∉wr:=fun h=>hD (W.sub _ h)
 intro m
 induction m with
 |zero=>
  intro i z D5 c e hn0 st hd ac ta q
  obtain rfl:i=n:=e
  refine dN PySem.F.entry_extend_loop ?_
  rw[cY PySem.F.plain_extend_loop _]
  show wpAny _ A.in1 (pyNext (.ref I) >>= _) _ _ z
  exact af (up (W.done z _ _ st fun g tk kp kW=>ay (q g tk D5 c kW (fun b o _ hb h=>kp b o hb h) (kp D _ nw hd) ac (ta.up kW))))
 |succ m ih=>
  intro i z D5 c e hn0 st hd ac ta q
  refine dN PySem.F.entry_extend_loop ?_
  rw[cY PySem.F.plain_extend_loop _]
  show wpAny _ A.in1 (pyNext (.ref I) >>= _) _ _ z
  refine af (Bz i z _ _ hn0 #[0] st fun v g tk kW tv hP bn kp=>?_)
  have hd':=kp D _ nw hd
  show wpAny _ A.in1 (updateSeq D (·.push v) >>= _) _ _ _
  refine af (nV hd' rfl (ay ⟨fv PySem.F.plain_extend_loop _,ih (i+1) _ (D5.push v) _ #[0] (aN hn0 kW) (W.frame _ _ _ bn fun b hb o h=>?_) (dH _ hd' rfl) (ac.push hP) (fun x t hx=>?_) fun g2 tk2 got2 c2 hle2 kp2 hd2 ac2 ta2=>?_⟩)
   (by rw[ac.1];omega) (by show(D5.push v).size<=sizeLine+1;rw[Array.size_push,ac.1];omega))
  ·exact(cK _ _ (fun h:D=b=>hD (by rw[h];exact hb))).trans h
  ·rw[lY,aX]at hx
   rcases hx with hx|hx
   ·exact ta.up kW x t hx
   ·exact tv x t hx
  ·exact q g2 tk2 got2 c2 (aN kW hle2) (fun b o hb hw h=>kp2 b o hb hw ((cK _ _ (Ne.symm hb)).trans (kp b o hw h))) hd2 ac2 ta2
theorem yN{t:Tok}{Q:List Value->Shared->Prop}(E7:0<s.toks)(hh:A.handled=none)(few:l.length<=sizeLine)
  (q:∀g tk (D5:Array Value),s.toks<=tk->(∀b o,s.heap.get? b=some o->g.get? b=some o)->ItemsOf (SignAt (tx l)) D5 (tx l).cps.size->iL tk D5.toList->Q D5.toList { s with heap:=g,toks:=tk }):wpAny #[8] A (collect (.str (tx l) t)) Q E s:=by
 have hn:(tx l).cps.size=l.length:=by simp[tx]
 unfold collect
 refine af (pD (dN entry_proto_collect' ?_))
 rw[cY PySem.F.plain_proto_collect _]
 show wpAny _ A.in1 (newList [] >>= fun d=>again (.builtin "list.__iadd__" ⟨[d,.str (tx l) t],[]⟩)) _ _ s
 refine af (cz (ay ⟨fv PySem.F.plain_list_iadd _,dN entry_list_iadd' ?_⟩))
 rw[cY PySem.F.plain_list_iadd _]
 show wpAny _ A.in1 (Builtin.List.listExtendWith (.ref s.heap.objs.size) (.str (tx l) t) (.ref s.heap.objs.size)) _ _ _
 unfold Builtin.List.listExtendWith
 refine af (iy (T:="str") (v:=.str (tx l) t) rfl ?_)
 have e1:Builtin.List.listSameRef (.ref s.heap.objs.size) (.str (tx l) t)=false:=rfl
 have e2:(Value.type "str" == Value.type "list")=false:=by decide
 have e3:(Value.type "str" == Value.type "tuple")=false:=by decide
 simp only[e1,e2,e3,mq,fJ,j_]
 generalize hL:s.heap.objs.size=L
 have gL:(s.heap.push { cls:=.type "list",data:=.seq ([]:List Value).toArray }).get? L=some (Nz #[] 0):=by rw[<- hL];exact aC _ rfl
 have z1:(s.heap.push { cls:=.type "list",data:=.seq ([]:List Value).toArray }).objs.size=L+1:=by rw[bv,hL]
 have kp1:∀b o,s.heap.get? b=some o->(s.heap.push { cls:=.type "list",data:=.seq ([]:List Value).toArray }).get? b=some o:=fun b o e=>av _ e
 generalize s.heap.push { cls:=.type "list",data:=.seq ([]:List Value).toArray }=g1 at gL z1 kp1 ⊢
 have kJ:∀(ob:Obj) (ty:String),(∀A:Around,A.handled=none->Walks prog w A (L+1) [L+1] [L+1] (tx l).cps.size (SignAt (tx l)) (fun i h=>h.IsStrIter (L+1) ty (tx l) t i))->(g1.push ob).IsStrIter (L+1) ty (tx l) t 0 ->
   (∀{A:Around} {s:Shared} {i c:Nat} {Q:Option Value->Shared->Prop} {E:Value->Shared->Prop},s.heap.IsStrIter (L+1) ty (tx l) t i->(tx l).cps[i]?=some c ->
    (∀h',h'.IsStrIter (L+1) ty (tx l) t (i+1)->Heap.SameBut (L+1) s.heap h'->Q (some (.str ⟨#[c]⟩ s.toks)) { s with heap:=h',toks:=s.toks+1 })->wpAny #[8] A (pyNext (.ref (L+1))) Q E s) ->
   codeAny #[8] A (.builtin "list.extend.loop" ⟨[.ref L,.ref (L+1),.ref L],[]⟩) (wants (fun r s'=>wpAny #[8] A (match r with|.ref a=>(do match (<- load a).data with|.seq xs _=>pure xs.toList|_=>unsupported "internal:collect")|_=>unsupported "internal:collect") Q E s') E) { s with heap:=g1.push ob }:=fun ob ty W h0 next=>by
  refine GA (n0:=s.toks) (W A.in1 (by simpa using hh)) (by rw[hn];exact few) L #[15] (.ref L) (fun i s' Q E hn0 hi st q=>?_) (tx l).cps.size 0 _ #[] 0 #[0] (az _) h0 (av _ gL) (ItemsOf.nil _) (fun x u hx=>by simp at hx) fun g tk D5 c kW kp hd ac ta=>?_
  ·obtain⟨c,hx⟩:∃c,(tx l).cps[i]?=some c:=⟨_,eM hi⟩
   refine next st hx fun h' bn hs=>q _ h' (s'.toks+1) (bp _) (fun x u hx' _=>?_) ⟨c,_,hx,rfl⟩ bn fun b o hb e=>hs.extBut b o (fun z=>hb (by simp[z])) e
   rw[a9]at hx'
   cases hx'
   exact⟨aP E7 hn0,b7 _⟩
  ·refine af (wpAny_load hd (ay (q g tk D5 kW (fun b o e=>kp b o ?_ ?_ (av _ (kp1 b o e))) ac ta)))
   ·rw[<- hL];exact bd (aH e)
   ·intro hm
    rw[a9]at hm
    have:=aH e
    rw[hL,hm]at this
    have this:L+1<L:=this
    omega
 have hint:∀(s':Shared) (Q':Bool->Shared->Prop) (E':Value->Shared->Prop),Q' false s'->wpAny #[8] A.in1 (Builtin.List.listLengthHint (.str (tx l) t)) Q' E' s':=fun s' Q' E' y=>by
  unfold Builtin.List.listLengthHint
  refine af (wpAny_specialOf (T:="str") (v:=.str (tx l) t) rfl PySem.F.str_len ?_)
  wp_delta
  refine af (gp (T:="str") (v:=.str (tx l) t) (b:=true) rfl (by rw[eu];kernel_rfl) ?_)
  show wpAny _ A.in1 (typeOf (Value.str (tx l) t) >>= _) _ _ _
  exact af (iy (T:="str") (v:=.str (tx l) t) rfl (ay y))
 have key:∀(ob:Obj),codeAny #[8] A (.builtin "list.extend.loop" ⟨[.ref L,.ref (L+1),.ref L],[]⟩) (wants (fun r s'=>wpAny #[8] A (match r with|.ref a=>(do match (<- load a).data with|.seq xs _=>pure xs.toList|_=>unsupported "internal:collect")|_=>unsupported "internal:collect") Q E s') E) { s with heap:=g1.push ob }->_:=fun ob h=>h
 cases ha:(tx l).cps.all (· < 128)
 ·refine af (lX ha (af (dm (hint _ _ _ ?_))))
  show wpAny _ _ _ _ _ _
  rw[show Shared.heap { s with heap:=g1 }=g1 from rfl,z1]
  rw[aL #[12]]
  exact ay ⟨fv PySem.F.plain_extend_loop _,kJ _ "str_iterator" (fun A hA=>Walks.strWide hA _ (tx l) t) ⟨_,by rw[<- z1];exact aC _ rfl,rfl,rfl⟩ fun a b c=>jy a b c⟩
 ·refine af (lD ha (af (dm (hint _ _ _ ?_))))
  rw[show Shared.heap { s with heap:=g1 }=g1 from rfl,z1]
  rw[aL #[12]]
  exact ay ⟨fv PySem.F.plain_extend_loop _,kJ _ "str_ascii_iterator" (fun A hA=>Walks.strAscii hA _ (tx l) t) ⟨_,by rw[<- z1];exact aC _ rfl,rfl,rfl⟩ fun a b c=>jg a b c⟩
theorem Az{t:Tok}(E7:0<s.toks)(few:l.length<64)(hh:A.handled=none)
  (q:∀(s1:Shared) (g1:Heap) (out:Array Value) (ss:List Str) (e:Nat),(∀b o,s.heap.get? b=some o->s1.heap.get? b=some o)->s1.gens=s.gens->s1.drawn=s.drawn->s1.os=s.os->(∀b o,s1.heap.get? b=some o->g1.get? b=some o)->g1.get? s1.heap.objs.size=some (seqObj "list" out e) ->
   s.toks<=s1.toks->iL s1.toks out.toList->StrsAre out.toList ss->ss.Perm (l.map fun c=>tx [c])->sortedS ss=true->Q (.ref s1.heap.objs.size) { s1 with heap:=g1 }):wpAny #[8] A (call (.builtin "sorted") [.str (tx l) t]) Q E s:=by
 have hn:(tx l).cps.size=l.length:=by simp[tx]
 apply lJ kind_sorted plain_sorted entry_sorted (args_sorted1 _)
 show wpAny _ _ (checkCount "sorted" 1 1 _ >>= _) _ _ _
 refine af (ay (af (yN E7 (by simpa using hh) (by rw[j9];omega) (fun g tk iS kW kp ha ta=>?_))))
 generalize hs1:({ s with heap:=g,toks:=tk }:Shared)=s1
 have eg:s1.gens=s.gens:=by rw[<- hs1]
 have ed:s1.drawn=s.drawn:=by rw[<- hs1]
 have eo:s1.os=s.os:=by rw[<- hs1]
 have kp:∀b o,s.heap.get? b=some o->s1.heap.get? b=some o:=by rw[<- hs1];exact kp
 have kW:s.toks<=s1.toks:=by rw[<- hs1];exact kW
 have ta:iL s1.toks iS.toList:=by rw[<- hs1];exact ta
 have sm:StrsAre iS.toList (l.map fun c=>tx [c]):=by
  refine vC l _ (by rw[eD,ha.1,hn]) fun j v hj=>?_
  obtain⟨c,u,hc,e⟩:=ha.2 j v (by simpa using hj)
  exact⟨c,u,by simpa[tx]using hc,e⟩
 have hvl:iS.toList.length<64:=by rw[eD,ha.1,hn];exact few
 refine af (wpAny_newList ?_ (by rw[j9];omega))
 have oL:(s1.heap.push (seqObj "list" iS.toList.toArray 0)).get? s1.heap.objs.size=some (seqObj "list" iS.toList.toArray 0):=aC _ rfl
 refine af (dm (b8 slot_list_sort ⟨_,oL,rfl⟩ entry_list_sort (list_sort_treeK qu oL sm.keysOf (fun a b r e=>sB (by rw[<- e];exact sm)) hvl fun st a1 a2=>⟨_,rfl,?_⟩) (args_list_sort _)))
 obtain⟨ss,h1,h2,h3⟩:=pz sm a1 a2
 obtain⟨e,he⟩:=sortedHeap_at (out:=(arrOf st).map (·.2)) oL
 refine ay ⟨_,rfl,q s1 _ _ ss e kp eg ed eo (fun b o hb=>?_) he kW (ta.sub (vd a1)) h1 h2 h3⟩
 rw[sortedHeap_old (bd (aH hb)) (by rw[bv];exact cU (aH hb))]
 exact av _ hb
end
section
def kh(ws:List W)(st:List al):R W:=match ws with
 |[.str l]=>if l.length<64 then .ok (.loc st.length) (st++[.lst ((jc (l.map fun c=>[c])).map W.str)])else .bad
 |[.loc n]=>pM [.loc n] st
 |_=>.bad
theorem yO(hc:X.calm=true:=by rfl):oz X (.builtin "sorted") kh:=⟨fun aj s σ H vs us Q I rv zq=>by
 obtain⟨μ,st,ws,S,r,q⟩:=zq
 unfold kh at q
 split at q
 ·rename_i l
  split at q
  ·rename_i c
   obtain⟨y,rfl,ry⟩:=r.one
   have:=ry.strE;subst this
   obtain⟨u,rfl,ru⟩:=oq rv
   obtain⟨t,rfl⟩:=ru
   refine Az I.pos c (I.ok.hd hc) fun s1 g1 out ss e kp eg ed eo k1 gL kW ta sm hp hsr=>?_
   have es:s1={ s with heap:=s1.heap,toks:=s1.toks }:=by cases s1;cases s;cases eg;cases ed;cases eo;rfl
   generalize s1.heap=g0,s1.toks=tk at es kp k1 gL kW ta ⊢
   subst es
   have I2:bT X aj σ H { s with heap:=g0,toks:=tk }:=I.kept2 (d':=s.drawn) fun b o e=>kp b o e
   have CY:H g0.objs.size=none:=I2.hok.fresh (az _)
   have hmap:(ss.map fun z=>z.cps.toList).map tx=ss:=by
    rw[b9]
    have:(tx∘fun z:Str=>z.cps.toList)=id:=funext fun z=>Dn z
    rw[this,jh]
   have hperm:(ss.map fun z=>z.cps.toList).Perm (l.map fun c=>[c]):=by
    have e:=hp.map fun z:Str=>z.cps.toList
    rw[b9]at e
    exact e
   have ez:(ss.map fun z=>z.cps.toList)=jc (l.map fun c=>[c]):=uS (vx (by rw[hmap];exact hsr)) (vw _) (hperm.trans (gD _).symm)
   have hvals:cL tk ((jc (l.map fun c=>[c])).map fun l=>V.str (tx l)) out.toList:=by
    have e:=mT sm ta
    rw[<- hmap,ez,b9]at e
    exact e
   refine⟨.ref g0.objs.size,_,I2.laid (o:=.lst ((jc (l.map fun c=>[c])).map fun l=>V.str (tx l))) (t':=tk) k1 (az _) ⟨?_,out.toList,e,hvals,gL⟩,rfl,?_⟩
   ·rw[aF,(gD _).length_eq,aF]
    exact aN (fY c) #[12]
   ·exact q (μ++[g0.objs.size]) _ _ (be _ _) (f_.same (df CY _)) (S.newLst CY (Ax _)) (oy S)
  ·exact q.elim
 ·exact Ay.h aj s σ H _ us Q I rv ⟨μ,st,_,S,r,q⟩
 ·exact q.elim,fun ws st=>by
 unfold kh
 split
 ·split<;>trivial
 ·exact(Ay (X:=X)).n _ _
 ·trivial⟩
end
section
variable{a b:Expr}{fs:FA}
end
section
variable{f:FG}
end
theorem bT.turnedL{s:Shared}{t':Nat}{ch:List Addr}(I:bT X aj σ H s)(k:∀b o,b∉ch->s.heap.get? b=some o->h'.get? b=some o)
  (f:∀b∈ch,sH X aj H b) (SR:s.toks<=t':=by first|exact az _|exact bp _|assumption|omega):bT X aj σ H { s with heap:=h',toks:=t' }:=by
 have nit:∀b u,H b=some u->b∉ch:=fun b u q z=>by rw[(f b z).1]at q;cases q
 refine I.step (g':=s.gens) (d':=s.drawn) (ch:=ch) (fun b hb=>?_) (fun b o _ _ hc q _=>k b o hc q) (fun b o _ _ hc q _=>⟨o.slots,k b o hc q⟩) (fun _ _ _ _ n=>n)
  (fun b o hc q=>⟨o,k b o hc q⟩) (fun _ _ q=>q) (fun _ _ _ q=>q) (fun b ps q=>⟨#[],by rw[q];simp⟩) (fun m hm=>?_) (fun b u q=>?_) I.bare SR
 ·exact⟨(f b hb).2.2.2.1,(f b hb).2.1,(f b hb).2.2.2.2.1,(f b hb).2.2.2.2.2⟩
 ·obtain⟨o,es,ep,ho,r⟩:=hm
  exact⟨o,es,ep,k _ o (fun z=>(f _ z).2.1 rfl) ho,r⟩
 ·refine((I.hok b u q).up SR).stay (fun c v hc z=>?_) (fun _ z=>z) fun _ _ z=>z
  rcases hc with y|y
  ·rw[y]at z ⊢;exact k b v (nit b u q) z
  ·exact k c v (nit c _ y) z
section
variable{w:World}
variable{z P O i j a b:Addr}{m:Nat}{xs ys:Array Value}{x y:Value}
theorem Kh(D:ZipApart z P O i j a b)(qz:IsZip s.heap z P O .none)(qP:IsPair s.heap P (.ref i) (.ref j))(qO:IsPair s.heap O u v)
  (q1:s.heap.IsTupleIter i a n) (q2:s.heap.IsTupleIter j b m) (ta:s.heap.IsTuple a xs) (tb:s.heap.IsTuple b ys) (hx:xs[n]?=some x) (hy:ys[m]?=some y)
  (hQ:∀g,IsZip g z P O (rawInt s.heap.objs.size)->IsPair g O x y->g.IsTupleIter i a (n+1)->g.IsTupleIter j b (m+1)->IsPair g s.heap.objs.size x y ->
   (∀c o,c≠z->c≠O->c≠i->c≠j->s.heap.get? c=some o->g.get? c=some o)->Q (.ref s.heap.objs.size) { s with heap:=g }) :
  wpAny #[8] A (Builtin.«zip.__next__» ⟨[.ref z],[]⟩) (fun kJ s'=>∃v,kJ=.done (.ret v)/\Q v s') E s:=by
 show wpAny _ _ (field (.ref z) 2 >>= _) _ _ _
 refine af (dh qz rfl (x:=.bool false) rfl ?_)
 show wpAny _ _ (field (.ref z) 3 >>= _) _ _ _
 refine af (dh qz rfl (x:=.ref P) rfl (af (et qP rfl ?_)))
 show wpAny _ _ (Builtin.SmallTypes.ownedTupleIsFree (.ref z) >>= _) _ _ _
 refine af ?_;unfold Builtin.SmallTypes.ownedTupleIsFree
 refine af (dh qz rfl (x:=.none) rfl (ay ?_));simp only[f6]
 refine af (jS (af (dh qz rfl (x:=.ref O) rfl ?_)))
 refine af (cD qz #[15] fun g1 z1 s1=>?_)
 replace z1:IsZip g1 z P O .ellipsis:=z1
 refine af ?_
 simp only[List.zipIdx_cons,List.zipIdx_nil,kC,py]
 refine af (af (mv ?_))
 show wpAny _ _ (Builtin.SmallTypes.nextOf (.ref i) >>= _) _ _ _
 refine af (jU (q1.extBut s1.extBut D.i1z) (ta.extBut s1.extBut D.l1z) hx fun g2 k2 s2=>ay ?_)
 have O2:IsPair g2 O u v:=s2.extBut _ _ D.TOi1 (s1.extBut _ _ D.TOz qO)
 refine af (et O2 rfl (af (j' O2 fun g3 O3 s3=>?_)))
 replace O3:IsPair g3 O x v:=O3
 refine af (wpAny_letGo (ay (af (af (mv ?_)))))
 show wpAny _ _ (Builtin.SmallTypes.nextOf (.ref j) >>= _) _ _ _
 refine af (jU (((q2.extBut s1.extBut D.i2z).extBut s2.extBut D.i12.symm).extBut s3.extBut D.TOi2.symm)
  (((tb.extBut s1.extBut D.l2z).extBut s2.extBut D.l2i1).extBut s3.extBut D.l2TO) hy fun g4 k4 s4=>ay ?_)
 have O4:IsPair g4 O x v:=s4.extBut _ _ D.TOi2 O3
 refine af (et O4 rfl (af (j' O4 fun g5 O5 s5=>?_)))
 replace O5:IsPair g5 O x y:=O5
 refine af (wpAny_letGo (ay (ay (af (et O5 rfl (af (wpAny_newTuple ?_)))))))
 have sz:g5.objs.size=s.heap.objs.size:=by rw[s5.1,s4.1,s3.1,s2.1,s1.1]
 have z5:IsZip g5 z P O .ellipsis:=s5.extBut _ _ D.TOz.symm (s4.extBut _ _ D.i2z.symm (s3.extBut _ _ D.TOz.symm (s2.extBut _ _ D.i1z.symm z1)))
 have kp:∀c o,c≠z->c≠O->c≠i->c≠j->s.heap.get? c=some o->g5.get? c=some o:=fun c o c1 c2 c3 c4 e=>
  s5.extBut _ _ c2 (s4.extBut _ _ c4 (s3.extBut _ _ c2 (s2.extBut _ _ c3 (s1.extBut _ _ c1 e))))
 have k5:g5.IsTupleIter i a (n+1):=((k2.extBut s3.extBut D.TOi1.symm).extBut s4.extBut D.i12).extBut s5.extBut D.TOi1.symm
 have l5:g5.IsTupleIter j b (m+1):=k4.extBut s5.extBut D.TOi2.symm
 have zlt:z<g5.objs.size:=aH z5
 show wpAny _ _ (Builtin.SmallTypes.ownedTupleHandOut (.ref z) (.ref g5.objs.size) >>= _) _ _ _
 refine af ?_;unfold Builtin.SmallTypes.ownedTupleHandOut
 have z6:IsZip (g5.push { cls:=.type "tuple",data:=.seq #[x,y] }) z P O .ellipsis:=av _ z5
 refine af (cD z6 #[15] fun g7 z7 s7=>?_)
 replace z7:IsZip g7 z P O (rawInt g5.objs.size):=z7
 refine cD z7 #[15] fun g8 z8 s8=>?_
 replace z8:IsZip g8 z P O (rawInt g5.objs.size):=z8
 have up:∀c o,c≠z->g5.get? c=some o->g8.get? c=some o:=fun c o c1 e=>s8.extBut _ _ c1 (s7.extBut _ _ c1 (av _ e))
 have T8:IsPair g8 g5.objs.size x y:=s8.extBut _ _ (eh zlt) (s7.extBut _ _ (eh zlt) (aC _ rfl))
 rw[sz]at z8 T8
 refine ay ⟨_,rfl,?_⟩
 show Q (.ref g5.objs.size) _
 rw[sz]
 exact hQ g8 z8 (up _ _ D.TOz O5) (k5.at fun o e=>up _ o D.i1z e) (l5.at fun o e=>up _ o D.i2z e) T8 fun c o c1 c2 c3 c4 e=>up c o c1 (kp c o c1 c2 c3 c4 e)
theorem NA{Q:Fin->Shared->Prop}(hh:A.handled=none)(D:ZipApart z P O i j a b)(qz:IsZip s.heap z P O .none)(qP:IsPair s.heap P (.ref i) (.ref j))(qO:IsPair s.heap O u v)
  (q1:s.heap.IsTupleIter i a n) (q2:s.heap.IsTupleIter j b m) (ta:s.heap.IsTuple a xs) (tb:s.heap.IsTuple b ys) (he:xs[n]?=none\/ys[m]?=none)
  (hE:∀g e,(∀c o,c≠z->c≠O->c≠i->c≠j->s.heap.get? c=some o->g.get? c=some o)->(∃o,g.get? e=some o/\o.cls=.type "StopIteration")->E (.ref e) { s with heap:=g }) :
  wpAny #[8] A (Builtin.«zip.__next__» ⟨[.ref z],[]⟩) Q E s:=by
 show wpAny _ _ (field (.ref z) 2 >>= _) _ _ _
 refine af (dh qz rfl (x:=.bool false) rfl ?_)
 show wpAny _ _ (field (.ref z) 3 >>= _) _ _ _
 refine af (dh qz rfl (x:=.ref P) rfl (af (et qP rfl ?_)))
 show wpAny _ _ (Builtin.SmallTypes.ownedTupleIsFree (.ref z) >>= _) _ _ _
 refine af ?_;unfold Builtin.SmallTypes.ownedTupleIsFree
 refine af (dh qz rfl (x:=.none) rfl (ay ?_));simp only[f6]
 refine af (jS (af (dh qz rfl (x:=.ref O) rfl ?_)))
 refine af (cD qz #[15] fun g1 z1 s1=>?_)
 replace z1:IsZip g1 z P O .ellipsis:=z1
 refine af ?_
 simp only[List.zipIdx_cons,List.zipIdx_nil,kC,py]
 refine af (af (mv ?_))
 show wpAny _ _ (Builtin.SmallTypes.nextOf (.ref i) >>= _) _ _ _
 cases hx:xs[n]? with
 |none=>
  refine af (kM hh (q1.extBut s1.extBut D.i1z) (ta.extBut s1.extBut D.l1z) hx fun g2 e s2 ye=>?_)
  obtain⟨oe,h1,h2⟩:=ye
  have z2:IsZip g2 z P O .ellipsis:=s2 _ _ D.i1z.symm z1
  have nez:e≠z:=fun q=>by subst q;rw[z2]at h1;cases h1;simp at h2
  exact cD z2 #[15] fun g3 _ s3=>hE g3 e (fun c o c1 _ c3 _ q=>s3.extBut _ _ c1 (s2 _ _ c3 (s1.extBut _ _ c1 q))) ⟨oe,s3.extBut _ _ nez h1,h2⟩
 |some x=>
  have hy:ys[m]?=none:=by rcases he with h|h;rw[hx]at h;cases h;exact h
  refine af (jU (q1.extBut s1.extBut D.i1z) (ta.extBut s1.extBut D.l1z) hx fun g2 k2 s2=>ay ?_)
  have O2:IsPair g2 O u v:=s2.extBut _ _ D.TOi1 (s1.extBut _ _ D.TOz qO)
  refine af (et O2 rfl (af (j' O2 fun g3 O3 s3=>?_)))
  refine af (wpAny_letGo (ay (af (af (mv ?_)))))
  show wpAny _ _ (Builtin.SmallTypes.nextOf (.ref j) >>= _) _ _ _
  refine af (kM hh (((q2.extBut s1.extBut D.i2z).extBut s2.extBut D.i12.symm).extBut s3.extBut D.TOi2.symm)
   (((tb.extBut s1.extBut D.l2z).extBut s2.extBut D.l2i1).extBut s3.extBut D.l2TO) hy fun g4 e s4 ye=>?_)
  obtain⟨oe,h1,h2⟩:=ye
  have z4:IsZip g4 z P O .ellipsis:=s4 _ _ D.i2z.symm (s3.extBut _ _ D.TOz.symm (s2.extBut _ _ D.i1z.symm z1))
  have nez:e≠z:=fun q=>by subst q;rw[z4]at h1;cases h1;simp at h2
  exact cD z4 #[15] fun g5 _ s5=>hE g5 e (fun c o c1 c2 c3 c4 q=>s5.extBut _ _ c1 (s4 _ _ c4 (s3.extBut _ _ c2 (s2.extBut _ _ c3 (s1.extBut _ _ c1 q))))) ⟨oe,s5.extBut _ _ nez h1,h2⟩
theorem Ki{Q:Option Value->Shared->Prop}(D:ZipApart z P O i j a b)(qz:IsZip s.heap z P O .none)(qP:IsPair s.heap P (.ref i) (.ref j))(qO:IsPair s.heap O u v)
  (q1:s.heap.IsTupleIter i a n) (q2:s.heap.IsTupleIter j b m) (ta:s.heap.IsTuple a xs) (tb:s.heap.IsTuple b ys) (hx:xs[n]?=some x) (hy:ys[m]?=some y)
  (hQ:∀g,IsZip g z P O (rawInt s.heap.objs.size)->IsPair g O x y->g.IsTupleIter i a (n+1)->g.IsTupleIter j b (m+1)->IsPair g s.heap.objs.size x y ->
   (∀c o,c≠z->c≠O->c≠i->c≠j->s.heap.get? c=some o->g.get? c=some o)->Q (some (.ref s.heap.objs.size)) { s with heap:=g }) :
  wpAny #[8] A (pyNext (.ref z)) Q E s:=by
 have T:s.TypeIs (.ref z) "zip":=⟨_,qz,rfl⟩
 unfold pyNext
 exact af (gW (bP (name:=Str.ofString "__next__") T kG (b8 kG T F.entry_zip_next
   (Kh D qz qP qO q1 q2 ta tb hx hy fun g a1 a2 a3 a4 a5 a6=>ay (hQ g a1 a2 a3 a4 a5 a6)) (F.args_zip_next_1 _))))
theorem Kj{Q:Option Value->Shared->Prop}(hh:A.handled=none)(D:ZipApart z P O i j a b)(qz:IsZip s.heap z P O .none)(qP:IsPair s.heap P (.ref i) (.ref j))(qO:IsPair s.heap O u v)
  (q1:s.heap.IsTupleIter i a n) (q2:s.heap.IsTupleIter j b m) (ta:s.heap.IsTuple a xs) (tb:s.heap.IsTuple b ys) (he:xs[n]?=none\/ys[m]?=none)
  (hQ:∀g,(∀c o,c≠z->c≠O->c≠i->c≠j->s.heap.get? c=some o->g.get? c=some o)->Q none { s with heap:=g }):wpAny #[8] A (pyNext (.ref z)) Q E s:=by
 have T:s.TypeIs (.ref z) "zip":=⟨_,qz,rfl⟩
 unfold pyNext
 refine af (gW (bP (name:=Str.ofString "__next__") T kG (b8 kG T F.entry_zip_next (NA hh D qz qP qO q1 q2 ta tb he fun g e hk ye=>?_) (F.args_zip_next_1 _))))
 obtain⟨o,ho,hc⟩:=ye
 exact af (gp (T:="StopIteration") (b:=true) ⟨o,ho,hc⟩ lE (ay (hQ _ hk)))
end
open AutoSeq1 (wpAny_loadPart')
abbrev Sy(h:Heap)(a:Addr):Heap:=h.push (lK a)
abbrev Sz(h:Heap)(a b:Addr):Heap:=(Sy h a).push (lK b)
abbrev SC(h:Heap)(a b:Addr):Heap:=(Sz h a b).push { cls:=.type "tuple",data:=.seq #[.ref h.objs.size,.ref (Sy h a).objs.size] }
abbrev SD(h:Heap)(a b:Addr):Heap:=(SC h a b).push { cls:=.type "tuple",data:=.seq #[.none,.none] }
abbrev Pt(h:Heap)(a b:Addr):Heap:=(SD h a b).push { cls:=.type "zip",data:=.fields #[.none,.bool false,.bool false,.ref (Sz h a b).objs.size,.ref (SC h a b).objs.size] }
theorem NB     (a b : Addr) (xs ys : Array Value) : Meets (Builtin.«zip.__new__» ⟨[.type "zip", .ref a, .ref b], []⟩) (fun _ R s => s.heap.IsTuple a xs /\ s.heap.IsTuple b ys /\
      R (.ok (.ret (.ref (SD  s.heap a b).objs.size))) { s with heap := Pt  s.heap a b }) :=
  .of_wp fun prog w A R s h => by
    obtain ⟨hp, g, d, tk, os⟩ := s
    obtain ⟨ha, hb, h⟩ := h
    have sb := sub_zip
    have hA : Heap.IsTuple (Shared.heap ⟨hp, g, d, tk, os⟩) a xs := ha
    have hB : Heap.IsTuple (Shared.heap ⟨hp.push (lK      a), g, d, tk, os⟩) b ys := hb.at fun o e => av                     _ e
    wp_walk using fI                 hA, fI                 hB
    exact ⟨_, rfl, h⟩
section
variable{w:World}
theorem Kk{a b:Addr}{xs ys:Array Value}(ha:s.heap.IsTuple a xs)(hb:s.heap.IsTuple b ys)
  (q:∀g,IsZip g (s.heap.objs.size+4) (s.heap.objs.size+2) (s.heap.objs.size+3) .none->IsPair g (s.heap.objs.size+2) (.ref s.heap.objs.size) (.ref #[6]) ->
   IsPair g (s.heap.objs.size+3) .none .none->g.IsTupleIter s.heap.objs.size a 0->g.IsTupleIter #[6] b 0->(∀c o,s.heap.get? c=some o->g.get? c=some o)->Q (.ref (s.heap.objs.size+4)) { s with heap:=g }) :
  wpAny #[8] A (call (.type "zip") [.ref a,.ref b]) Q E s:=by
 refine callType_new F.called_zip #[12] (F.typeCall_zip_2 _ _) (F.newCall_zip_2 _ _) (fun ob=>F.args_object_init_3 ob _ _) F.entry_zip_new (NB a b xs ys) ⟨ha,hb,?_⟩
 have n1:(Sy s.heap a).objs.size=s.heap.objs.size+1:=bv ..
 have n2:(Sz s.heap a b).objs.size=s.heap.objs.size+2:=by rw[bv,n1]
 have n3:(SC s.heap a b).objs.size=s.heap.objs.size+3:=by rw[bv,n2]
 have n4:(SD s.heap a b).objs.size=s.heap.objs.size+4:=by rw[bv,n3]
 have p:∀{h:Heap} {c:Addr} {o u:Obj},h.get? c=some o->(h.push u).get? c=some o:=fun e=>av _ e
 have g5:(Pt s.heap a b).get? (SD s.heap a b).objs.size=some _:=aC _ rfl
 have g4:(Pt s.heap a b).get? (SC s.heap a b).objs.size=some _:=p (aC _ rfl)
 have g3:(Pt s.heap a b).get? (Sz s.heap a b).objs.size=some _:=p (p (aC _ rfl))
 have g2:(Pt s.heap a b).get? (Sy s.heap a).objs.size=some _:=p (p (p (aC _ rfl)))
 have g1:(Pt s.heap a b).get? s.heap.objs.size=some _:=p (p (p (p (aC _ rfl))))
 show _/\_
 rw[n2,n3,n4]at g5
 rw[n1,n2]at g3
 rw[n3]at g4
 rw[n1]at g2
 rw[n4]
 exact⟨⟨_,g5,rfl⟩,q _ g5 g3 g4 ⟨_,g1,rfl,rfl⟩ ⟨_,g2,rfl,rfl⟩ fun c o e=>p (p (p (p (p e))))⟩
end
def Uy(K:Frag)(a b:Addr):It:=
  ⟨fun i H=>∃xs ys x y,f_ K H a xs/\f_ K H b ys/\xs[i]?=some x/\ys[i]?=some y,
   fun i H v H'=>∃p,H p=none/\v=.ref p/\∀xs ys x y,f_ K H a xs->f_ K H b ys->xs[i]?=some x->ys[i]?=some y->H'=fW H p (.tup [x,y]),
   fun i H=>∃xs ys,f_ K H a xs/\f_ K H b ys/\(xs.length<=i\/ys.length<=i)⟩
theorem Kl{w:World}{z T O i j a b:Addr}(D:ZipApart z T O i j a b) :
  BI P w K (.Tuple wA kk pos) (Uy K a b) [z,T,O,i,j] z (fun k h=>IsZip h z T O .none/\IsPair h T (.ref i) (.ref j)/\(∃u v,IsPair h O u v)/\h.IsTupleIter i a k/\h.IsTupleIter j b k) where
 mem:=by simp
 obj:=fun k h st c hc=>by
  obtain⟨h1,h2,⟨u,v,h3⟩,⟨o4,e4,_,d4⟩,⟨o5,e5,_,d5⟩⟩:=st
  have q:c=z\/c=T\/c=O\/c=i\/c=j:=by simpa using hc
  rcases q with rfl|rfl|rfl|rfl|rfl
  ·exact⟨_,h1,fun v q=>by cases q⟩
  ·exact⟨_,h2,fun v q=>by cases q⟩
  ·exact⟨_,h3,fun v q=>by cases q⟩
  ·exact⟨_,e4,fun v q=>by rw[d4]at q;cases q⟩
  ·exact⟨_,e5,fun v q=>by rw[d5]at q;cases q⟩
 keep:=fun k h h' st kp=>by
  obtain⟨h1,h2,⟨u,v,h3⟩,h4,h5⟩:=st
  exact⟨kp z #[15] _ h1,kp T #[15] _ h2,⟨u,v,kp O #[15] _ h3⟩,h4.at fun o e=>kp i #[15] o e,h5.at fun o e=>kp j #[15] o e⟩
 item:=by
  intro X hP hw hK hc k aj s σ H E I hf st hg
  subst hP hw hK
  obtain⟨xs,ys,x,y,hq,hr,hx,hy⟩:=hg
  obtain⟨bI,rv,p1,_⟩:=I.tuple hq
  obtain⟨jts,om,p2,_⟩:=I.tuple hr
  obtain⟨u,hu,ru⟩:=rv.get hx
  obtain⟨v,hv,rv'⟩:=om.get hy
  obtain⟨h1,h2,⟨c1,c2,h3⟩,h4,h5⟩:=st
  refine Ki D h1 h2 h3 h4 h5 (show s.heap.IsTuple a bI.toArray from p1) (show s.heap.IsTuple b jts.toArray from p2) (x:=u) (y:=v) (by simpa using hu) (by simpa using hv) fun g a1 a2 a3 a4 a5 kp=>⟨_,rfl,?_⟩
  refine wpAny_letOwnedTupleGo_zip a1 fun g2 b1 s2=>?_
  have CY:H s.heap.objs.size=none:=I.hok.fresh (az _)
  have I1:bT X aj σ (fW H s.heap.objs.size (.tup [x,y])) { s with heap:=s.heap.push { cls:=.type "tuple",data:=.seq #[u,v] },toks:=s.toks }:=I.laid (fun c o q=>av _ q) (az _)
   ⟨by show 2<=sizeLine;decide,[u,v],.cons ru (.cons rv' .nil),⟨_,aC _ rfl,rfl,_,rfl⟩⟩
  have lt:∀{c o},s.heap.get? c=some o->c≠s.heap.objs.size:=fun e=>bd (aH e)
  have nf:∀c∈[z,T,O,i,j],c≠s.heap.objs.size:=fun c hb=>by
   have q:c=z\/c=T\/c=O\/c=i\/c=j:=by simpa using hb
   rcases q with rfl|rfl|rfl|rfl|rfl
   ·exact lt h1
   ·exact lt h2
   ·exact lt h3
   ·obtain⟨_,e,_⟩:=h4;exact lt e
   ·obtain⟨_,e,_⟩:=h5;exact lt e
  have fp:∀c∈[z,T,O,i,j],sH X aj (fW H s.heap.objs.size (.tup [x,y])) c:=fun c hb=>by
   obtain⟨f0,f⟩:=hf c hb
   exact⟨by rw[c_ (nf c hb)];exact f0,f⟩
  have I2:bT X aj σ (fW H s.heap.objs.size (.tup [x,y])) { s with heap:=g2,toks:=s.toks }:=bT.turnedL (s:={ s with heap:=s.heap.push { cls:=.type "tuple",data:=.seq #[u,v] },toks:=s.toks }) (ch:=[z,O,i,j]) (t':=s.toks) I1 (fun c o hb q=>?_) fun c hb=>fp c (by
   have q:c=z\/c=O\/c=i\/c=j:=by simpa using hb
   rcases q with rfl|rfl|rfl|rfl<;>simp)
  ·refine⟨.ref s.heap.objs.size,_,I2,rfl,⟨_,CY,rfl,fun xs' Pv x' y' e1 e2 e3 e4=>?_⟩,⟨b1,s2.extBut _ _ D.TIz (kp _ _ D.TIz D.TITO D.TIi1 D.TIi2 h2),⟨_,_,s2.extBut _ _ D.TOz a2⟩,a3.extBut s2.extBut D.i1z,a4.extBut s2.extBut D.i2z⟩,fun c hb=>(fp c hb).1⟩
   have q1:=I.tuple_inj e1 hq
   have q2:=I.tuple_inj e2 hr
   subst q1 q2
   rw[hx]at e3;rw[hy]at e4;cases e3;cases e4;rfl
  ·have q':(s.heap.push { cls:=.type "tuple",data:=.seq #[u,v] }).get? c=some o:=q
   have hn:c≠z/\c≠O/\c≠i/\c≠j:=by simpa using hb
   refine s2.extBut c o hn.1 ?_
   by_cases hb':c=s.heap.objs.size
   ·subst hb'
    have e1:=aC s.heap (o:={ cls:=.type "tuple",data:=.seq #[u,v] }) rfl
    rw[e1]at q';cases q'
    exact a5
   ·rw[Heap.get?_push_ne _ _ _ hb']at q'
    exact kp c o hn.1 hn.2.1 hn.2.2.1 hn.2.2.2 q'
 done:=by
  intro X hP hw hK hc k aj s σ H E I hf st hg
  subst hP hw hK
  obtain⟨xs,ys,hq,hr,he⟩:=hg
  obtain⟨bI,rv,p1,_⟩:=I.tuple hq
  obtain⟨jts,om,p2,_⟩:=I.tuple hr
  obtain⟨h1,h2,⟨c1,c2,h3⟩,h4,h5⟩:=st
  have l1:=rv.length
  have l2:=om.length
  refine Kj (I.ok.hd hc) D h1 h2 h3 h4 h5 (show s.heap.IsTuple a bI.toArray from p1) (show s.heap.IsTuple b jts.toArray from p2) (by
   rcases he with q|q
   ·exact .inl (by simp;omega)
   ·exact .inr (by simp;omega)) fun g kp=>⟨rfl,?_⟩
  exact I.turnedL (ch:=[z,O,i,j]) (t':=s.toks) (fun c o hb q=>by
   have hn:c≠z/\c≠O/\c≠i/\c≠j:=by simpa using hb
   exact kp c o hn.1 hn.2.1 hn.2.2.1 hn.2.2.2 q) fun c hb=>hf c (by
   have q:c=z\/c=O\/c=i\/c=j:=by simpa using hb
   rcases q with rfl|rfl|rfl|rfl<;>simp)
 self:=fun A k s Q E st h=>wpAny_pyIter_zip st.1 h
def TU(K:Frag)(ta:TA):TI:=fun σ H R=>ta σ H fun vs H1=>∃a b,vs=[.ref a,.ref b]/\(∃xs,f_ K H1 a xs)/\(∃ys,f_ K H1 b ys)/\R (Uy K a b) H1
theorem Km{a b:Expr}{ta:TA}{p pos tp:Pos}{wA:List Expr}{kk:Nat}(hm:X.mg "zip"=none)(ha:QA X [a,b] ta)(hg:Gl X "zip":=by rfl)(hs:starEach [a,b] X.env=(false,eval a X.env)::starEach [b] X.env:=by rfl)
  (tN:(backTo pos (starEach [b] X.env)).any (·.1)=false:=by rfl):QI X (.Tuple wA kk tp) (.Call (.Name "zip" p) [a,b] [] pos) (TU X.K ta):=⟨by
 intro aj s σ H R I h
 refine Call_ (on I hg hm boot_zip (dS (jC (ha.h pos aj s σ H _ I h) fun us s1 kt1 ⟨vs,H1,I1,r1,q1⟩=>?_) hs tN))
 obtain⟨t,t',e,⟨xs,hq⟩,⟨ys,hr⟩,q⟩:=q1
 subst e
 cases r1 with
 |cons x1 r1=>cases r1 with
  |cons x2 r1=>
   cases r1
   cases x1
   cases x2
   obtain⟨bI,rv,p1,_⟩:=I1.tuple hq
   obtain⟨jts,om,p2,_⟩:=I1.tuple hr
   have lt1:t<s1.heap.objs.size:=by obtain⟨_,e,_⟩:=(show s1.heap.IsTuple t bI.toArray from p1);exact aH e
   have lt2:t'<s1.heap.objs.size:=by obtain⟨_,e,_⟩:=(show s1.heap.IsTuple t' jts.toArray from p2);exact aH e
   refine Kk (show s1.heap.IsTuple t bI.toArray from p1) (show s1.heap.IsTuple t' jts.toArray from p2) fun g e1 e2 e3 e4 e5 kp=>?_
   refine wpAny_pyIter_zip e1 ?_
   refine⟨s1.heap.objs.size+4,[s1.heap.objs.size+4,s1.heap.objs.size+2,s1.heap.objs.size+3,s1.heap.objs.size,s1.heap.objs.size+1],_,_,H1,rfl,I1.kept (t':=s1.toks) kp,Kl (zipApart_new lt1 lt2),⟨e1,e2,⟨_,_,e3⟩,e4,e5⟩,fun c hb=>?_,q⟩
   have hc:s1.heap.objs.size<=c:=by
    have z:c=s1.heap.objs.size+4\/c=s1.heap.objs.size+2\/c=s1.heap.objs.size+3\/c=s1.heap.objs.size\/c=s1.heap.objs.size+1:=by simpa using hb
    rcases z with rfl|rfl|rfl|rfl|rfl<;>simp
   exact I1.fpOk hc (I1.hok.fresh hc)⟩
noncomputable def qD:List W->List W->List W
 |x::xs,y::ys=>.tup [x,y]::qD xs ys
 |_,_=>[]
theorem vD:∀{xs ys:List W} {i:Nat} {w:W},(qD xs ys)[i]?=some w->∃x y,xs[i]?=some x/\ys[i]?=some y/\w=.tup [x,y]
 |x::xs,y::ys,0,w,h=>by simp[qD]at h;exact⟨x,y,rfl,rfl,h.symm⟩
 |x::xs,y::ys,i+1,w,h=>by simp[qD]at h;simpa using vD h
 |[],_,i,w,h=>by simp[qD]at h
 |_::_,[],i,w,h=>by simp[qD]at h
theorem vE:∀(xs ys:List W),(qD xs ys).length=min xs.length ys.length
 |x::xs,y::ys=>by simp[qD,vE xs ys]
 |[],_=>by simp[qD]
 |_::_,[]=>by simp[qD]
section
variable{a b:Expr}{fs:FA}
def yP(fs:FA):FI:=fun ρ st=>(fs ρ st).bind fun ws st=>match ws with
 |[.tup xs,.tup ys]=>.ok (qD xs ys,none) st
 |_=>.bad
theorem Kn{wA:List Expr}{kk:Nat}{tp:Pos}(hm:X.mg "zip"=none)(ha:SA X [a,b] fs)(hg:Gl X "zip":=by rfl)(hs:starEach [a,b] X.env=(false,eval a X.env)::starEach [b] X.env:=by rfl)(p_:(backTo pos (starEach [b] X.env)).any (·.1)=false:=by rfl) :
  SI X (.Tuple wA kk tp) (.Call (.Name "zip" p) [a,b] [] pos) (yP fs):=⟨(Km hm ⟨ha.h⟩ hg hs p_).h.imp fun σ H R h=>by
 walk_at "2"
 walk_at "1"
 split at h1
 ·rename_i zs ws
  obtain⟨y,ys,rfl,ry,r1⟩:=q1.consE
  obtain⟨w,rfl,om⟩:=r1.one
  obtain⟨t,vs,rfl,hS,r⟩:=ry.tupE
  obtain⟨t',C8,rfl,hS',r'⟩:=om.tupE
  refine⟨t,t',rfl,⟨vs,hS⟩,⟨C8,hS'⟩,h1 μ1 _ H1 (am _) fw.refl l1.sto fun i μ' bn H' pp xx S _=>⟨fun w hw=>?_,fun hl=>⟨vs,C8,xx _ _ hS,xx _ _ hS',by rw[vE]at hl;rw[<- r.len,<- r'.len];omega⟩⟩⟩
  obtain⟨x,y,hx,hy,rfl⟩:=vD hw
  have m1:=r.mono pp xx
  have m2:=r'.mono pp xx
  obtain⟨v1,g1,g2⟩:=m1.get hx
  obtain⟨v2,g3,g4⟩:=m2.get hy
  refine⟨⟨vs,C8,v1,v2,xx _ _ hS,xx _ _ hS',g1,g3⟩,fun z H'' hz=>?_⟩
  obtain⟨q,hq,rfl,hH⟩:=hz
  have e:=hH vs C8 v1 v2 (xx _ _ hS) (xx _ _ hS') g1 g3
  subst e
  have ex:=f_.same (K:=X.K) (df hq (.tup [v1,v2]))
  exact⟨ex,S.same (df hq _),.tupI f_.new (.consI (g2.mono (am _) ex) (.consI (g4.mono (am _) ex) .nilI))⟩
 ·exact h1.elim⟩
end
open Builtin.Str (tooLong)
section
variable{w:World}
end
section
end
section
end
end L2
namespace L2
open PySem PySem.Spec PyProof.Rows
section
end
end L2
namespace L2
open PySem PySem.Spec PyProof.Rows
end L2
namespace L2
open PySem PySem.Spec PyProof.Rows
noncomputable abbrev QZ:=List W×List (Nat×List W)
abbrev UV:=cM->List al->R QZ
section
variable{fi:UV}{f:FG}{m:Nat}
end
section
variable{a b:Expr}{fs:FA}
end
end L2
namespace L2
open PySem PySem.Spec PyProof.Rows
section
def xH(ws:List W)(st:List al):R W:=match ws with
 |[.str [c]]=>if 48<=c/\c<=51 then .ok (.int (c-48:Nat)) st else .bad
 |_=>EI ws st
theorem Ck:oz X (.type "int") xH:=⟨fun aj s σ H vs us Q I rv zq=>by
 obtain⟨μ,st,ws,S,r,q⟩:=zq
 unfold xH at q
 split at q
 ·rename_i c
  split at q
  ·rename_i hc
   obtain⟨y,rfl,ry⟩:=r.one
   have:=ry.strE;subst this
   obtain⟨k,rfl⟩:∃k,c=48+k:=⟨c-48,by omega⟩
   refine Ng.h aj s σ H _ us Q I rv ⟨k,rfl,by omega,?_⟩
   rw[show 48+k-48=k by omega]at q
   exact q μ _ H (am _) fw.refl S .int
  ·exact q.elim
 ·exact K_.h aj s σ H _ us Q I rv ⟨μ,st,_,S,r,q⟩,fun ws st=>by
 unfold xH
 split
 ·split<;>trivial
 ·exact(K_ (X:=X)).n _ _⟩
end
end L2
namespace L2
open PySem PySem.Spec PyProof.Rows
section
variable{wi:TI}{g:TG}{te:Cx->TE}
end
section
variable{f:FG}
end
end L2
namespace L2
open PySem PySem.Spec PyProof.Rows
theorem DK.key_inj{a b:DK}:a.key=b.key↔a=b:=by
 cases a<;>cases b<;>simp[DK.key,yA]
noncomputable def vF:W->Option DK
 |.int z=>some (.i z)
 |.str l=>some (.s l)
 |_=>none
theorem DD{w:W}{k:DK}{v:V}(h:vF w=some k)(r:bG K μ H w v):v=kV k.key:=by
 cases w with
 |int z=>cases h;exact r.intE
 |str l=>cases h;exact r.strE
 |_=>cases h
noncomputable def j4(kvs:List (DK×W))(k:DK):Option W:=(kvs.find? fun p=>decide (p.1=k)).map fun p=>p.2
noncomputable def uv(kvs:List (DK×W))(k:DK)(v:W):List (DK×W):=if (kvs.any fun p=>decide (p.1=k))=true then kvs.map fun p=>if p.1=k then(p.1,v)else p else kvs++[(k,v)]
abbrev dV(kvs:List (DK×W))(vs:List V):List (jY×V):=(kvs.map fun p=>p.1.key).zip vs
section
theorem GB:∀{kvs:List (DK×W)} {vs:List V} (k:DK),RelWs K μ H (kvs.map fun p=>p.2) vs->(∃w v,j4 kvs k=some w/\pX (dV kvs vs) k.key=some v/\bG K μ H w v)\/(j4 kvs k=none/\pX (dV kvs vs) k.key=none)
 |[],vs,k,r=>.inr ⟨rfl,rfl⟩
 |p::kvs,vs,k,r=>by
  obtain⟨x,xs,rfl,a,b⟩:=RelWs.consE r
  have ih:=GB (kvs:=kvs) k b
  by_cases h:p.1=k
  ·refine .inl ⟨p.2,x,?_,?_,a⟩
   ·unfold j4;rw[dr];simp[h]
   ·show pX ((p.1.key,x)::dV kvs xs) k.key=some x
    exact qZ (by rw[h])
  ·have e1:j4 (p::kvs) k=j4 kvs k:=by unfold j4;rw[dr];simp[h]
   have e2:pX (dV (p::kvs) (x::xs)) k.key=pX (dV kvs xs) k.key:=q5 (p:=(p.1.key,x)) fun z=>h (DK.key_inj.mp z)
   rw[e1,e2];exact ih
theorem GC:∀{kvs:List (DK×W)} {vs:List V} (k:DK),RelWs K μ H (kvs.map fun p=>p.2) vs->((dV kvs vs).any fun kv=>decide (kv.1=k.key))=(kvs.any fun p=>decide (p.1=k))
 |[],vs,k,r=>rfl
 |p::kvs,vs,k,r=>by
  obtain⟨x,xs,rfl,a,b⟩:=RelWs.consE r
  show(decide (p.1.key=k.key)||(dV kvs xs).any _)=(decide (p.1=k)||kvs.any _)
  rw[GC k b]
  congr 1
  rw[decide_eq_decide];exact DK.key_inj
theorem GD{k:DK}{w:W}{v:V}:∀{kvs:List (DK×W)} {vs:List V},RelWs K μ H (kvs.map fun p=>p.2) vs->bG K μ H w v->∃us,(dV kvs vs).map (fun kv=>if kv.1=k.key then(kv.1,v)else kv)=dV (kvs.map fun p=>if p.1=k then(p.1,w)else p) us/\RelWs K μ H ((kvs.map fun p=>if p.1=k then(p.1,w)else p).map fun p=>p.2) us
 |[],vs,r,om=>⟨[],rfl,.nilI⟩
 |p::kvs,vs,r,om=>by
  obtain⟨x,xs,rfl,a,b⟩:=RelWs.consE r
  obtain⟨us,e,q⟩:=GD (k:=k) b om
  by_cases h:p.1=k
  ·refine⟨v::us,?_,?_⟩
   ·show(if p.1.key=k.key then(p.1.key,v)else(p.1.key,x))::(dV kvs xs).map _=_
    rw[aE (by rw[h]),e,aU,aE h];rfl
   ·rw[aU,aE h];exact .consI om q
  ·refine⟨x::us,?_,?_⟩
   ·show(if p.1.key=k.key then(p.1.key,v)else(p.1.key,x))::(dV kvs xs).map _=_
    rw[aL (fun z=>h (DK.key_inj.mp z)),e,aU,aL h];rfl
   ·rw[aU,aL h];exact .consI a q
theorem NC{k:DK}{w:W}{v:V}(r:RelWs K μ H (kvs.map fun p=>p.2) vs)(om:bG K μ H w v):∃us,sL (dV kvs vs) k.key v=dV (uv kvs k w) us/\RelWs K μ H ((uv kvs k w).map fun p=>p.2) us:=by
 unfold sL uv
 rw[GC k r]
 by_cases h:(kvs.any fun p=>decide (p.1=k))=true
 ·rw[aE h,aE h]
  exact GD r om
 ·rw[aL h,aL h]
  refine⟨vs++[v],?_,?_⟩
  ·unfold dV
   rw[bb,List.zip_append (by rw[aF,<- r.len,aF])];rfl
  ·rw[bb];exact r.app (.consI om .nilI)
theorem ND(r:RelWs K μ H (kvs.map fun p=>p.2) vs):(dV kvs vs).length=kvs.length:=by
 unfold dV;rw[List.length_zip,aF,<- r.len,aF,Nat.min_self]
theorem f_.butD{l:Addr}{xs:List (jY×V)}(e:Ss l H H')(hl:H l=some (.dK xs)):fw K H H':=by
 have zQ:∀{p:Addr} {o:HO},H p=some o->(∀zs,o≠.dK zs)->p≠l:=fun{p o} q hn z=>by subst z;rw[hl]at q;cases q;exact hn _ rfl
 refine⟨fun p ys h=>?_,fun b o u h=>e _ _ (zQ h (fun _ z=>by cases z)) h⟩
 rcases h with(h|⟨o,h⟩)|h
 ·exact .inl (.inl (e _ _ (zQ h (fun _ z=>by cases z)) h))
 ·exact .inl (.inr ⟨o,e _ _ (zQ h (fun _ z=>by cases z)) h⟩)
 ·exact .inr h
end
theorem jk.setD(S:jk K mg μ st H){a:Addr}{Pp:List (DK×W)}{xs:List (jY×V)}{us:List V}(hn:st[n]?=some (.dct kvs))(hm:μ[n]?=some a)(ha:H a=some (.dK xs))(hr:RelWs K μ H (Pp.map fun p=>p.2) us) :
  jk K mg μ (st.set n (.dct Pp)) (fW H a (.dK (dV Pp us))):=
 S.setG hn rfl hm ha (fun _ _ z=>by cases z) (fun _ z=>by cases z) (f_.butD jn ha) rfl ⟨us,gJ,hr.mono (am _) (f_.butD jn ha)⟩
noncomputable def t8(st:List al):W->Option (Nat×List (DK×W))
 |.loc n=>(match st[n]? with
  |some (.dct kvs)=>some (n,kvs)
  |some (.rod kvs)=>some (n,kvs)
  |_=>none)
 |_=>none
noncomputable def EL(st:List al):W->Option (Nat×List (DK×W))
 |.loc n=>(match st[n]? with
  |some (.dct kvs)=>some (n,kvs)
  |_=>none)
 |_=>none
theorem AA(S:jk K mg μ st H){x:W}{v:V}(h:t8 st x=some (n,kvs))(r:bG K μ H x v) :
  ∃a vs,(st[n]?=some (.dct kvs)\/st[n]?=some (.rod kvs))/\μ[n]?=some a/\v=.ref a/\Rd H a (.dK (dV kvs vs))/\RelWs K μ H (kvs.map fun p=>p.2) vs:=by
 cases x with
 |loc m=>
  simp only[t8]at h
  cases e:st[m]? with
  |none=>rw[e]at h;cases h
  |some c=>
   rw[e]at h
   cases c with
   |dct z=>
    cases h
    obtain⟨a,g,vs,k,rr⟩:=S.get e
    obtain⟨b,f,rfl⟩:=r.locE
    rw[g]at f;cases f
    exact⟨a,vs,.inl e,g,rfl,.inl k,rr⟩
   |rod z=>
    cases h
    obtain⟨a,g,vs,o,k,rr⟩:=S.get e
    obtain⟨b,f,rfl⟩:=r.locE
    rw[g]at f;cases f
    exact⟨a,vs,.inr e,g,rfl,.inr ⟨o,k⟩,rr⟩
   |_=>cases h
 |_=>cases h
theorem Ko(S:jk K mg μ st H){x:W}{v:V}(h:EL st x=some (n,kvs))(r:bG K μ H x v) :
  ∃a vs,st[n]?=some (.dct kvs)/\μ[n]?=some a/\v=.ref a/\H a=some (.dK (dV kvs vs))/\RelWs K μ H (kvs.map fun p=>p.2) vs:=by
 cases x with
 |loc m=>
  simp only[EL]at h
  cases e:st[m]? with
  |none=>rw[e]at h;cases h
  |some c=>
   rw[e]at h
   cases c with
   |dct z=>
    cases h
    obtain⟨a,g,vs,k,rr⟩:=S.get e
    obtain⟨b,f,rfl⟩:=r.locE
    rw[g]at f;cases f
    exact⟨a,vs,e,g,rfl,k,rr⟩
   |_=>cases h
 |_=>cases h
theorem Er.r{a:Addr}{kvs:List (jY×V)}{k:jY}(e:Rd H a (.dK kvs)):Er H a (kV k) (pX kvs k):=.inl ⟨kvs,k,e,rfl,rfl⟩
section
variable{a b d i:Expr}{x:Str}{fb fc fi:FE}{fs:FA}
def xI(x i v:W)(st:List al):Option (List al):=match EL st x,vF i with
 |some (n,kvs),some k=>if kvs.length<my then some (st.set n (.dct (uv kvs k v)))else none
 |_,_=>none
theorem NE(hr:iK kk X.A):Ea X (Gs X xI):=fun aj s σ H o i v ov iv u Q I r1 r2 r3 zq=>by
 obtain⟨μ,st,wo,wi,wv,bn,S,ro,ri,rv,e,q⟩:=zq
 unfold xI at e
 cases e1:EL st wo with
 |none=>rw[e1]at e;cases e
 |some nk=>
  obtain⟨n,kvs⟩:=nk
  cases e2:vF wi with
  |none=>rw[e1,e2]at e;cases e
  |some k=>
   rw[e1,e2]at e
   simp only at e
   split at e
   ·rename_i hl
    cases e
    obtain⟨a,vs,hn,hm,rfl,ha,r⟩:=Ko S e1 ro
    have:=DD e2 ri
    subst this
    obtain rfl:ov=Value.ref a:=r1
    obtain⟨us,g1,g2⟩:=NC (k:=k) r rv
    refine Es (K1 hr) I (JN.k ha (by rw[ND r];exact aP hl #[12])) r2 r3 fun s' I'=>⟨_,I',?_⟩
    rw[g1]
    exact q _ (f_.butD jn ha) (S.setD hn hm ha g2)
   ·cases e
def Le:FE:=fun _ st=>.ok #[5] (st++[.dct []])
theorem NF:SE X (.Dict [] [] pos) Le:=⟨FU.imp fun σ H Q h=>by
 walk_at "2"
 intro p hp
 have hs:uq H (fW H p (.dK [])):=df hp _
 exact h (μ++[p]) (.ref p) _ (be _ _) (f_.same hs) (l.sto.push (c:=.dct []) hp ⟨[],gJ,.nilI⟩) (oy l.sto)⟩
end
end L2
namespace L2
open PySem PySem.Spec PyProof.Rows
section
variable{x y:Str}{a b:Expr}{fs:FA}
end
inductive DefIn(K:Frag)(x:Str)(st:Stmt):Prop
 |mk {ad:Addr} {od an:Option Addr} {sl:Array (Option Value)} {oc kV dc pm cd ct:Value} (a:nsIn K mainGlobals x=some (some (.ref ad)))
   (l:K.lookup ad=some ⟨oc,od,.func (fnOf x x (ig st) (gB st) (aQ st) .none kV dc pm an cd ct),sl⟩) (c:codeIn K cd x=true) (k:keepIn K (.ref ad)=true):DefIn K x st
theorem DefIn.fn{x:Str}{st:Stmt}(d:DefIn K x st)(X:K.In h)(G:h.Ns mainGlobals mg):∃f fd,iC K x x st f fd/\mg x=some (.ref f):=by
 obtain⟨a,l,c,k⟩:=d
 exact⟨_,_,yy (st:=st) l c k,mg_of X G a⟩
theorem Q0{l:List Value}(h:l.length=n+1):∃a t,l=a::t/\t.length=n:=by
 cases l with
 |nil=>cases h
 |cons a t=>exact⟨a,t,rfl,Nat.succ.inj h⟩
theorem SF{l:List Value}(h:l.length=1):∃a,l=[a]:=gF.mp h
theorem SH{l:List Value}(h:l.length=2):∃a b,l=[a,b]:=by obtain⟨a,t,rfl,k⟩:=Q0 h;obtain⟨b,rfl⟩:=SF k;exact⟨a,b,rfl⟩
theorem SJ{l:List Value}(h:l.length=3):∃a b c,l=[a,b,c]:=by obtain⟨a,t,rfl,k⟩:=Q0 h;obtain⟨b,c,rfl⟩:=SH k;exact⟨a,b,c,rfl⟩
theorem SL{l:List Value}(h:l.length=4):∃a b c d,l=[a,b,c,d]:=by obtain⟨a,t,rfl,k⟩:=Q0 h;obtain⟨b,c,d,rfl⟩:=SJ k;exact⟨a,b,c,d,rfl⟩
theorem SM{l:List Value}(h:l.length=5):∃a b c d e,l=[a,b,c,d,e]:=by obtain⟨a,t,rfl,k⟩:=Q0 h;obtain⟨b,c,d,e,rfl⟩:=SL k;exact⟨a,b,c,d,e,rfl⟩
theorem TV{l:List Value}(h:l.length=6):∃a b c d e f,l=[a,b,c,d,e,f]:=by obtain⟨a,t,rfl,k⟩:=Q0 h;obtain⟨b,c,d,e,f,rfl⟩:=SM k;exact⟨a,b,c,d,e,f,rfl⟩
section
variable{w:World}{k:Nat}{x:Str}{st:Stmt}{f:Addr}
theorem cP(F:iC K x x st f fd)(hm:mg x=some (.ref f))(ok:c6 P w K mg base (hZ P w) k f fd ps (iD K mg n G))(hn:ps.length=n:=by rfl)
  (hb:∀(kV sE pm:Value) (an:Option Addr) (fA ct:Value) (us:List Value),us.length=ps.length->bindArgs (fnOf x x (ig st) (gB st) (aQ st) .none kV sE pm an fA ct) ⟨us,[]⟩=pure (ps.zip us):=by(intro _ _ _ _ _ _ _ q;first|(obtain⟨_,rfl⟩:=SF q;rfl)|(obtain⟨_,_,rfl⟩:=SH q;rfl)|(obtain⟨_,_,_,rfl⟩:=SJ q;rfl)|(obtain⟨_,_,_,_,rfl⟩:=SL q;rfl)|(obtain⟨_,_,_,_,_,rfl⟩:=SM q;rfl)|(obtain⟨_,_,_,_,_,_,rfl⟩:=TV q;rfl))):bY P w K mg base k x n G:=yK F hm hn hb ok
end
section
variable{x:Str}{sp:Scope}
theorem jF{N:List Str}(a:sp.kind=.function:=by rfl)(b:sp.isCoroutine=false:=by rfl)(c:sp.isGenerator=false:=by rfl)(d:N.Nodup:=by decide +kernel)(f:N.take ps.length=ps:=by rfl)(g:∀x∈ps,sp.names.lookup x=some .local\/sp.names.lookup x=some .cell:=by decide +kernel)(h:∀y∈sp.names,y.2≠.free:=by decide +kernel):bh N ps sp:=⟨a,b,c,d,f,g,h⟩
theorem sS(i:Nat){iq:Pos}(sc:bh X.N ps sp)(he:SE X e fe)(hi:X.N[i]?=some x:=by rfl)(hx:Jo X.env.scope x:=by first|exact .inl rfl|exact .inr rfl)(hs:swapsWith e (some (.Name x iq)) pos.line X.env=pure false:=by rfl)(hf:X.fn x=true\/X.env.scope.names.lookup x=some .local:=by first|exact .inl rfl|exact .inr rfl|assumption) :
  SS X (.Assign [.Name x iq] e pos) (ba i fe):=Nu sc.nd hi hx he hs hf
theorem sG(i:Nat)(sc:bh X.N ps sp)(hi:X.N[i]?=some x:=by rfl)(hx:Jo X.env.scope x:=by first|exact .inl rfl|exact .inr rfl)(hf:X.fn x=true\/X.env.scope.names.lookup x=some .local:=by first|exact .inl rfl|exact .inr rfl|assumption):SG X (.Name x pos) (jD i):=Dx sc.nd hi hx hf
theorem sC{cl:List (Str×Addr)}{C s0 H0 fp}(i:Nat)(hN:nm.Nodup:=by decide +kernel)(hi:nm[i]?=some x:=by rfl)(hx:Jo #[9].env.scope x:=by first|exact .inl rfl|exact .inr rfl)(hf:#[9].fn x=true\/#[9].env.scope.names.lookup x=some .local:=by first|exact .inl rfl|exact .inr rfl|assumption) :
  SG #[9] (.Name x pos) (jD i):=Dx (X:=dY X nm scope cl C s0 H0 fp) hN hi hx hf
end
section
variable{f:FG}{m:Nat}
end
section
end
section
end
section
variable{f:Expr}{fk fd:FE}
def qE(fo fk:FE):FE:=fun ρ st=>(fo ρ st).bind fun x st=>match t8 st x with
 |some _=>(fk ρ st).bind fun y st=>(match t8 st x,vF y with
  |some (_,kvs),some k=>.ok ((j4 kvs k).getD .non) st
  |_,_=>.bad)
 |none=>.bad
theorem DE(hr:iK kk X.A)(ho:SE X o fo)(he:SE X e fe)(m:M1 X o "get" fH e dG:=by exact⟨by rfl,by rfl,by rfl,by rfl⟩):SE X (.Call (.Attribute o "get" fH) [e] [] dG) (qE fo fe):=⟨(FV (K1 hr) ho.h he.h m).imp fun σ H Q h=>by
 walk_at "2"
 walk_at "1"
 cases e0:t8 st1 x with
 |none=>rw[e0]at h1;exact h1.elim
 |some nk0=>
  obtain⟨n0,kvs0⟩:=nk0
  rw[e0]at h1
  simp only at h1
  obtain⟨a0,vs0,_,hm0,rfl,ha0,_⟩:=AA l1.sto e0 q1
  refine⟨a0,rfl,.inl ⟨_,ha0⟩,μ1,ρ,st1,l1,RK.bind h1 l1 fun μ2 c5 y u H2 p2 x2 l2 q2 h2=>?_⟩
  cases e1:t8 c5 x with
  |none=>rw[e1]at h2;exact h2.elim
  |some nk=>
   obtain⟨n,kvs⟩:=nk
   cases e2:vF y with
   |none=>rw[e1,e2]at h2;exact h2.elim
   |some k=>
    rw[e1,e2]at h2
    simp only at h2
    obtain⟨a,vs,_,hm,ea,ha,r⟩:=AA l2.sto e1 (q1.mono p2 x2)
    cases ea
    have:=DD e2 q2
    subst this
    rcases GB k r with⟨w,z,g1,g2,g3⟩|⟨g1,g2⟩
    ·rw[g1]at h2
     exact⟨some z,by rw[<- g2];exact Er.r ha,h2 μ2 z H2 (am _) fw.refl l2.sto g3⟩
    ·rw[g1]at h2
     exact⟨none,by rw[<- g2];exact Er.r ha,h2 μ2 .non H2 (am _) fw.refl l2.sto .non⟩⟩
end
section
variable{a:Expr}
end
section
end
section
variable{w:World}
variable{K:Type}[DecidableEq K]{U_:KeyKind prog w K}
end
section
end
end L2
namespace L2
open PySem PySem.Spec PyProof.Rows
structure NG(K:Frag)(mg:Str->Option Value)(c:Str)(fs:List Str):Prop where
 ex:∃C,mg c=some (.ref C)/\Cls K C/\∀f∈fs,qx K C f
noncomputable def nG(st:List al):W->Option (Nat×Str×List (Str×W))
 |.loc n=>(match st[n]? with
  |some (.obj c fs)=>some (n,c,fs)
  |_=>none)
 |_=>none
noncomputable def wQ(f:Str)(v:W):List (Str×W)->List (Str×W)
 |[]=>[(f,v)]
 |(g,x)::r=>if g=f then(g,v)::r else(g,x)::wQ f v r
noncomputable abbrev fV(fs:List (Str×W))(vs:List V):List (Str×V):=(fs.map fun p=>p.1).zip vs
section
theorem rE(S:jk K mg μ st H){x:W}{v:V}{c:Str}{fs:List (Str×W)}(h:nG st x=some (n,c,fs))(r:bG K μ H x v) :
  x=.loc n/\st[n]?=some (.obj c fs)/\∃a C dx vs,μ[n]?=some a/\v=.ref a/\mg c=some (.ref C)/\H a=some (.ins C dx (fV fs vs))/\RelWs K μ H (fs.map fun p=>p.2) vs:=by
 cases x with
 |loc m=>
  simp only[nG]at h
  cases e:st[m]? with
  |none=>rw[e]at h;cases h
  |some cc=>
   rw[e]at h
   cases cc with
   |obj c' z=>
    cases h
    obtain⟨a,g,C,dx,vs,m1,k,rr⟩:=S.get e
    obtain⟨b,f,rfl⟩:=r.locE
    rw[g]at f;cases f
    exact⟨rfl,e,a,C,dx,vs,g,rfl,m1,k,rr⟩
   |_=>cases h
 |_=>cases h
theorem yQ(f:Str):∀{fs:List (Str×W)} {vs:List V},RelWs K μ H (fs.map fun p=>p.2) vs->(∀w,fs.lookup f=some w->∃v,(fV fs vs).lookup f=some v/\bG K μ H w v)/\(fs.lookup f=none->(fV fs vs).lookup f=none)
 |[],vs,r=>⟨fun w h=>(by cases h),fun _=>rfl⟩
 |(g,x)::fs,vs,r=>by
  obtain⟨y,ys,rfl,a,b⟩:=RelWs.consE r
  have ih:=yQ f (fs:=fs) b
  have e1:List.lookup f ((g,x)::fs)=(match f==g with|true=>some x|false=>fs.lookup f):=rfl
  have e2:List.lookup f (fV ((g,x)::fs) (y::ys))=(match f==g with|true=>some y|false=>(fV fs ys).lookup f):=rfl
  rw[e1,e2]
  cases f==g with
  |true=>exact⟨fun w h=>(by cases h;exact⟨y,rfl,a⟩),fun h=>(by cases h)⟩
  |false=>exact ih
theorem GE(f:Str){w:W}{v:V}(om:bG K μ H w v):∀{fs:List (Str×W)} {vs:List V},RelWs K μ H (fs.map fun p=>p.2) vs->∃us,nX f v (fV fs vs)=fV (wQ f w fs) us/\RelWs K μ H ((wQ f w fs).map fun p=>p.2) us
 |[],vs,r=>⟨[v],rfl,.consI om .nilI⟩
 |(g,x)::fs,vs,r=>by
  obtain⟨y,ys,rfl,a,b⟩:=RelWs.consE r
  obtain⟨us,e,q⟩:=GE f om (fs:=fs) b
  show ∃us,(if g=f then(g,v)::fV fs ys else(g,y)::nX f v (fV fs ys))=_/\_
  by_cases h:g=f
  ·refine⟨v::ys,?_,?_⟩
   ·rw[aE h];show _=fV (if g=f then(g,w)::fs else(g,x)::wQ f w fs) _;rw[aE h];rfl
   ·show RelWs K μ H ((if g=f then(g,w)::fs else(g,x)::wQ f w fs).map fun p=>p.2) _
    rw[aE h];exact .consI om b
  ·refine⟨y::us,?_,?_⟩
   ·rw[aL h];show _=fV (if g=f then(g,w)::fs else(g,x)::wQ f w fs) _;rw[aL h,e];rfl
   ·show RelWs K μ H ((if g=f then(g,w)::fs else(g,x)::wQ f w fs).map fun p=>p.2) _
    rw[aL h];exact .consI a q
theorem f_.butI{l dx:Addr}{xs:List (Str×V)}(e:Ss l H H')(hl:H l=some (.ins C dx xs)):fw K H H':=by
 have zQ:∀{p:Addr} {o:HO},H p=some o->(∀c d zs,o≠.ins c d zs)->p≠l:=fun{p o} q hn z=>by subst z;rw[hl]at q;cases q;exact hn _ _ _ rfl
 refine⟨fun p ys h=>?_,fun b o u h=>e _ _ (zQ h (fun _ _ _ z=>by cases z)) h⟩
 rcases h with(h|⟨o,h⟩)|h
 ·exact .inl (.inl (e _ _ (zQ h (fun _ _ _ z=>by cases z)) h))
 ·exact .inl (.inr ⟨o,e _ _ (zQ h (fun _ _ _ z=>by cases z)) h⟩)
 ·exact .inr h
theorem jk.setI(S:jk K mg μ st H){a dx:Addr}{c:Str}{fs Sl:List (Str×W)}{xs:List (Str×V)}{us:List V}(hn:st[n]?=some (.obj c fs))(hm:μ[n]?=some a)(hc:mg c=some (.ref C))(ha:H a=some (.ins C dx xs))(hr:RelWs K μ H (Sl.map fun p=>p.2) us) :
  jk K mg μ (st.set n (.obj c Sl)) (fW H a (.ins C dx (fV Sl us))):=
 S.setG hn rfl hm ha (fun _ _ z=>by cases z) (fun _ z=>by cases z) (f_.butI jn ha) rfl ⟨C,dx,us,hc,gJ,hr.mono (am _) (f_.butI jn ha)⟩
end
section
variable{a value:Expr}{c f m:Str}{fl:List Str}{fs:FA}
def ji(c f:Str)(fa:FE):FE:=fun ρ st=>(fa ρ st).bind fun x st=>match nG st x with
 |some (_,c',fs)=>if c'=c then sU (fs.lookup f) fun w=>.ok w st else .bad
 |none=>.bad
theorem g9(hC:NG X.K X.mg c fl)(ha:SE X a fa)(hf:f∈fl:=by decide)(hb:attributeBase a f X.env (eval a X.env)=eval a X.env:=by rfl):SE X (.Attribute a f pos) (ji c f fa):=⟨(MS ha.h hb).imp fun σ H Q h=>by
 walk_at "2"
 walk_at "1"
 cases e0:nG st1 x with
 |none=>rw[e0]at h1;exact h1.elim
 |some nk=>
  obtain⟨n,c',fs⟩:=nk
  rw[e0]at h1
  simp only at h1
  obtain⟨rfl,hn,a,C,dx,vs,hm,rfl,hc,hI,rr⟩:=rE l1.sto e0 q1
  by_cases z:c'=c
  ·rw[aE z]at h1
   subst z
   obtain⟨C',hc',cl,na⟩:=hC.ex
   rw[hc]at hc';cases hc'
   unfold sU at h1
   split at h1
   ·rename_i w ew
    obtain⟨v,ev,rv⟩:=(yQ f rr).1 w ew
    exact⟨a,C,dx,_,v,rfl,hI,cl,na f hf,ev,h1 μ1 v H1 (am _) fw.refl l1.sto rv⟩
   ·exact h1.elim
  ·rw[aL z]at h1;exact h1.elim⟩
def oH(c f:Str)(fo fe:FE):FS:=fun ρ st=>(fe ρ st).stmt ρ fun y st=>(fo ρ st).stmt ρ fun x st=>match nG st x with
 |some (n,c',fs)=>if c'=c/\fs.length<900 then .nx ρ (st.set n (.obj c (wQ f y fs)))else .bad
 |none=>.bad
theorem ki(hC:NG X.K X.mg c fl)(ho:SE X o fo)(he:SE X value fe)(hf:f∈fl:=by decide)(hs:swapsWith value (some (.Attribute o f iq)) pos.line X.env=pure false:=by rfl):SS X (.Assign [.Attribute o f iq] value pos) (oH c f fo fe):=⟨(MU ho.h he.h hs).imp fun D σ H h=>by
 walk_at "2"
 refine⟨μ,ρ,st,l,RK.stmt h l fun μ1 st1 y yv H1 p1 x1 l1 q1 h1=>⟨μ1,ρ,st1,l1,RK.stmt h1 l1 fun μ2 c5 x xv H2 p2 x2 l2 q2 h2=>?_⟩⟩
 cases e0:nG c5 x with
 |none=>rw[e0]at h2;exact h2.elim
 |some nk=>
  obtain⟨n,c',fs⟩:=nk
  rw[e0]at h2
  simp only at h2
  obtain⟨rfl,hn,a,C,dx,vs,hm,rfl,hc,hI,rr⟩:=rE l2.sto e0 q2
  by_cases z:c'=c/\fs.length<900
  ·rw[aE z]at h2
   obtain⟨z,hz⟩:=z
   subst z
   obtain⟨C',hc',cl,na⟩:=hC.ex
   rw[hc]at hc';cases hc'
   obtain⟨us,e1,r1⟩:=GE f (q1.mono p2 x2) rr
   have fX:(fV fs vs).length<1000:=by
    unfold fV
    rw[List.length_zip,aF]
    omega
   refine⟨a,C,dx,_,rfl,hI,cl,na f hf,fX,?_⟩
   rw[e1]
   exact h2 μ2 σ _ (am _) (f_.butI jn hI) (l2.to (am _) (f_.butI jn hI) (l2.sto.setI hn hm hc hI r1))
  ·rw[aL z]at h2;exact h2.elim⟩
structure iF(P:Program)(w:World)(K:Frag)(mg:Str->Option Value)(base:Heap)(k:Nat)(c m:Str)(n:Nat)(F:List W->List al->R W):Prop where
 ex:∃(C g:Addr) (fd:FuncData) (ps:List Str),mg c=some (.ref C)/\Cls K C/\P6 K C m g/\ps.length=n/\qc K fd ps []/\c6 P w K mg base (hZ P w) k g fd ps (iD K mg n F)
theorem iF.mono{w:World}{k:Nat}(h:iF P w K mg base j c m n F)(hj:j<=k):iF P w K mg base k c m n F:=by
 obtain⟨C,g,fd,ps,a,b,b2,c,d,e⟩:=h.ex
 exact⟨C,g,fd,ps,a,b,b2,c,d,e.mono hj⟩
def iP(c m:Str)(n:Nat)(F:List W->List al->R W)(fo:FE)(fs:FA):FE:=fun ρ st=>(fo ρ st).bind fun x st=>match nG st x with
 |some (_,c',fl)=>if c'=c/\fl.lookup m=none then(fs ρ st).bind fun ws st=>if ws.length+1=n then F (x::ws) st else .bad else .bad
 |none=>.bad
theorem kj{k k':Nat}{pl:Sem Bool}(Fn:iF X.prog X.w X.K X.mg X.base k c m n F)(hr:iK k' X.A)(hk:k<=k')(ho:SE X o fo)(ha:SA X (e::es) fs)
  (sm:starEach (e::es) X.env=(false,eval e X.env)::starEach es X.env:=by rfl) (p_:(backTo pos (starEach es X.env)).any (·.1)=false:=by rfl)
  (ht:eval (.Call (.Attribute o m fH) (e::es) [] pos) X.env=(do
   let ov <- eval o X.env
   standAt fH.atName
   let (f,fst') <- holding [ov] (getMethod ov m pl)
   callWith pos f fst' (backTo pos (starEach (e::es) X.env)) (backToKw pos (keywordEach [] X.env))):=by rfl):SE X (.Call (.Attribute o m fH) (e::es) [] pos) (iP c m n F fo fs):=⟨by
 intro aj s σ H Q I h
 obtain⟨C,g,fd,ps,hc,cl,hm,hn,hb,Fo⟩:=(Fn.mono hk).ex
 walk_at "2"
 have h':tE X fo σ H fun x H1=>∃(a dx:Addr) (xs:List (Str×V)),x=.ref a/\H1 a=some (.ins C dx xs)/\xs.lookup m=none/\Qz X fs σ H1 fun vs H2=>∃μ2 c5 ws,Rl X μ2 ρ c5 σ H2/\RelWs X.K μ2 H2 ws (.ref a::vs)/\ws.length=n/\RK X (sN X) μ2 σ H2 Q (F ws c5):=by
  walk_at "1"
  cases e0:nG st1 x with
  |none=>rw[e0]at h1;exact h1.elim
  |some nk=>
   obtain⟨i,c',fl⟩:=nk
   rw[e0]at h1
   simp only at h1
   obtain⟨rfl,hi,a,C',dx,vs,hma,rfl,hc',hI,rr⟩:=rE l1.sto e0 q1
   by_cases z:c'=c/\fl.lookup m=none
   ·rw[aE z]at h1
    obtain⟨z,hz⟩:=z
    subst z
    rw[hc]at hc';cases hc'
    refine⟨a,dx,_,rfl,hI,(yQ m rr).2 hz,μ1,ρ,st1,l1,RK.bind h1 l1 fun μ2 c5 ws vs2 H2 p2 x2 l2 q2 h2=>?_⟩
    by_cases y:ws.length+1=n
    ·rw[aE y]at h2
     exact⟨μ2,c5,.loc i::ws,l2,.consI (q1.mono p2 x2) q2,y,h2⟩
    ·rw[aL y]at h2;exact h2.elim
   ·rw[aL z]at h1;exact h1.elim
 refine PySem.W.methodCall_KW (pl:=pl) (jC (ho.h aj s σ H _ I h') fun u s1 kt1 ⟨x,H1,I1,rx,a,dx,xs,ex,ea,lk,q⟩=>?_) ht
 subst ex
 obtain rfl:u=Value.ref a:=rx
 refine u3 I1 ea cl hm lk ?_
 refine PySem.W.callWith_K (first:=[.ref a]) (h₀:=X.base) I.ok.mod.kin hm.kp (jC (ha.h pos aj s1 σ H1 _ I1 q) fun us s2 kt2 ⟨vs,H2,I2,r,μ2,c5,ws,l2,r2,y,q2⟩=>⟨I2.kIn,?_⟩) sm p_
 exact Gx (us:=.ref a::us) (vs:=.ref a::vs) Fo hn hr hb I2 l2.sto r2 (.cons rfl r) y q2⟩
theorem rF{k k':Nat}(Fn:iF X.prog X.w X.K X.mg X.base k c m 1 F)(hr:iK k' X.A)(hk:k<=k')(ho:SE X o fo)
  (ht:eval (.Call (.Attribute o m fH) [] [] pos) X.env=(do
   let ov <- eval o X.env
   standAt fH.atName
   let (f,fst') <- holding [ov] (getMethod ov m pl)
   callWith pos f fst' (backTo pos (starEach [] X.env)) (backToKw pos (keywordEach [] X.env))):=by rfl):SE X (.Call (.Attribute o m fH) [] [] pos) (iP c m 1 F fo aD):=⟨by
 intro aj s σ H Q I h
 obtain⟨C,g,fd,ps,hc,cl,hm,hn,hb,Fo⟩:=(Fn.mono hk).ex
 walk_at "2"
 have h':tE X fo σ H fun x H1=>∃(a dx:Addr) (xs:List (Str×V)),x=.ref a/\H1 a=some (.ins C dx xs)/\xs.lookup m=none/\∃μ2 c5 ws,Rl X μ2 ρ c5 σ H1/\RelWs X.K μ2 H1 ws [.ref a]/\ws.length=1/\RK X (sN X) μ2 σ H1 Q (F ws c5):=by
  walk_at "1"
  cases e0:nG st1 x with
  |none=>rw[e0]at h1;exact h1.elim
  |some nk=>
   obtain⟨i,c',fl⟩:=nk
   rw[e0]at h1
   simp only at h1
   obtain⟨rfl,hi,a,C',dx,vs,hma,rfl,hc',hI,rr⟩:=rE l1.sto e0 q1
   by_cases z:c'=c/\fl.lookup m=none
   ·rw[aE z]at h1
    obtain⟨z,hz⟩:=z
    subst z
    rw[hc]at hc';cases hc'
    exact⟨a,dx,_,rfl,hI,(yQ m rr).2 hz,μ1,st1,[.loc i],l1,.consI q1 .nilI,rfl,h1⟩
   ·rw[aL z]at h1;exact h1.elim
 refine PySem.W.methodCall_KW (pl:=pl) (jC (ho.h aj s σ H _ I h') fun u s1 kt1 ⟨x,H1,I1,rx,a,dx,xs,ex,ea,lk,μ2,c5,ws,l2,r2,y,q2⟩=>?_) ht
 subst ex
 obtain rfl:u=Value.ref a:=rx
 refine u3 I1 ea cl hm lk ?_
 exact PySem.W.callWith_K0 (first:=[.ref a]) I1.kIn hm.kp (Gx (us:=[.ref a]) (vs:=[.ref a]) Fo hn hr hb I1 l2.sto r2 (.cons rfl .nil) y q2)⟩
structure Kp(P:Program)(w:World)(K:Frag)(mg:Str->Option Value)(base:Heap)(k:Nat)(c:Str)(n:Nat)(F:List W->List al->R W):Prop where
 ex:∃(C g:Addr) (fd:FuncData) (ps:List Str),mg c=some (.ref C)/\Mk K C g/\ps.length=n/\qc K fd ps []/\c6 P w K mg base (hZ P w) k g fd ps (iD K mg n F)
def DF(c:Str)(n:Nat)(F:List W->List al->R W)(fs:FA):FE:=fun ρ st=>(fs ρ st).bind fun ws st=>if ws.length+1=n then(match F (.loc st.length::ws) (st++[.obj c []])with
  |.ok .non bn=>.ok (.loc st.length) bn
  |_=>.bad)else .bad
theorem NH{k k':Nat}(Fn:Kp X.prog X.w X.K X.mg X.base k c n F)(hr:iK k' X.A)(hk:k+1<=k')(ha:SA X (e::es) fs)(hg:Gl X c:=by rfl)(IJ:(c==("__debug__":Str))=false:=by decide)
  (he:starEach (e::es) X.env=(false,eval e X.env)::starEach es X.env:=by rfl) (p_:(backTo pos (starEach es X.env)).any (·.1)=false:=by rfl):SE X (.Call (.Name c p) (e::es) [] pos) (DF c n F fs):=⟨by
 intro aj s σ H Q I h
 obtain⟨C,g,fd,ps,hc,M,hn,hb,Fo⟩:=Fn.ex
 refine fK (uO I hg hc ?_ IJ)
 walk_at "2"
 have h':Qz X fs σ H fun vs H1=>∃μ1 st1 ws c5,Rl X μ1 ρ st1 σ H1/\RelWs X.K μ1 H1 ws vs/\ws.length+1=n/\F (.loc st1.length::ws) (st1++[.obj c []])=.ok .non c5/\RK X (sN X) μ1 σ H1 Q (.ok (.loc st1.length) c5):=by
  walk_at "1"
  by_cases y:x.length+1=n
  ·rw[aE y]at h1
   split at h1
   ·rename_i c5 e2
    exact⟨μ1,st1,x,c5,l1,q1,y,e2,h1⟩
   ·exact h1.elim
  ·rw[aL y]at h1;exact h1.elim
 refine PySem.W.callWith_K (h₀:=X.base) I.ok.mod.kin M.kp (jC (ha.h pos aj s σ H _ I h') fun us s1 kt1 ⟨vs,H1,I1,r,μ1,st1,ws,c5,l1,r1,y,e2,q⟩=>⟨I1.kIn,?_⟩) he p_
 refine FH (dvs:=[]) (ds:=[]) (E:=fun _ _ _=>False) M Fo (hr.mono hk) hb .nil (fun aj σ H s e s' I ht hq=>by obtain⟨_,_,_,_,_,_,z,_⟩:=hq;exact z.elim) I1 r fun x dx hx hdx zQ=>?_
 have hs1:uq H1 (fW H1 dx (.own x)):=df hdx _
 have hx1:(fW H1 dx (.own x)) x=none:=by rw[c_ (Ne.symm zQ)];exact hx
 have tN:uq (fW H1 dx (.own x)) (fW (fW H1 dx (.own x)) x (.ins C dx [])):=df hx1 _
 have xt:fw X.K H1 (fW (fW H1 dx (.own x)) x (.ins C dx [])):=(f_.same hs1).trans (f_.same tN)
 have S2:jk X.K X.mg (μ1++[x]) (st1++[.obj c []]) (fW (fW H1 dx (.own x)) x (.ins C dx [])):=(l1.sto.same hs1).push (c:=.obj c []) hx1 ⟨C,dx,[],hc,gJ,.nilI⟩
 have hmx:(μ1++[x])[st1.length]?=some x:=by rw[l1.sto.len];simp
 refine⟨by rw[bx,bg,<- r1.len];exact y,μ1++[x],.loc st1.length::ws,st1++[.obj c []],S2,.consI (.locI hmx) (by rw[bx];exact r1.mono (be _ _) xt),?_⟩
 rw[e2]
 intro μ' v H' pp xx S' rv
 exact⟨rv.nonE,q μ' (.ref x) H' ((be _ _).trans pp) (xt.trans xx) S' (.locI (L2.pre_get pp hmx))⟩⟩
end
noncomputable def iQ:Stmt->List Stmt
 |.ClassDef _ _ _ b _ _ _ _ _ _ _=>b
 |_=>[]
inductive DefM(K:Frag)(C:Addr)(q m:Str)(st:Stmt):Prop
 |mk {ad:Addr} {od an:Option Addr} {sl:Array (Option Value)} {oc kV dc pm cd ct:Value} (a:findIn K (.ref C) m=some (some (.ref ad))) (i:isFn K (.ref ad)=true)
   (l:K.lookup ad=some ⟨oc,od,.func (fnOf m q (ig st) (gB st) (aQ st) .none kV dc pm an cd ct),sl⟩) (c:codeIn K cd q=true) (k:keepIn K (.ref ad)=true):DefM K C q m st
section
variable{w:World}{k:Nat}{c q m:Str}{st:Stmt}
theorem k9(d:DefM K C q m st)(hC:mg c=some (.ref C))(cl:Cls K C)(ok:∀{f:Addr} {fd:FuncData},iC K m q st f fd->c6 P w K mg base (hZ P w) k f fd ps (iD K mg n G))(hn:ps.length=n:=by rfl)
  (hb:∀(kV sE pm:Value) (an:Option Addr) (fA ct:Value) (us:List Value),us.length=ps.length->bindArgs (fnOf m q (ig st) (gB st) (aQ st) .none kV sE pm an fA ct) ⟨us,[]⟩=pure (ps.zip us):=by(intro _ _ _ _ _ _ _ q;first|(obtain⟨_,rfl⟩:=SF q;rfl)|(obtain⟨_,_,rfl⟩:=SH q;rfl)|(obtain⟨_,_,_,rfl⟩:=SJ q;rfl)|(obtain⟨_,_,_,_,rfl⟩:=SL q;rfl)|(obtain⟨_,_,_,_,_,rfl⟩:=SM q;rfl)|(obtain⟨_,_,_,_,_,_,rfl⟩:=TV q;rfl))):iF P w K mg base k c m n G:=by
 obtain⟨a,i,l,cc,kk⟩:=d
 exact⟨C,_,_,ps,hC,cl,⟨a,i,kk⟩,hn,qc.all fun us hl=>hb _ _ _ _ _ _ us hl,ok (yy (st:=st) l cc kk)⟩
theorem NI(d:DefM K C q "__init__" st)(hC:mg c=some (.ref C))(mk:makesIn K C=true)(kc:keepIn K (.ref C)=true)(ok:∀{f:Addr} {fd:FuncData},iC K "__init__" q st f fd->c6 P w K mg base (hZ P w) k f fd ps (iD K mg n G))(hn:ps.length=n:=by rfl)
  (hb:∀(kV sE pm:Value) (an:Option Addr) (fA ct:Value) (us:List Value),us.length=ps.length->bindArgs (fnOf "__init__" q (ig st) (gB st) (aQ st) .none kV sE pm an fA ct) ⟨us,[]⟩=pure (ps.zip us):=by(intro _ _ _ _ _ _ _ q;first|(obtain⟨_,rfl⟩:=SF q;rfl)|(obtain⟨_,_,rfl⟩:=SH q;rfl)|(obtain⟨_,_,_,rfl⟩:=SJ q;rfl)|(obtain⟨_,_,_,_,rfl⟩:=SL q;rfl)|(obtain⟨_,_,_,_,_,rfl⟩:=SM q;rfl)|(obtain⟨_,_,_,_,_,_,rfl⟩:=TV q;rfl))):Kp P w K mg base k c n G:=by
 obtain⟨a,i,l,cc,kk⟩:=d
 exact⟨C,_,_,ps,hC,⟨mk,a,i,kc⟩,hn,qc.all fun us hl=>hb _ _ _ _ _ _ us hl,ok (yy (st:=st) l cc kk)⟩
end
end L2
namespace L2
open PySem PySem.Spec PyProof.Rows
theorem ij(st x:List al)(k:Nat):(st++x)[st.length+k]?=x[k]?:=by rw[aY #[0]];congr 1;omega
theorem dC(st x:List al):(st++x)[st.length]?=x[0]?:=ij st x 0
theorem mE(st x:List al)(k:Nat)(c:al):(st++x).set (st.length+k) c=st++x.set k c:=by rw[oh _ _ #[0]];congr 2;omega
theorem fx(st x:List al)(c:al):(st++x).set st.length c=st++x.set 0 c:=mE st x 0 c
theorem cJ{x:List al}{c:al}(h:st[n]?=some c):(st++x)[n]?=some c:=by
 rw[aK (au.mp h).1];exact h
theorem Cl(st:List al)(ws:List W):hX st st ws=st:=by unfold hX;split<;>simp
theorem xJ{st x:List al}{ws:List W}(h:undWs st.length ws=true):hX st (st++x) ws=st:=by
 unfold hX
 rw[aE ⟨h,by simp,fun i hi=>.inl (aK hi)⟩]
 simp
theorem xK(h:undWs st.length ws=false):hX st bn ws=bn:=by
 unfold hX
 rw[aL fun k=>by have:=k.1;rw[h]at this;cases this]
theorem jt{N:Nat}{body:FS}{ws:List W}{w:W}(h:body #[14] st=.rt w bn):de N body ws st=.ok w (hX st bn [w]):=by
 unfold de;rw[h]
theorem pN{w:W}(h:body #[14] st=.rt w st):de N body ws st=.ok w st:=by
 rw[jt h,Cl]
theorem AB{x:List al}{w:W}(h:body #[14] st=.rt w (st++x))(hu:undWs st.length [w]=true):de N body ws st=.ok w st:=by
 rw[jt h,xJ hu]
theorem GF{x:List al}{k:Nat}(h:body #[14] st=.rt (.loc (st.length+k)) (st++x)):de N body ws st=.ok (.loc (st.length+k)) (st++x):=by
 rw[jt h,xK (by simp[undWs,W.und])]
theorem GG{g g':FS}{ρ':cM}(h:g ρ st=.nx ρ' bn):aI g g' ρ st=g' ρ' bn:=by unfold aI;rw[h]
theorem yR{f:FG}{k:Gu}(h:fi ρ st=.ok k bn):kZ fi f body ρ st=nY f body k.2 k.1 ρ bn:=by unfold kZ;rw[h];rfl
theorem AC{f:FG}{body:FS}{ck:Option (Nat×List W)}(I:Nat->cM->List al->Prop):∀{ws:List W} {ρ:cM} {st:List al} (i0:Nat),I i0 ρ st->(∀i ρ st,I i ρ st->jq st ck) ->
  (∀i w ρ st,ws[i]?=some w->I (i0+i) ρ st->∃ρ' ρ2 c5,f w ρ=some ρ'/\body ρ' st=.nx ρ2 c5/\I (i0+i+1) ρ2 c5) ->
  ∃ρ2 c5,nY f body ck ws ρ st=.nx ρ2 c5/\I (i0+ws.length) ρ2 c5
 |[],ρ,st,i0,h0,hc,hs=>⟨ρ,st,by unfold nY;rw[aE (hc _ _ _ h0)],h0⟩
 |w::ws,ρ,st,i0,h0,hc,hs=>by
  obtain⟨ρ',ρ2,c5,e1,e2,h1⟩:=hs 0 w ρ st rfl h0
  obtain⟨ρ3,lW,e3,h3⟩:=AC I (ws:=ws) (ρ:=ρ2) (st:=c5) (i0+1) h1 hc fun i w ρ st hw hI=>by
   obtain⟨a,b,c,d,e,g⟩:=hs (i+1) w ρ st (by simpa using hw) (by rw[show i0+(i+1)=i0+1+i by omega];exact hI)
   exact⟨a,b,c,d,e,by rw[show i0+1+i+1=i0+(i+1)+1 by omega];exact g⟩
  refine⟨ρ3,lW,?_,by rw[bg,show i0+(ws.length+1)=i0+1+ws.length by omega];exact h3⟩
  unfold nY
  rw[aE (hc _ _ _ h0),e1]
  simp only[e2]
  exact e3
theorem EM{t:FT}{g:FS}(I:Nat->cM->List al->Prop):∀(n:Nat) {ρ:cM} {st:List al},I n ρ st ->
  (∀n ρ st,I n ρ st->t ρ st=.ok false st\/(t ρ st=.ok true st/\∃ρ2 c5 m,g ρ st=.nx ρ2 c5/\m<n/\I m ρ2 c5)) ->
  ∃m ρ2 c5,mU t g ρ st=.nx ρ2 c5/\I m ρ2 c5/\t ρ2 c5=.ok false c5:=by
 intro n ρ st h hs
 have key:∀(k n:Nat) (ρ:cM) (st:List al),n<k->I n ρ st->∃m ρ2 c5,dE t g k ρ st=.nx ρ2 c5/\I m ρ2 c5/\t ρ2 c5=.ok false c5:=by
  intro k
  induction k with
  |zero=>intro n _ _ h;exact absurd h (iW _)
  |succ k ih=>
   intro n ρ st hk hI
   rcases hs n ρ st hI with e|⟨e,ρ2,c5,m,e2,hm,h2⟩
   ·exact⟨n,ρ,st,by unfold dE;rw[e];rfl,hI,e⟩
   ·obtain⟨m',ρ3,lW,e3,h3⟩:=ih m ρ2 c5 #[0] h2
    exact⟨m',ρ3,lW,by unfold dE;rw[e];simp only[R.stmt_ok,f6,e2];exact e3,h3⟩
 obtain⟨m,ρ2,c5,e,h2⟩:=key (n+1) n ρ st (b7 n) h
 exact⟨m,ρ2,c5,pL e #[15],h2⟩
section
variable{ρ':cM}{c5 lW SV:List al}{fb fi:FE}{fs:FA}{u:FT}{x y z w v:W}{xs zs:List W}{m:Nat}{a b k:Bool}{g g':FS}
theorem ju(h:ρ[i]?=some (some w)):ag i ρ st=.ok w st:=by unfold ag;rw[h]
theorem bW:eC w ρ st=.ok w st:=rfl
theorem bu{f:W->W->List al->R W}(h1:fa ρ st=.ok x st1)(h2:fb ρ st1=.ok y c5)(h3:f x y c5=.ok z lW):e2 f fa fb ρ st=.ok z lW:=by unfold e2;rw[h1];simp only[R.bind_ok];rw[h2];exact h3
theorem aZ:aD ρ st=.ok [] st:=rfl
theorem aw(h1:fa ρ st=.ok x st1)(h2:fs ρ st1=.ok xs c5):ai fa fs ρ st=.ok (x::xs) c5:=by unfold ai;rw[h1];simp only[R.bind_ok];rw[h2];rfl
theorem NJ:QH ls ρ st=.ok (ls.map W.str) st:=rfl
theorem eX(h1:fs ρ st=.ok ws st1)(h2:ws.length<=my):ga fs ρ st=.ok (.tup ws) st1:=by unfold ga;rw[h1];simp only[R.bind_ok,qg];rw[aE h2]
theorem nH(h1:fs ρ st=.ok ws st1)(h2:ws.length<=my):kg fs ρ st=.ok (.loc st1.length) (st1++[.lst ws]):=by unfold kg;rw[h1];simp only[R.bind_ok,qh];rw[aE h2]
theorem cC(h1:fs ρ st=.ok ws st1)(h2:F ws st1=.ok w c5):bE F fs ρ st=.ok w c5:=by unfold bE;rw[h1];exact h2
theorem cy(h1:fs ρ st=.ok ws st1)(h2:F ws st1=.ok w c5)(hn:ws.length=n):cu n F fs ρ st=.ok w c5:=by unfold cu;rw[h1];simp only[R.bind_ok];rw[aE hn];exact h2
theorem a7(h:fa ρ st=.ok (.bl k) st1):eF fa ρ st=.ok k st1:=by unfold eF;rw[h];rfl
theorem DG(h1:t ρ st=.ok true st1)(h2:u ρ st1=.ok k c5):QC t u ρ st=.ok k c5:=by unfold QC;rw[h1];exact h2
theorem DH(h1:t ρ st=.ok false st1):QC t u ρ st=.ok false st1:=by unfold QC;rw[h1];rfl
theorem pR(h1:t ρ st=.ok false st1)(h2:u ρ st1=.ok k c5):Jf t u ρ st=.ok k c5:=by unfold Jf;rw[h1];exact h2
theorem DI(h1:t ρ st=.ok true st1):Jf t u ρ st=.ok true st1:=by unfold Jf;rw[h1];rfl
theorem xL(h1:t ρ st=.ok a st1)(h2:(!a)=k):Fe t ρ st=.ok k st1:=by unfold Fe;rw[h1,<- h2];rfl
theorem yS(h1:fa ρ st=.ok (.bl true) st1)(h2:fb ρ st1=.ok w c5):Cb fa fb ρ st=.ok w c5:=by unfold Cb;rw[h1];exact h2
theorem Q1(h1:fa ρ st=.ok (.bl a) st1)(h2:(!a)=k):J4 fa ρ st=.ok (.bl k) st1:=by unfold J4;rw[h1,<- h2];rfl
theorem t9(h1:t ρ st=.ok true st1)(h2:fa ρ st1=.ok w c5):Gf t fa fb ρ st=.ok w c5:=by unfold Gf;rw[h1];exact h2
theorem t_(h1:t ρ st=.ok false st1)(h2:fb ρ st1=.ok w c5):Gf t fa fb ρ st=.ok w c5:=by unfold Gf;rw[h1];exact h2
theorem ik{F:W->List W->List al->R W}(h1:fo ρ st=.ok x st1)(hl:k6 st1 x=true)(h2:fs ρ st1=.ok ws c5)(h3:F x ws c5=.ok w lW):k7 F fo fs ρ st=.ok w lW:=by unfold k7;rw[h1];simp only[R.bind_ok];rw[aE hl,h2];exact h3
theorem Kq{F:W->List W->List al->R W}(h1:fo ρ st=.ok x st1)(hl:xD x=true)(h2:fs ρ st1=.ok ws c5)(h3:F x ws c5=.ok w lW):Jg F fo fs ρ st=.ok w lW:=by unfold Jg;rw[h1];simp only[R.bind_ok];rw[aE hl,h2];exact h3
theorem dv(h:st[n]?=some (.lst ws)):k6 st (.loc n)=true:=by simp only[k6,h]
theorem uc{q:Int}(h:fa ρ st=.ok (.int q) st1):pY fa ρ st=.ok (.int (-q)) st1:=by unfold pY;rw[h];rfl
theorem Q3{c:String}(h:fa ρ st=.ok x st1)(hx:x.ty=some c)(hk:Kc c T=k):vz T fa ρ st=.ok (.bl k) st1:=by unfold vz;rw[h];simp only[R.bind_ok,hx,hk]
theorem AD(h:fa ρ st=.ok x st1)(hk:x.isNon=k):yG fa ρ st=.ok (.bl k) st1:=by unfold yG;rw[h,<- hk];rfl
theorem dU(h:fa ρ st=.ok x st1)(hk:(!x.isNon)=k):gu fa ρ st=.ok (.bl k) st1:=by unfold gu;rw[h,<- hk];rfl
theorem s9:gK ρ st=.ok none st:=rfl
theorem mF{q:Int}(h:fa ρ st=.ok (.int q) st1):eV fa ρ st=.ok (some q) st1:=by unfold eV;rw[h];rfl
theorem mG{fl fh:FO}{l h:Option Int}(h1:fa ρ st=.ok x st1)(h2:fl ρ st1=.ok l c5)(h3:fh ρ c5=.ok h lW)(h4:wF x l h lW=.ok w SV):qX fa fl fh ρ st=.ok w SV:=by unfold qX;rw[h1];simp only[R.bind_ok];rw[h2];simp only[R.bind_ok];rw[h3];exact h4
theorem a_(h:fe ρ st=.ok w st1):ba i fe ρ st=.nx (ρ.set i (some w)) st1:=by unfold ba;rw[h];rfl
theorem d6(h:fe ρ st=.ok w st1):c7 fe ρ st=.nx ρ st1:=by unfold c7;rw[h];rfl
theorem oI(h:fe ρ st=.ok w st1):cW fe ρ st=.rt w st1:=by unfold cW;rw[h];rfl
theorem AE{f:W->W->W->List al->Option (List al)}(h1:fe ρ st=.ok v st1)(h2:fo ρ st1=.ok x c5)(h3:fi ρ c5=.ok y lW)(h4:f x y v lW=some SV):wO fo fi fe f ρ st=.nx ρ SV:=by
 unfold wO;rw[h1];simp only[R.stmt_ok];rw[h2];simp only[R.stmt_ok];rw[h3];simp only[R.stmt_ok];rw[h4]
theorem cN{r:RS}(h1:t ρ st=.ok true st1)(h2:g ρ st1=r):fO t g g' ρ st=r:=by unfold fO;rw[h1];exact h2
theorem cG{r:RS}(h1:t ρ st=.ok false st1)(h2:g' ρ st1=r):fO t g g' ρ st=r:=by unfold fO;rw[h1];exact h2
theorem d7:bK ρ st=.nx ρ st:=rfl
theorem bN{r:RS}(h:g ρ st=.nx ρ' st1)(h2:g' ρ' st1=r):aI g g' ρ st=r:=by rw[GG h];exact h2
theorem md(h:g ρ st=.rt w st1):aI g g' ρ st=.rt w st1:=by unfold aI;rw[h]
theorem dX{p q:Int}:cQ (.int p) (.int q) st=.ok (.int (p+q)) st:=rfl
theorem Cm{p q:List Nat}(h:p.length+q.length<=my):cQ (.str p) (.str q) st=.ok (.str (p++q)) st:=by simp only[cQ];rw[aE h]
theorem jv{C:Int->Int->Prop}[∀i j,Decidable (C i j)]{f:Int->Int->Int}{p q:Int}(h:C p q):EE C f (.int p) (.int q) st=.ok (.int (f p q)) st:=by simp only[EE];rw[aE h]
theorem qF{p q:Int}(h:Nm p q):iB (.int p) (.int q) st=.ok (.int (p*q)) st:=by simp only[iB];rw[aE h]
theorem nI{f:Int->Int->Bool}{p q:Int}(h:f p q=k):EF f (.int p) (.int q) st=.ok (.bl k) st:=by rw[<- h];rfl
theorem GH{p q:Int}(h:decide (p<=q)=k):TR (.int p) (.int q) st=.ok (.bl k) st:=by rw[<- h];rfl
theorem gj{p q:Int}(h:(p==q)=k):iN (.int p) (.int q) st=.ok (.bl k) st:=by rw[<- h];rfl
theorem Q4{p q:Int}(h:(!(p==q))=k):J9 (.int p) (.int q) st=.ok (.bl k) st:=by rw[<- h];rfl
theorem dD{p q:List Nat}(h:(p==q)=k):iN (.str p) (.str q) st=.ok (.bl k) st:=by rw[<- h];rfl
theorem oJ{q:Int}(h:sK ws q=some w):bj (.tup ws) (.int q) st=.ok w st:=by unfold bj;simp only[h,eU]
theorem kv(h:ρ[i]?=some (some w):=by rfl):ag i ρ st=.ok w st:=ju h
theorem ox{q:Int}(h:sK ws q=some w:=by rfl):bj (.tup ws) (.int q) st=.ok w st:=oJ h
theorem kn(h:ρ[i]?=some (some w):=by rfl):ai (ag i) aD ρ st=.ok [w] st:=aw (ju h) aZ
theorem kx{q:Int}(h:ρ[i]?=some (some (.tup ws)):=by rfl)(h2:sK ws q=some w:=by rfl):e2 bj (ag i) (eC (.int q)) ρ st=.ok w st:=bu (ju h) bW (oJ h2)
theorem GI{q:Int}{c:Nat}(hl:l.length<=my)(h:sK l q=some c):bj (.str l) (.int q) st=.ok (.str [c]) st:=by unfold bj;simp only[h,eU];rw[aE hl]
theorem j6{q:Int}(hl:lstOf st n=some ws)(h:sK ws q=some w):bj (.loc n) (.int q) st=.ok w st:=by unfold bj;simp only[hl,h,eU]
theorem Cn:dI [.tup ws] st=.ok (.int ws.length) st:=rfl
theorem yT(h:l.length<=my):dI [.str l] st=.ok (.int l.length) st:=by unfold dI;simp only;rw[aE h]
theorem k_(hl:lstOf st n=some ws):dI [.loc n] st=.ok (.int ws.length) st:=by unfold dI;simp only[hl,eU]
theorem b6(h:st[n]?=some (.lst ws)):lstOf st n=some ws:=by unfold lstOf;rw[h]
theorem rG(h:st[n]?=some (.ro ws)):lstOf st n=some ws:=by unfold lstOf;rw[h]
theorem nJ(h:st[n]?=some (.lst ws))(hl:ws.length<my):bU (.loc n) [y] st=.ok .non (st.set n (.lst (ws++[y]))):=by unfold bU;simp only[h];rw[aE hl]
theorem vG(h:st[n]?=some (.lst (ws++[y]))):mD (.loc n) [] st=.ok y (st.set n (.lst ws)):=by unfold mD;simp only[h];simp
theorem NK{q:Int}(h:st[n]?=some (.lst ws))(hi:De ws.length q=some j):qi (.loc n) (.int q) v st=some (st.set n (.lst (ws.set j v))):=by unfold qi;simp only[h,hi];rfl
theorem Co{sep:List Nat}(h:lstOf st n=some (ls.map W.str))(hl:(ls.map List.length).sum+ls.length*sep.length<=my):nF (.str sep) [.loc n] st=.ok (.str (kX sep ls)) st:=by
 unfold nF;simp only[h,eU,xE];rw[aE hl]
theorem Q5{l h:Option Int}(hl:lstOf st n=some ws):wF (.loc n) l h st=.ok #[5] (st++[.lst (jp ws l h)]):=by unfold wF;simp only[hl,eU]
theorem GJ{l h:Option Int}{z:List Nat}(hl:z.length<=my):wF (.str z) l h st=.ok (.str (jp z l h)) st:=by unfold wF;simp only;rw[aE hl]
theorem AF{l h:Option Int}:wF (.tup ws) l h st=.ok (.tup (jp ws l h)) st:=rfl
theorem uT(h:fe ρ st=.ok (.tup ws) st1):gy fe ρ st=.ok (ws,none) st1:=by unfold gy;rw[h];rfl
theorem yU(h:fe ρ st=.ok (.loc n) st1)(hl:lstOf st1 n=some ws):gy fe ρ st=.ok (ws,some (n,ws)) st1:=by unfold gy;rw[h];simp only[R.bind_ok,hl]
theorem jw{q:Int}(h:fs ρ st=.ok [.int q] st1)(hq:-(2^62)<=q/\q<2^62):dP fs ρ st=.ok (gC 0 q.toNat,none) st1:=by unfold dP;rw[h];simp only[R.bind_ok];rw[aE hq]
theorem GK{l:List W}{q:Nat}(h:l.reverse[q]?=some x):sK l (-((q:Int)+1))=some x:=by
 have hq:q<l.length:=by have:=(au.mp h).1;simpa using this
 unfold sK De
 rw[aL #[0],aE #[0]]
 rw[List.getElem?_reverse hq]at h
 simp only[Option.bind_some]
 rw[show((-((q:Int)+1))+(l.length:Int)).toNat=l.length-1-q by omega]
 exact h
theorem gk{l:List α}{q:Nat}{x:α}(h:l[q]?=some x):sK l (q:Int)=some x:=by
 have hq:q<l.length:=(au.mp h).1
 unfold sK De
 rw[aE #[0],aE #[0]]
 simpa using h
def kI(P:RS->Prop)(r:RS):Prop:=P r
def Kr(I:cM->List al->Prop):RS->Prop:=fun r=>∃ρ st,r=.nx ρ st/\I ρ st
def zO(I:W->List al->Prop):RS->Prop:=fun r=>∃w st,r=.rt w st/\I w st
variable{P:RS->Prop}{iJ:FS}
theorem dw{r r':RS}(h:r=r')(h2:P r'):kI P r:=by rw[h];exact h2
theorem aA(h:g ρ st=.nx ρ' st1)(h2:kI P (g' ρ' st1)):kI P (aI g g' ρ st):=by rw[GG h];exact h2
theorem ud(h1:t ρ st=.ok true st1)(h2:kI P (g ρ st1)):kI P (fO t g g' ρ st):=by rw[cN h1 rfl];exact h2
theorem oK(h1:t ρ st=.ok false st1)(h2:kI P (g' ρ st1)):kI P (fO t g g' ρ st):=by rw[cG h1 rfl];exact h2
theorem fy(h1:t ρ st=.ok true st1)(h2:kI P (aI g iJ ρ st1)):kI P (aI (fO t g g') iJ ρ st):=by
 unfold aI at h2 ⊢;rw[cN h1 rfl];exact h2
theorem bO(h1:t ρ st=.ok false st1)(h2:kI P (aI g' iJ ρ st1)):kI P (aI (fO t g g') iJ ρ st):=by
 unfold aI at h2 ⊢;rw[cG h1 rfl];exact h2
theorem pS{h:FS}(h2:kI P (aI g (aI g' h) ρ st)):kI P (aI (aI g g') h ρ st):=by
 unfold aI at h2 ⊢
 cases e:g ρ st<;>simp only[e]at h2 ⊢ <;> exact h2
theorem cv(h2:kI P (iJ ρ st)):kI P (aI bK iJ ρ st):=h2
theorem bQ(h:fe ρ st=.ok w st1)(h2:P (.rt w st1)):kI P (cW fe ρ st):=by rw[oI h];exact h2
theorem eG(h:fe ρ st=.ok w st1)(h2:P (.rt w st1)):kI P (aI (cW fe) iJ ρ st):=by rw[md (oI h)];exact h2
theorem gb{fi:FI}{f:FG}{k:Gu}(I:Nat->cM->List al->Prop)(h:fi ρ st=.ok k st1)(h0:I 0 ρ st1)(hc:∀i ρ st,I i ρ st->jq st k.2)
  (hs:∀i w ρ st,k.1[i]?=some w->I i ρ st->∃ρ',f w ρ=some ρ'/\kI (Kr (I (i+1))) (body ρ' st)) (he:∀ρ st,I k.1.length ρ st->kI P (iJ ρ st)):kI P (aI (kZ fi f body) iJ ρ st):=by
 obtain⟨ρ2,c5,e,h2⟩:=AC (f:=f) (body:=body) (ck:=k.2) I (ws:=k.1) (ρ:=ρ) (st:=st1) 0 h0 hc fun i w ρ st hw hI=>by
  rw[iz]at hI ⊢
  obtain⟨ρ',e1,ρ2,c5,e2,h2⟩:=hs i w ρ st hw hI
  exact⟨ρ',ρ2,c5,e1,e2,h2⟩
 rw[iz]at h2
 exact aA (by rw[yR h];exact e) (he _ _ h2)
theorem EN(I:Nat->cM->List al->Prop)(n:Nat)(h0:I n ρ st)
  (hs:∀n ρ st,I n ρ st->t ρ st=.ok false st\/(t ρ st=.ok true st/\kI (Kr fun ρ2 c5=>∃m,m<n/\I m ρ2 c5) (body ρ st))) (he:∀m ρ st,I m ρ st->t ρ st=.ok false st->kI P (iJ ρ st)):kI P (aI (mU t body) iJ ρ st):=by
 obtain⟨m,ρ2,c5,e,h2,h3⟩:=EM (t:=t) (g:=body) I n h0 fun n ρ st hI=>by
  rcases hs n ρ st hI with e|⟨e,ρ2,c5,e2,m,hm,h2⟩
  ·exact .inl e
  ·exact .inr ⟨e,ρ2,c5,m,e2,hm,h2⟩
 exact aA e (he _ _ _ h2 h3)
theorem rH{Q:W->Prop}(h:kI (zO fun w bn=>(∃x,bn=st++x)/\undWs st.length [w]=true/\Q w) (body #[14] st)):∃w,Q w/\de N body ws st=.ok w st:=by
 obtain⟨w,bn,e,⟨x,rfl⟩,hu,q⟩:=h
 exact⟨w,q,AB e hu⟩
theorem f9{N:Nat}{body:FS}(h:kI (zO fun w' bn=>w'=w/\∃x,bn=st++x) (body #[14] st))(hu:undWs st.length [w]=true):de N body ws st=.ok w st:=by
 obtain⟨w,bn,e,rfl,x,rfl⟩:=h
 exact AB e hu
theorem rJ{Q:Nat->List al->Prop}(h:kI (zO fun w bn=>∃j x,w=.loc (st.length+j)/\bn=st++x/\Q j x) (body #[14] st)):∃j x,Q j x/\de N body ws st=.ok (.loc (st.length+j)) (st++x):=by
 obtain⟨w,bn,e,j,x,rfl,rfl,q⟩:=h
 exact⟨j,x,q,GF e⟩
theorem jK{lo:Int}(h:(gC lo q)[i]?=some w):i<q/\w=.int (lo+i):=by
 unfold gC at h
 obtain⟨h1,h2⟩:=au.mp h
 simp only[aF,List.length_range]at h1
 exact⟨h1,by rw[<- h2];simp⟩
theorem mV{l:List α}{q:Nat}(h:q<=l.length):jp l none (some (q:Int))=l.take q:=by
 unfold jp;rw[HT.sIx_none,HT.sIx_nat,gQ h];simp
theorem rK{l:List α}(h:q<=l.length):jp l (some (q:Int)) none=l.drop q:=by
 unfold jp;rw[HT.sIx_none,HT.sIx_nat,gQ h];rw[bB #[15]]
theorem iR{q:Int}{n:Nat}(h:0<n):∃m:Nat,m<n/\q%(n:Int)=m:=by
 have h0:0<=q%(n:Int):=iY _ #[0]
 have h1:q%(n:Int)<n:=lG _ #[0]
 exact⟨(q%(n:Int)).toNat,by omega,by omega⟩
end
section
variable{u:FT}{a b k:Bool}{P:RS->Prop}{g g' iJ:FS}{w:W}
theorem NL(h1:t ρ st=.ok a st)(h2:u ρ st=.ok b st):QC t u ρ st=.ok (a&&b) st:=by cases a;exact DH h1;exact DG h1 h2
theorem GL(h1:t ρ st=.ok a st)(h2:u ρ st=.ok b st):Jf t u ρ st=.ok (a||b) st:=by cases a;exact pR h1 h2;exact DI h1
theorem NM(h1:t ρ st=.ok a st):Fe t ρ st=.ok (!a) st:=xL h1 rfl
theorem dQ(h:kI (zO fun w' bn=>w'=w/\bn=st) (body #[14] st)):de N body ws st=.ok w st:=by
 obtain⟨w,bn,e,rfl,rfl⟩:=h
 exact pN e
end
end L2
open L2
local macro_rules | `(tactic| walk_at "ev1") => `(tactic| first
 | (with_reducible apply ju) <;> rfl
 | (with_reducible apply oJ) <;> rfl
 | with_reducible first
  | exact bW | exact aZ | exact NJ | exact s9 | exact dX | exact Cn | exact d7 | exact AF
  | apply bu | apply aw | apply eX | apply nH | apply cC | apply cy | apply a7 | apply xL | apply Q1
  | apply ik | apply Kq | apply uc | apply Q3 | apply AD | apply dU | apply mF | apply mG | apply a_ | apply d6 | apply oI | apply AE
  | apply jv | apply qF | apply nI | apply GH | apply gj | apply Q4 | apply dD | apply Cm
 | decide
 | (show List.length _ <= my; exact ao rfl)
 | (show @Eq Nat _ _; exact rfl)
 | (show @Eq Bool _ _; exact rfl)
 | (show @Eq (Option String) _ _; exact rfl)
 | (show @Eq _ _ _; with_reducible assumption))
local macro_rules | `(tactic| walk_at "evs") => `(tactic| repeat' walk_at "ev1")
local macro_rules | `(tactic| walk_at "tst") => `(tactic| first
 | (walk_at "evs"; done)
 | (apply DH; (focus walk_at "tst"); done)
 | (apply DG; (focus walk_at "tst"); (focus walk_at "tst"); done)
 | (apply DI; (focus walk_at "tst"); done)
 | (apply pR; (focus walk_at "tst"); (focus walk_at "tst"); done))
local macro_rules | `(tactic| walk_at "go1") => `(tactic| first
 | apply cv
 | (apply eG; (focus (walk_at "evs"; done)))
 | (apply bQ; (focus (walk_at "evs"; done)))
 | (apply fy; (focus walk_at "tst"))
 | (apply bO; (focus walk_at "tst"))
 | (apply ud; (focus walk_at "tst"))
 | (apply oK; (focus walk_at "tst"))
 | (apply aA; (focus (walk_at "evs"; done))))
local macro_rules | `(tactic| walk_at "go") => `(tactic| repeat walk_at "go1")
local macro_rules | `(tactic| walk_at "tb") => `(tactic| repeat' (first | with_reducible apply NL | with_reducible apply GL | with_reducible apply NM | walk_at "ev1"))
local macro_rules | `(tactic| walk_at "len") => `(tactic| (simp only [ah, bg, kD]; show _ <= 1000000; omega))
namespace L2
open PySem PySem.Spec PyProof.Rows
section
variable{ρ' ρ2:cM}{c5:List al}{fs:FA}{g gh iJ:FS}{w:W}{c:Str}{cs:List Str}{P:RS->Prop}{b:Bool}
theorem AG{N:Nat}{body:FS}(h:kI (Kr fun _ bn=>∃x,bn=st++x) (body #[14] st)):de N body ws st=.ok .non st:=by
 obtain⟨ρ,bn,e,x,rfl⟩:=h
 unfold de
 rw[e]
 simp only[xJ (st:=st) (x:=x) (ws:=[]) rfl]
theorem uU(I:cM->List al->Prop)(h:kI (Kr I) (g ρ st))(h2:∀ρ st,I ρ st->kI P (iJ ρ st)):kI P (aI g iJ ρ st):=by
 obtain⟨ρ',bn,e,hi⟩:=h
 exact aA e (h2 _ _ hi)
end
section
variable{f:FG}
theorem AH{ρ0:cM}(hc:jq st ck)(T:W->Bool)(Y:W->W):∀(ws iS:List W),(∀w∈ws,∃ρ',f w ρ0=some ρ'/\t ρ' st=.ok (T w) st/\(T w=true->el ρ' st=.ok (Y w) st)) ->
  rk f t el ck ρ0 ws iS st=.ok (iS++(ws.filter T).map Y) st
 |[],iS,_=>by unfold rk;rw[aE hc];simp
 |w::ws,iS,h=>by
  obtain⟨ρ',e1,e2,e3⟩:=h w #[15]
  have ih:=fun iS=>AH hc T Y ws iS fun w' hw'=>h w' (by simp[hw'])
  unfold rk
  rw[aE hc,e1]
  simp only[e2]
  cases hT:T w with
  |true=>
   simp only[e3 hT]
   rw[ih]
   simp[List.filter_cons,hT]
  |false=>
   simp only
   rw[ih]
   simp[List.filter_cons,hT]
theorem Cp(T:W->Bool)(Y:W->W)(h:fi ρ st=.ok (ws,ck) st1)(hl:ws.length<=my)(hc:jq st1 ck)
  (hs:∀w∈ws,∃ρ',f w (sX cap ρ)=some ρ'/\t ρ' st1=.ok (T w) st1/\(T w=true->el ρ' st1=.ok (Y w) st1)):j3 cap fi f t el ρ st=.ok (.loc st1.length) (st1++[.lst ((ws.filter T).map Y)]):=by
 unfold j3
 rw[h]
 simp only[R.bind_ok]
 rw[aE hl,AH hc T Y ws [] hs]
 simp only[R.bind_ok,eW,qh]
 rw[aE]
 rw[aF]
 exact aN (jI _ _) hl
theorem DJ(Y:W->W)(h:fi ρ st=.ok (ws,ck) st1)(hl:ws.length<=my)(hc:jq st1 ck)
  (hs:∀w∈ws,∃ρ',f w (sX cap ρ)=some ρ'/\el ρ' st1=.ok (Y w) st1):j3 cap fi f wP el ρ st=.ok (.loc st1.length) (st1++[.lst (ws.map Y)]):=by
 have:=Cp (fi:=fi) (f:=f) (t:=wP) (el:=el) (cap:=cap) (fun _=>true) Y h hl hc fun w hw=>by
  obtain⟨ρ',e1,e2⟩:=hs w hw
  exact⟨ρ',e1,rfl,fun _=>e2⟩
 rw[kL.mpr (fun _ _=>rfl)]at this
 exact this
theorem xM{lo:Int}{w:W}(h:w∈gC lo q):∃i:Nat,i<q/\w=.int (lo+i):=by
 unfold gC at h
 obtain⟨i,hi,rfl⟩:=c9.mp h
 exact⟨i,li.mp hi,rfl⟩
theorem oM(h:lstOf st n=some ws):i8 [.loc n] st=.ok (.tup ws) st:=by unfold i8;simp only[h,eU]
theorem GM{xs:List W}(h:(ws++xs).length<=my):cQ (.tup ws) (.tup xs) st=.ok (.tup (ws++xs)) st:=by simp only[cQ,qg];rw[aE h]
theorem Q6{p q:Int}:Cd [.int p,.int q] st=.ok (.int (if q>p then q else p)) st:=rfl
theorem GN{l:List α}(hj:j<=l.length)(hi:i<=j):jp l (some (i:Int)) (some (j:Int))=(l.drop i).take (j-i):=by
 unfold jp;rw[HT.sIx_nat,HT.sIx_nat,gQ hj,gQ #[0]]
theorem GO{l:List α}:jp l none (some (-1))=l.dropLast:=by
 unfold jp
 rw[HT.sIx_none]
 have:HT.sIx l.length l.length (some (-1))=l.length-1:=by
  show(if (-1:Int)<0 then(-1+(l.length:Int)).toNat else min (-1:Int).toNat l.length)=_
  rw[aE #[0]]
  omega
 rw[this,ol];simp
end
open Builtin Builtin.Str
theorem xN{c:Nat}:∀ws:List (List Nat),(∀w∈ws,c∉w)->(kX [c] ws).filter (fun d=>d != c)=ws.flatten
 |[],_=>rfl
 |[x],h=>by
  have hx:c∉x:=h x #[15]
  show x.filter _=_
  rw[kL.mpr fun d hd=>by simp;rintro rfl;exact hx hd]
  simp
 |x::y::r,h=>by
  have hx:c∉x:=h x #[15]
  show(x++[c]++kX [c] (y::r)).filter _=_
  rw[List.filter_append,List.filter_append,xN (y::r) fun w hw=>h w (aS _ hw),kL.mpr fun d hd=>by simp;rintro rfl;exact hx hd]
  simp
theorem Ks(l:List Nat)(c:Nat):Txt.replace (tx l) (tx [c]) (tx [])=tx (l.filter fun d=>d != c):=by
 obtain⟨f,hg,hfree⟩:=StrLaws.occ_tight (tx l) (tx [c]) (by simp[tx,Str.length])
 obtain⟨f',hc⟩:=StrLaws.occ_chain (tx l) (tx [c]) ((tx l).length+1)
 have pf:=StrLaws.parts_free (tx l) c _ 0 f hg hfree
 have pj:=StrLaws.join_partsFrom (tx l) (tx [c]) _ 0 f' hc
 rw[StrLaws.sub_whole]at pj
 unfold Txt.replace
 rw[StrLaws.partsBetween_eq]
 have pe:(occurrences (tx l) (tx [c]) 0 (tx l).length ((tx l).length+1)).isEmpty=true->StrLaws.partsFrom (tx l) (tx [c]).length 0 (occurrences (tx l) (tx [c]) 0 (tx l).length ((tx l).length+1))=[tx l]:=fun h=>by
  rw[List.isEmpty_iff.mp h]
  show[strSub (tx l) 0 (tx l).length]=_
  rw[StrLaws.sub_whole]
 generalize occurrences (tx l) (tx [c]) 0 (tx l).length ((tx l).length+1)=os at pf pj pe ⊢
 have pf:∀p∈StrLaws.partsFrom (tx l) (tx [c]).length 0 os,c∉p.cps.toList:=pf
 generalize StrLaws.partsFrom (tx l) (tx [c]).length 0 os=ps at pf pj pe ⊢
 have em:ps=(ps.map fun z=>z.cps.toList).map tx:=by
  rw[b9]
  conv=>lhs;rw[<- jh ps]
  exact eY fun z _=>(Qi z).symm
 have fr:∀w∈ps.map (fun z=>z.cps.toList),c∉w:=fun w hw=>by
  obtain⟨p,hp,rfl⟩:=c9.mp hw
  exact pf p hp
 generalize ps.map (fun z=>z.cps.toList)=ws at em fr
 subst em
 have ej:∀sep:List Nat,Str.join (tx sep) (ws.map tx)=tx (kX sep ws):=fun sep=>by
  rw[<- Dl sep ws]
  show _=glued _ _
  rw[gZ]
 rw[ej]at pj
 have el:kX [c] ws=l:=yA.mp pj
 have hfl:=xN ws fr
 rw[el]at hfl
 split
 ·rename_i h
  rw[show((tx [c]).length==0&&(tx []).length==0)=false from rfl,mq]at h
  have e1:=pe h
  have:ws.flatten=l:=by
   have e2:ws=[l]:=by
    cases ws with
    |nil=>cases e1
    |cons a r=>
     cases r with
     |nil=>simp only[aU,sy,List.cons.injEq,and_true]at e1;rw[yA.mp e1]
     |cons _ _=>simp at e1
   rw[e2];simp
  rw[hfl,this]
 ·rw[gZ,ej,mC,hfl]
section
variable{to:TE}
def Q7(to te:TE):TE:=fun σ H Q=>to σ H fun x H1=>(∃l,x=.str (tx l))/\te σ H1 fun y H2=>∃l c,x=.str (tx l)/\y=.str (tx [c])/\l.length<=1000000/\Q (.str (tx (l.filter fun d=>d != c))) H2
theorem Kt(ho:PE X o to)(he:PE X e te)
  (j8:attributeBase o "replace" X.env (eval o X.env)=eval o X.env)
  (qR:((backTo dG (starEach [e,.Constant (.str (tx [])) j p2] X.env)).all (fun x=>!x.1)&&(backToKw dG (keywordEach [] X.env)).all (fun x=>x.1.isSome)
   && decide ([e,.Constant (.str (tx [])) j p2].length+([]:List Keyword).length+(if ([]:List Keyword).isEmpty then 0 else 1)<30))=true)
  (j7:(fH.endLine==dG.line)=true) (hs:starEach [e,.Constant (.str (tx [])) j p2] X.env=(false,eval e X.env)::starEach [.Constant (.str (tx [])) j p2] X.env) :
  PE X (.Call (.Attribute o "replace" fH) [e,.Constant (.str (tx [])) j p2] [] dG) (Q7 to te):=by
 intro aj s σ H Q I h
 refine ny j8 qR j7 rfl (jC (ho aj s σ H _ I h) fun v s1 kt1 zq=>?_)
 obtain⟨x,H1,I1,r1,ty,q1⟩:=zq
 obtain⟨h1,h2⟩:=BY I1 r1 (Dm ty)
 refine⟨"str",_,F.plainAttrs_str,F.slot_str_replace,F.type_str_replace,h1,h2,?_⟩
 rw[hs]
 refine gH rfl (ic ?_)
 show wpAny _ _ (spliced ((false,eval e X.env)::backTo dG (starEach [.Constant (.str (tx [])) j p2] X.env))) _ _ s1
 refine eP (jC (he aj s1 σ H1 _ I1 q1) fun u s2 kt2 zq=>?_)
 obtain⟨y,H2,I2,r2,l,c,ex,ey,hl,q2⟩:=zq
 subst ex ey
 obtain⟨t,rfl⟩:=r1.up kt2
 obtain⟨t2,rfl⟩:=r2
 show wpAny _ _ (spliced ((false,eval (.Constant (.str (tx [])) j p2) X.env)::backTo dG (starEach [] X.env))) _ _ s2
 refine eP (Calls.Constant_str ?_)
 show wpAny _ _ (spliced []) _ _ _
 refine fZ ?_
 obtain⟨p1,p2⟩:=t2.2 rfl
 have n1:t2.1≠0:=eh p1
 have n2:s2.toks≠0:=eh I2.pos
 have n3:t2.1≠s2.toks:=bd p2
 have e0:(tx []).length=0:=rfl
 have e1:(1000000:Nat)<=sizeLine:=by decide
 refine call_gives F.slot_str_replace (ly _ _ _) F.entry_str_replace (F.args_str_replace_3 _ _ _)
  (gives_str_replace (tx l) (tx [c]) (tx []) t.1 t2.1 s2.toks fun _=>⟨by simp[n1,n2],by simp[n3],rfl,?_⟩) ?_
 ·rw[e0,Nat.mul_zero,sA,i6]
  unfold tooLong
  exact aW #[0]
 ·have hq:=Ks l c
  unfold Txt.replace at hq
  cases hc:((occurrences (tx l) (tx [c]) 0 (tx l).length ((tx l).length+1)).isEmpty||((tx [c]).length==0&&(tx []).length==0))
  ·rw[hc]at hq
   simp only[fJ,j_]at hq ⊢
   rw[hq]
   have I3:=I2.tok (s2.toks+1)
   refine⟨?_,⟨.str _,H2,I3.tok _,I3.tkS,q2⟩⟩
   rw[i6]
   exact aN (jI _ _) (aN hl e1)
  ·rw[hc]at hq
   simp only[f6]at hq ⊢
   rw[<- hq]at q2
   exact⟨.str (tx l),H2,I2.tok _,⟨t.up (bp _),rfl⟩,q2⟩
end
section
def GP:W->W->List al->R W
 |.str l,.str [c],st=>if l.length<=my then .ok (.str (l.filter fun d=>d != c)) st else .bad
 |_,_,_=>.bad
def DL(fo fe:FE):FE:=fun ρ st=>(fo ρ st).bind fun x st=>if xD x then(fe ρ st).bind fun y st=>GP x y st else .bad
theorem NN{z:Str}(ho:SE X o fo)(he:SE X e fe)(hz:z=tx []:=by first|rfl|decide +kernel)
  (j8:attributeBase o "replace" X.env (eval o X.env)=eval o X.env:=by rfl)
  (qR:((backTo dG (starEach [e,.Constant (.str z) j p2] X.env)).all (fun x=>!x.1)&&(backToKw dG (keywordEach [] X.env)).all (fun x=>x.1.isSome)
   && decide ([e,.Constant (.str z) j p2].length+([]:List Keyword).length+(if ([]:List Keyword).isEmpty then 0 else 1)<30))=true:=by rfl)
  (j7:(fH.endLine==dG.line)=true:=by rfl) (hs:starEach [e,.Constant (.str z) j p2] X.env=(false,eval e X.env)::starEach [.Constant (.str z) j p2] X.env:=by rfl) :
  SE X (.Call (.Attribute o "replace" fH) [e,.Constant (.str z) j p2] [] dG) (DL fo fe):=⟨by
 subst hz
 refine(Kt ho.h he.h j8 qR j7 hs).imp fun σ H Q h=>?_
 walk_at "2"
 walk_at "1"
 cases x with
 |str z=>
  rw[aE (show xD (W.str z)=true from rfl)]at h1
  refine⟨⟨z,q1.strE⟩,μ1,ρ,st1,l1,RK.bind h1 l1 fun μ2 c5 y u H2 p2 x2 l2 q2 h2=>?_⟩
  unfold GP at h2
  split at h2
  ·rename_i l' c e1
   cases e1
   split at h2
   ·rename_i hl
    exact⟨_,c,q1.strE,q2.strE,hl,h2 μ2 _ H2 (am _) fw.refl l2.sto .str⟩
   ·exact h2.elim
  ·exact h2.elim
 |_=>exact h1.elim⟩
theorem NO{c5:List al}{c:Nat}(h1:fo ρ st=.ok (.str l) st1)(h2:fe ρ st1=.ok (.str [c]) c5)(hl:l.length<=my):DL fo fe ρ st=.ok (.str (l.filter fun d=>d != c)) c5:=by
 unfold DL
 rw[h1]
 simp only[R.bind_ok]
 rw[aE (show xD (W.str l)=true from rfl),h2]
 simp only[R.bind_ok]
 unfold GP
 simp only
 rw[aE hl]
end
end L2
namespace P
open PySem L2
open PyProof.Rows (boot_sorted boot_set boot_ord boot_all boot_enumerate boot_int boot_str boot_bool boot_list boot_tuple boot_isinstance boot_max boot_min boot_zip)
noncomputable def top(i:Nat):Stmt:=PySem.Challenge.pw_trunksay_k67_reckoned.main.body.getD i (.Pass ⟨0,0,0,0⟩)
abbrev NP:Stmt:=top 7
noncomputable abbrev Cq:List Str:=["letters"]
noncomputable abbrev Q8:List Str:=["letters"]
theorem Q9:bh Cq Q8 (aQ NP):=jF
abbrev NQ:Stmt:=top 8
noncomputable abbrev AI:List Str:=["names","marks","number","name"]
noncomputable abbrev Q_:List Str:=["names","marks"]
theorem AJ:bh AI Q_ (aQ NQ):=jF
abbrev NR:Stmt:=top 11
noncomputable abbrev Cr:List Str:=["place"]
noncomputable abbrev Ra:List Str:=["place"]
theorem Rb:bh Cr Ra (aQ NR):=jF
abbrev NS:Stmt:=top 12
noncomputable abbrev AK:List Str:=["place"]
noncomputable abbrev Rc:List Str:=["place"]
theorem Re:bh AK Rc (aQ NS):=jF
abbrev NT:Stmt:=top 13
noncomputable abbrev Cs:List Str:=["tree","links","tops","number","place","right","left"]
noncomputable abbrev Rf:List Str:=["tree"]
theorem vH:bh Cs Rf (aQ NT):=jF
abbrev NU:Stmt:=top 14
noncomputable abbrev GQ:List Str:=["tree","lefts","rights","number","pair"]
noncomputable abbrev Rg:List Str:=["tree"]
theorem AL:bh GQ Rg (aQ NU):=jF
abbrev NV:Stmt:=top 15
noncomputable abbrev EO:List Str:=["ups","place"]
noncomputable abbrev Rh:List Str:=["ups","place"]
theorem Ri:bh EO Rh (aQ NV):=jF
abbrev NW:Stmt:=top 16
noncomputable abbrev Ct:List Str:=["tree","sizes","left","right","size"]
noncomputable abbrev Rj:List Str:=["tree"]
theorem vI:bh Ct Rj (aQ NW):=jF
abbrev NX:Stmt:=top 17
noncomputable abbrev wR:List Str:=["tree","place"]
noncomputable abbrev Rk:List Str:=["tree","place"]
theorem Rm:bh wR Rk (aQ NX):=jF
abbrev GR:Stmt:=top 18
noncomputable abbrev yV:List Str:=["size"]
noncomputable abbrev Lf:List Str:=["size"]
theorem NY:bh yV Lf (aQ GR):=jF
abbrev GS:Stmt:=top 19
noncomputable abbrev EQ:List Str:=["tree","place"]
noncomputable abbrev Lg:List Str:=["tree","place"]
theorem NZ:bh EQ Lg (aQ GS):=jF
abbrev GT:Stmt:=top 20
noncomputable abbrev wS:List Str:=["tree","place","below","right_size","middle"]
noncomputable abbrev Lh:List Str:=["tree","place"]
theorem vJ:bh wS Lh (aQ GT):=jF
abbrev GU:Stmt:=top 21
noncomputable abbrev Cu:List Str:=["left","right","marks","branches"]
noncomputable abbrev Li:List Str:=["left","right","marks"]
theorem yW:bh Cu Li (aQ GU):=jF
abbrev GV:Stmt:=top 22
noncomputable abbrev yX:List Str:=["tree","place","side","other","branches","left","right","start","changed"]
noncomputable abbrev Lj:List Str:=["tree","place","side","other"]
theorem s_:bh yX Lj (aQ GV):=jF
abbrev GW:Stmt:=top 24
noncomputable abbrev yY:List Str:=["rooms","number"]
noncomputable abbrev Lk:List Str:=["rooms","number"]
theorem N0:bh yY Lk (aQ GW):=jF
abbrev GX:Stmt:=top 25
noncomputable abbrev ER:List Str:=["machine","marks","pair","rooms","leads"]
noncomputable abbrev Ll:List Str:=["machine","marks","pair","rooms"]
theorem GY:bh ER Ll (aQ GX):=jF
abbrev GZ:Stmt:=top 26
noncomputable abbrev Cv:List Str:=["machine","tree","rooms","place","pair"]
noncomputable abbrev Lm:List Str:=["machine","tree"]
theorem yZ:bh Cv Lm (aQ GZ):=jF
abbrev G0:Stmt:=top 28
noncomputable abbrev G1:List Str:=["deed"]
noncomputable abbrev Ln:List Str:=["deed"]
theorem N1:bh G1 Ln (aQ G0):=jF
abbrev G3:Stmt:=top 29
noncomputable abbrev y0:List Str:=["tree","place","marks"]
noncomputable abbrev Lo:List Str:=["tree","place","marks"]
theorem N2:bh y0 Lo (aQ G3):=jF
abbrev G4:Stmt:=top 30
noncomputable abbrev vK:List Str:=["machine","rooms","deed","old","new","start","middle","fresh"]
noncomputable abbrev Lp:List Str:=["machine","rooms","deed"]
theorem qG:bh vK Lp (aQ G4):=jF
abbrev G5:Stmt:=top 31
noncomputable abbrev ES:List Str:=["machine","tree","rooms","place","links","ups","fresh","many","at","room"]
noncomputable abbrev Lq:List Str:=["machine","tree","rooms","place"]
theorem mW:bh ES Lq (aQ G5):=jF
abbrev km:Stmt:=(iQ (top 32)).getD 0 (.Pass ⟨0,0,0,0⟩)
noncomputable abbrev uw:List Str:=["self","machine","tree"]
noncomputable abbrev nK:List Str:=["self","machine","tree"]
theorem tf:bh uw nK (aQ km):=jF
abbrev jL:Stmt:=(iQ (top 32)).getD 1 (.Pass ⟨0,0,0,0⟩)
noncomputable abbrev tj:List Str:=["self","deed","moved","above"]
noncomputable abbrev mH:List Str:=["self","deed"]
theorem g_:bh tj mH (aQ jL):=jF
abbrev lc:Stmt:=(iQ (top 32)).getD 2 (.Pass ⟨0,0,0,0⟩)
noncomputable abbrev vL:List Str:=["self","deed"]
noncomputable abbrev oN:List Str:=["self","deed"]
theorem ux:bh vL oN (aQ lc):=jF
abbrev jM:Stmt:=(iQ (top 32)).getD 3 (.Pass ⟨0,0,0,0⟩)
noncomputable abbrev tm:List Str:=["self","place","marks"]
noncomputable abbrev mI:List Str:=["self","place","marks"]
theorem rL:bh tm mI (aQ jM):=jF
abbrev qH:Stmt:=(iQ (top 32)).getD 4 (.Pass ⟨0,0,0,0⟩)
noncomputable abbrev Cw:List Str:=["self","place","letter"]
noncomputable abbrev vM:List Str:=["self","place","letter"]
theorem AM:bh Cw vM (aQ qH):=jF
abbrev oO:Stmt:=(iQ (top 32)).getD 5 (.Pass ⟨0,0,0,0⟩)
noncomputable abbrev AN:List Str:=["self","place","letter"]
noncomputable abbrev ue:List Str:=["self","place","letter"]
theorem y6:bh AN ue (aQ oO):=jF
abbrev me:Stmt:=(iQ (top 32)).getD 6 (.Pass ⟨0,0,0,0⟩)
noncomputable abbrev wT:List Str:=["self","place","side","tree","changed"]
noncomputable abbrev qk:List Str:=["self","place","side","tree"]
theorem oP:bh wT qk (aQ me):=jF
abbrev mX:Stmt:=(iQ (top 32)).getD 7 (.Pass ⟨0,0,0,0⟩)
noncomputable abbrev y7:List Str:=["self","tree"]
noncomputable abbrev rM:List Str:=["self","tree"]
theorem wU:bh y7 rM (aQ mX):=jF
abbrev oQ:Stmt:=(iQ (top 32)).getD 8 (.Pass ⟨0,0,0,0⟩)
noncomputable abbrev AO:List Str:=["self","deed"]
noncomputable abbrev uf:List Str:=["self"]
theorem rN:bh AO uf (aQ oQ):=jF
abbrev mY:Stmt:=(iQ (top 32)).getD 9 (.Pass ⟨0,0,0,0⟩)
noncomputable abbrev y8:List Str:=["self","deed"]
noncomputable abbrev rO:List Str:=["self"]
theorem ql:bh y8 rO (aQ mY):=jF
abbrev ko:Stmt:=(iQ (top 32)).getD 10 (.Pass ⟨0,0,0,0⟩)
noncomputable abbrev uy:List Str:=["self"]
noncomputable abbrev nL:List Str:=["self"]
theorem tq:bh uy nL (aQ ko):=jF
abbrev kr:Stmt:=(iQ (top 32)).getD 13 (.Pass ⟨0,0,0,0⟩)
noncomputable abbrev uz:List Str:=["self"]
noncomputable abbrev nM:List Str:=["self"]
theorem tt:bh uz nM (aQ kr):=jF
abbrev G6:Stmt:=top 34
noncomputable abbrev AQ:List Str:=["_law_script","_law_k"]
noncomputable abbrev Lr:List Str:=["_law_script","_law_k"]
theorem N3:bh AQ Lr (aQ G6):=jF
abbrev G7:Stmt:=top 35
noncomputable abbrev y9:List Str:=["_law_cell_here","_law_k","_law_salt","_law_first"]
noncomputable abbrev Ls:List Str:=["_law_cell_here","_law_k","_law_salt"]
theorem G8:bh y9 Ls (aQ G7):=jF
abbrev G9:Stmt:=top 36
noncomputable abbrev y_:List Str:=["_law_cell_here","_law_many","_law_salt","_law_found","_law_rest","_law_k"]
noncomputable abbrev Lu:List Str:=["_law_cell_here","_law_many","_law_salt"]
theorem tu:bh y_ Lu (aQ G9):=jF
abbrev G_:Stmt:=top 37
noncomputable abbrev AR:List Str:=["_law_found","_law_due","_law_k"]
noncomputable abbrev G':List Str:=["_law_found","_law_due"]
theorem Ha:bh AR G' (aQ G_):=jF
abbrev Hb:Stmt:=top 38
noncomputable abbrev AS:List Str:=["_law_cell_here","_law_many","_law_salt","_law_rest","_law_found","_law_d","_law_at"]
noncomputable abbrev Lw:List Str:=["_law_cell_here","_law_many","_law_salt"]
theorem qI:bh AS Lw (aQ Hb):=jF
abbrev Hc:Stmt:=top 39
noncomputable abbrev za:List Str:=["_law_pool_here","_law_number"]
noncomputable abbrev Lx:List Str:=["_law_pool_here","_law_number"]
theorem N4:bh za Lx (aQ Hc):=jF
abbrev Hd:Stmt:=top 40
noncomputable abbrev AT:List Str:=["_law_draws_here","_law_pool_here","_law_found","_law_high","_law_d","_law_branches"]
noncomputable abbrev Ly:List Str:=["_law_draws_here","_law_pool_here"]
theorem oR:bh AT Ly (aQ Hd):=jF
abbrev He:Stmt:=top 41
noncomputable abbrev zb:List Str:=["_law_tree_here","_law_heap","_law_found","_law_k","_law_left","_law_right"]
noncomputable abbrev Lz:List Str:=["_law_tree_here"]
theorem oS:bh zb Lz (aQ He):=jF
abbrev Hf:Stmt:=top 42
noncomputable abbrev vN:List Str:=["_law_names","_law_many","_law_top","_law_draws_here","_law_good","_law_table","_law_at","_law_letter_here","_law_rows","_law_l"]
noncomputable abbrev LA:List Str:=["_law_names","_law_many","_law_top","_law_draws_here"]
theorem oT:bh vN LA (aQ Hf):=jF
abbrev Hg:Stmt:=top 43
noncomputable abbrev wV:List Str:=["_law_names","_law_marks_here","_law_found","_law_name"]
noncomputable abbrev LB:List Str:=["_law_names","_law_marks_here"]
theorem zc:bh wV LB (aQ Hg):=jF
abbrev Hh:Stmt:=top 44
noncomputable abbrev Cy:List Str:=["_law_machine_here","_law_tree_here","_law_heap","_law_found","_law_branches","_law_marks_here","_law_left","_law_right"]
noncomputable abbrev LC:List Str:=["_law_machine_here","_law_tree_here"]
theorem mZ:bh Cy LC (aQ Hh):=jF
abbrev Hi:Stmt:=top 46
noncomputable abbrev zd:List Str:=["_law_links_here","_law_found","_law_left","_law_right","_law_many"]
noncomputable abbrev LD:List Str:=["_law_links_here"]
theorem qJ:bh zd LD (aQ Hi):=jF
abbrev Hj:Stmt:=top 47
noncomputable abbrev wW:List Str:=["_law_tree_here","_law_place","_law_links_here","_law_sizes_here","_law_middle","_law_first"]
noncomputable abbrev LE:List Str:=["_law_tree_here","_law_place"]
theorem qK:bh wW LE (aQ Hj):=jF
abbrev Hk:Stmt:=top 48
noncomputable abbrev uC:List Str:=["_law_tree_here","_law_place","_law_side","_law_other","_law_first","_law_middle","_law_left","_law_right","_law_top"]
noncomputable abbrev LF:List Str:=["_law_tree_here","_law_place","_law_side","_law_other"]
theorem oU:bh uC LF (aQ Hk):=jF
abbrev Hl:Stmt:=top 49
noncomputable abbrev ze:List Str:=["_law_script","_law_sizes_here","_law_pool_here","_law_many","_law_names","_law_entries","_law_machine_here","_law_high"]
noncomputable abbrev LG:List Str:=["_law_script"]
theorem mf:bh ze LG (aQ Hl):=jF
abbrev Hm:Stmt:=top 50
noncomputable abbrev vO:List Str:=["_law_script","_law_k","_law_most","_law_tree_here","_law_pool_here","_law_draws_here","_law_other","_law_kind","_law_place"]
noncomputable abbrev LH:List Str:=["_law_script","_law_k","_law_most","_law_tree_here","_law_pool_here"]
theorem vP:bh vO LH (aQ Hm):=jF
abbrev Ho:Stmt:=top 51
noncomputable abbrev vQ:List Str:=["_law_tree_here","_law_deed","_law_branches","_law_marks_here"]
noncomputable abbrev LI:List Str:=["_law_tree_here","_law_deed"]
theorem zf:bh vQ LI (aQ Ho):=jF
abbrev Hq:Stmt:=top 52
noncomputable abbrev zg:List Str:=["_law_kept","_law_deed"]
noncomputable abbrev LJ:List Str:=["_law_kept","_law_deed"]
theorem N5:bh zg LJ (aQ Hq):=jF
abbrev Hr:Stmt:=top 53
noncomputable abbrev AU:List Str:=["_law_tree_here","_law_found","_law_links_here","_law_k","_law_side"]
noncomputable abbrev LK:List Str:=["_law_tree_here"]
theorem vR:bh AU LK (aQ Hr):=jF
abbrev Hs:Stmt:=top 54
noncomputable abbrev vS:List Str:=["_law_machine_here","_law_one","_law_at","_law_other","_law_to","_law_ahead","_law_behind","_law_above","_law_higher","_law_many"]
noncomputable abbrev LM:List Str:=["_law_machine_here","_law_one","_law_at","_law_other","_law_to"]
theorem m5:bh vS LM (aQ Hs):=jF
abbrev Ht:Stmt:=top 55
noncomputable abbrev uD:List Str:=["_law_machine_here","_law_tree_here","_law_other","_law_deed","_law_place","_law_many","_law_first","_law_middle","_law_fewer","_law_more"]
noncomputable abbrev LN:List Str:=["_law_machine_here","_law_tree_here","_law_other","_law_deed"]
theorem m6:bh uD LN (aQ Ht):=jF
abbrev Hu:Stmt:=top 56
noncomputable abbrev vT:List Str:=["_law_kept","_law_tree_here","_law_due"]
noncomputable abbrev LO:List Str:=["_law_kept","_law_tree_here","_law_due"]
theorem N6:bh vT LO (aQ Hu):=jF
abbrev rP:Stmt:=top 57
noncomputable abbrev Rn:List Str:=["_law_script","_law_machine_here","_law_tree_here","_law_pool_here","_law_kept","_law_past","_law_later","_law_k","_law_deed","_law_due","_law_other"]
noncomputable abbrev Hv:List Str:=["_law_script"]
theorem h_:bh Rn Hv (aQ rP):=jF
structure Bl(mg:Str->Option Value):Prop where
 bool:mg "bool"=Option.none
 enumerate:mg "enumerate"=Option.none
 int:mg "int"=Option.none
 isinstance:mg "isinstance"=Option.none
 len:mg "len"=Option.none
 list:mg "list"=Option.none
 max:mg "max"=Option.none
 min:mg "min"=Option.none
 range:mg "range"=Option.none
 set:mg "set"=Option.none
 sorted:mg "sorted"=Option.none
 str:mg "str"=Option.none
 tuple:mg "tuple"=Option.none
 zip:mg "zip"=Option.none
noncomputable def mh:W:=.int 100
structure Gc(K:Frag)(mg:Str->Option Value):Prop where
 MOST_PLACES:∃u v,mg "MOST_PLACES"=some u/\cS 0 v u/\∀μ H,bG K μ H mh v
structure Cls(K:Frag)(mg:Str->Option Value):Prop where
 NoPlace:Kf K mg "NoPlace"
 TooGreat:Kf K mg "TooGreat"
 NothingDone:Kf K mg "NothingDone"
structure Ow(K:Frag)(mg:Str->Option Value):Prop where
 Kept:NG K mg "Kept" ["machine","many","rooms","standing","taken_back","tree"]
section
variable{w:World}{f:Addr}
def TW:FS:=(cW (Jg nF (eC (.str [])) (ai (rC (ag 0)) aD)))
def Hw:List W->List al->R W:=de 1 TW
theorem Ro(F:iC K "in_order" "in_order" NP f fd)(B:Bl mg) :c6 P w K mg base (hZ P w) 1 f fd Q8 (iD K mg 1 Hw):=
 bS (k:=0) F Q9 rfl fun fA A outer s H E hr=>(aG (bt (Ka PySem.F.slot_str_join PySem.F.type_str_join uQ fC (ae (EK B.sorted B.set (aa 0)) ax))))
def Rp:FS:=(aI (ba 2 (eI 0)) (aI (kZ (gy (ag 0)) (jD 3) (aI (ba 2 (e2 iB (ag 2) (eI 2))) (fO (eF (e2 (Fg false) (ag 3) (ag 1))) (ba 2 (e2 cQ (ag 2) (eI 1))) bK))) (cW (ag 2))))
def Hy:List W->List al->R W:=de 4 Rp
theorem Rq(F:iC K "letter_of" "letter_of" NQ f fd)  :c6 P w K mg base (hZ P w) 1 f fd Q_ (iD K mg 2 Hy):=
 bS (k:=0) F AJ rfl fun fA A outer s H E hr=>(ar (sS 2 AJ aB) (ar (gX (k8 (aa 0)) (sG 3 AJ) (ar (sS 2 AJ (bD js (aa 2) aB)) (aG (cE (cq (J_ hr) (aa 3) (aa 1)) (aG (sS 2 AJ (bD cH (aa 2) aB))) bM)))) (aG (bt (aa 2)))))
def TX:FS:=(cW (e2 (Fg false) (e2 bj (ag 0) (eI 0)) (ga (ai (eI 1) (ai (eI 3) aD)))))
def zh:List W->List al->R W:=de 1 TX
theorem Rs(F:iC K "has_left" "has_left" NR f fd)  :c6 P w K mg base (hZ P w) 1 f fd Ra (iD K mg 1 zh):=
 bS (k:=0) F Rb rfl fun fA A outer s H E hr=>(aG (bt (re (J_ hr) (bf (aa 0) aB) (eR (ae aB (ae aB ax))))))
def TY:FS:=(cW (e2 (Fg false) (e2 bj (ag 0) (eI 0)) (ga (ai (eI 2) (ai (eI 3) aD)))))
def vU:List W->List al->R W:=de 1 TY
theorem Rt(F:iC K "has_right" "has_right" NS f fd)  :c6 P w K mg base (hZ P w) 1 f fd Rc (iD K mg 1 vU):=
 bS (k:=0) F Re rfl fun fA A outer s H E hr=>(aG (bt (re (J_ hr) (bf (aa 0) aB) (eR (ae aB (ae aB ax))))))
def Ru:FS:=(aI (ba 1 (kg aD)) (aI (ba 2 (kg aD)) (aI (kZ (qC (ai (ag 0) aD)) (Fh 2 (fD (jD 3) (fD (jD 4) oF))) (aI (ba 5 (Gf (eF (cu 1 vU (ai (ag 4) aD))) (k7 mD (ag 2) aD) (eC .non))) (aI (ba 6 (Gf (eF (cu 1 zh (ai (ag 4) aD))) (k7 mD (ag 2) aD) (eC .non))) (aI (c7 (k7 bU (ag 2) (ai (ag 3) aD))) (c7 (k7 bU (ag 1) (ai (ga (ai (ag 6) (ai (ag 5) aD))) aD))))))) (cW (bE i8 (ai (ag 1) aD))))))
def vV:List W->List al->R W:=de 7 Ru
theorem Rv(F:iC K "links_of" "links_of" NT f fd)(B:Bl mg)(Pe:bY P w K mg base 1 "has_left" 1 zh)(E6:bY P w K mg base 1 "has_right" 1 vU):c6 P w K mg base (hZ P w) 2 f fd Rf (iD K mg 1 vV):=
 bS (k:=1) F vH rfl fun fA A outer s H E hr=>(ar (sS 1 vH (iM ax)) (ar (sS 2 vH (iM ax)) (ar (gX (Dz B.enumerate (ae (aa 0) ax)) (l9 rfl (dJ (sG 3 vH) (dJ (sG 4 vH) jV))) (ar (sS 5 vH (ED (ke (bR E6 hr #[0] (ae (aa 4) ax))) (qj PySem.F.slot_list_pop PySem.F.type_list_pop l_ (aa 2)) qf)) (ar (sS 6 vH (ED (ke (bR Pe hr #[0] (ae (aa 4) ax))) (qj PySem.F.slot_list_pop PySem.F.type_list_pop l_ (aa 2)) qf)) (ar (cI (lI PySem.F.slot_list_append PySem.F.type_list_append cZ (aa 2) (ae (aa 3) ax))) (aG (cI (lI PySem.F.slot_list_append PySem.F.type_list_append cZ (aa 1) (ae (eR (ae (aa 6) (ae (aa 5) ax))) ax)))))))) (aG (bt (gg kQ B.tuple fM (ae (aa 1) ax)))))))
def N7:FS:=(aI (uu (j3 [none] (gy (ag 0)) (jD 0) wP (eC .non)) (jD 1)) (aI (uu (j3 [none] (gy (ag 0)) (jD 0) wP (eC .non)) (jD 2)) (aI (kZ (qC (ai (cu 1 vV (ai (ag 0) aD)) aD)) (Fh 2 (fD (jD 3) (fD (jD 4) oF))) (aI (fO (eF (gu (e2 bj (ag 4) (eI 0)))) (wO (ag 1) (e2 bj (ag 4) (eI 0)) (ag 3) qi) bK) (fO (eF (gu (e2 bj (ag 4) (eI 1)))) (wO (ag 2) (e2 bj (ag 4) (eI 1)) (ag 3) qi) bK))) (cW (ga (ai (ag 1) (ai (ag 2) aD)))))))
def Hz:List W->List al->R W:=de 5 N7
theorem Rw(F:iC K "ups_of" "ups_of" NU f fd)(B:Bl mg)(uI:bY P w K mg base 2 "links_of" 1 vV):c6 P w K mg base (hZ P w) 3 f fd Rg (iD K mg 1 Hz):=
 bS (k:=2) F AL rfl fun fA A outer s H E hr=>(ar (qB (sG 1 AL) (m:=0) (nm:=["place"]) (cap:=[none]) (by first|rfl|kernel_rfl) rfl (k8 (aa 0)) (fun _ _ _ _ _=>(sC 0)) (fun _ _ _ _ _=>uR) (fun _ _ _ _ _=>qf)) (ar (qB (sG 2 AL) (m:=0) (nm:=["place"]) (cap:=[none]) (by first|rfl|kernel_rfl) rfl (k8 (aa 0)) (fun _ _ _ _ _=>(sC 0)) (fun _ _ _ _ _=>uR) (fun _ _ _ _ _=>qf)) (ar (gX (Dz B.enumerate (ae (bR uI hr #[0] (ae (aa 0) ax)) ax)) (l9 rfl (dJ (sG 3 AL) (dJ (sG 4 AL) jV))) (ar (cE (ii (bf (aa 4) aB)) (aG (yJ Cf (aa 3) (aa 1) (bf (aa 4) aB))) bM) (aG (cE (ii (bf (aa 4) aB)) (aG (yJ Cf (aa 3) (aa 2) (bf (aa 4) aB))) bM)))) (aG (bt (eR (ae (aa 1) (ae (aa 2) ax))))))))
def TZ:FS:=(cW (Gf (eF (gu (e2 bj (e2 bj (ag 0) (eI 0)) (ag 1)))) (e2 bj (e2 bj (ag 0) (eI 0)) (ag 1)) (e2 bj (e2 bj (ag 0) (eI 1)) (ag 1))))
def ET:List W->List al->R W:=de 2 TZ
theorem Rx(F:iC K "up_from" "up_from" NV f fd)  :c6 P w K mg base (hZ P w) 1 f fd Rh (iD K mg 2 ET):=
 bS (k:=0) F Ri rfl fun fA A outer s H E hr=>(aG (bt (ED (ii (bf (bf (aa 0) aB) (aa 1))) (bf (bf (aa 0) aB) (aa 1)) (bf (bf (aa 0) aB) (aa 1)))))
def Ry:FS:=(aI (ba 1 (kg aD)) (aI (kZ (gy (cu 1 vV (ai (ag 0) aD))) (Fh 2 (fD (jD 2) (fD (jD 3) oF))) (aI (ba 4 (eI 1)) (aI (fO (eF (gu (ag 2))) (ba 4 (e2 cQ (ag 4) (e2 bj (ag 1) (ag 2)))) bK) (aI (fO (eF (gu (ag 3))) (ba 4 (e2 cQ (ag 4) (e2 bj (ag 1) (ag 3)))) bK) (c7 (k7 bU (ag 1) (ai (ag 4) aD))))))) (cW (bE i8 (ai (ag 1) aD)))))
def Cz:List W->List al->R W:=de 5 Ry
theorem Rz(F:iC K "sizes_of" "sizes_of" NW f fd)(B:Bl mg)(uI:bY P w K mg base 2 "links_of" 1 vV):c6 P w K mg base (hZ P w) 3 f fd Rj (iD K mg 1 Cz):=
 bS (k:=2) F vI rfl fun fA A outer s H E hr=>(ar (sS 1 vI (iM ax)) (ar (gX (k8 (bR uI hr #[0] (ae (aa 0) ax))) (l9 rfl (dJ (sG 2 vI) (dJ (sG 3 vI) jV))) (ar (sS 4 vI aB) (ar (cE (ii (aa 2)) (aG (sS 4 vI (bD cH (aa 4) (bf (aa 1) (aa 2))))) bM) (ar (cE (ii (aa 3)) (aG (sS 4 vI (bD cH (aa 4) (bf (aa 1) (aa 3))))) bM) (aG (cI (lI PySem.F.slot_list_append PySem.F.type_list_append cZ (aa 1) (ae (aa 4) ax)))))))) (aG (bt (gg kQ B.tuple fM (ae (aa 1) ax))))))
def RA:FS:=(fO (Jf (eF (e2 Np (ag 1) (eI 0))) (eF (e2 Nq (ag 1) (bE dI (ai (ag 0) aD))))) (vA "NoPlace") bK)
def zi:List W->List al->R W:=de 2 RA
theorem RB(F:iC K "check_place" "check_place" NX f fd)(B:Bl mg)(C:Cls K mg) :c6 P w K mg base (hZ P w) 1 f fd Rk (iD K mg 2 zi):=
 bS (k:=0) F Rm rfl fun fA A outer s H E hr=>(aG (cE (J3 (Dr (cq w_lt (aa 1) aB) (yF (cq J7 (aa 1) (bJ dO B.len bF (ae (aa 0) ax)))))) (aG (rD C.NoPlace)) bM))
def HA:FS:=(fO (eF (e2 Ff (ag 0) (eC mh))) (vA "TooGreat") bK)
def xO:List W->List al->R W:=de 1 HA
theorem N8(F:iC K "check_size" "check_size" GR f fd)(G:Gc K mg)(C:Cls K mg) :c6 P w K mg base (hZ P w) 1 f fd Lf (iD K mg 1 xO):=
 bS (k:=0) F NY rfl fun fA A outer s H E hr=>(aG (cE (cq yH (aa 0) (TJ G.MOST_PLACES)) (aG (rD C.TooGreat)) bM))
def LP:FS:=(aI (c7 (cu 2 zi (ai (ag 0) (ai (ag 1) aD)))) (cW (qX (ag 0) (eV (e2 kO (e2 cQ (ag 1) (eI 1)) (e2 bj (cu 1 Cz (ai (ag 0) aD)) (ag 1)))) (eV (e2 cQ (ag 1) (eI 1))))))
def AV:List W->List al->R W:=de 2 LP
theorem N9(F:iC K "part_at" "part_at" GS f fd) (zN:bY P w K mg base 1 "check_place" 2 zi)(Fc:bY P w K mg base 3 "sizes_of" 1 Cz):c6 P w K mg base (hZ P w) 4 f fd Lg (iD K mg 2 AV):=
 bS (k:=3) F NZ rfl fun fA A outer s H E hr=>(ar (cI (bR zN hr #[0] (ae (aa 0) (ae (aa 1) ax)))) (aG (bt (kY (aa 0) (du (bD jZ (bD cH (aa 1) aB) (bf (bR Fc hr #[0] (ae (aa 0) ax)) (aa 1)))) (du (bD cH (aa 1) aB))))))
def LQ:FS:=(aI (ba 2 (qX (cu 2 AV (ai (ag 0) (ai (ag 1) aD))) gK (eV (pY (eI 1))))) (aI (ba 3 (eI 0)) (aI (fO (eF (cu 1 vU (ai (e2 bj (ag 0) (ag 1)) aD))) (ba 3 (e2 bj (cu 1 Cz (ai (ag 0) aD)) (e2 kO (ag 1) (eI 1)))) bK) (aI (ba 4 (e2 kO (bE dI (ai (ag 2) aD)) (ag 3))) (cW (ga (ai (qX (ag 2) gK (eV (ag 4))) (ai (qX (ag 2) (eV (ag 4)) gK) aD))))))))
def qm:List W->List al->R W:=de 5 LQ
theorem N_(F:iC K "branches_at" "branches_at" GT f fd)(B:Bl mg)(E6:bY P w K mg base 1 "has_right" 1 vU)(IA:bY P w K mg base 4 "part_at" 2 AV)(Fc:bY P w K mg base 3 "sizes_of" 1 Cz):c6 P w K mg base (hZ P w) 5 f fd Lh (iD K mg 2 qm):=
 bS (k:=4) F vJ rfl fun fA A outer s H E hr=>(ar (sS 2 vJ (kY (bR IA hr #[0] (ae (aa 0) (ae (aa 1) ax))) fg (du (vq aB)))) (ar (sS 3 vJ aB) (ar (cE (ke (bR E6 hr #[0] (ae (bf (aa 0) (aa 1)) ax))) (aG (sS 3 vJ (bf (bR Fc hr #[0] (ae (aa 0) ax)) (bD jZ (aa 1) aB)))) bM) (ar (sS 4 vJ (bD jZ (bJ dO B.len bF (ae (aa 2) ax)) (aa 3))) (aG (bt (eR (ae (kY (aa 2) fg (du (aa 4))) (ae (kY (aa 2) (du (aa 4)) fg) ax)))))))))
def LR:FS:=(aI (ba 3 (eI 0)) (aI (fO (eF (e2 Ff (bE dI (ai (ag 0) aD)) (eI 0))) (ba 3 (e2 cQ (ag 3) (eI 1))) bK) (aI (fO (eF (e2 Ff (bE dI (ai (ag 1) aD)) (eI 0))) (ba 3 (e2 cQ (ag 3) (eI 2))) bK) (cW (e2 cQ (e2 cQ (ag 0) (ag 1)) (ga (ai (ga (ai (ag 3) (ai (ag 2) aD))) aD)))))))
def AW:List W->List al->R W:=de 4 LR
theorem N'(F:iC K "with_top" "with_top" GU f fd)(B:Bl mg) :c6 P w K mg base (hZ P w) 1 f fd Li (iD K mg 3 AW):=
 bS (k:=0) F yW rfl fun fA A outer s H E hr=>(ar (sS 3 yW aB) (ar (cE (cq yH (bJ dO B.len bF (ae (aa 0) ax)) aB) (aG (sS 3 yW (bD cH (aa 3) aB))) bM) (ar (cE (cq yH (bJ dO B.len bF (ae (aa 1) ax)) aB) (aG (sS 3 yW (bD cH (aa 3) aB))) bM) (aG (bt (bD cH (bD cH (aa 0) (aa 1)) (eR (ae (eR (ae (aa 3) (ae (aa 2) ax))) ax))))))))
def HB:FS:=(aI (ba 4 (cu 2 qm (ai (ag 0) (ai (ag 1) aD)))) (aI (ba 5 (Gf (eF (e2 iN (ag 2) (eC (.str [108,101,102,116])))) (ag 3) (e2 bj (ag 4) (eI 0)))) (aI (ba 6 (Gf (eF (e2 iN (ag 2) (eC (.str [114,105,103,104,116])))) (ag 3) (e2 bj (ag 4) (eI 1)))) (aI (ba 7 (e2 kO (e2 kO (ag 1) (bE dI (ai (e2 bj (ag 4) (eI 0)) aD))) (bE dI (ai (e2 bj (ag 4) (eI 1)) aD)))) (aI (ba 8 (e2 cQ (e2 cQ (qX (ag 0) gK (eV (ag 7))) (cu 3 AW (ai (ag 5) (ai (ag 6) (ai (e2 bj (e2 bj (ag 0) (ag 1)) (eI 1)) aD))))) (qX (ag 0) (eV (e2 cQ (ag 1) (eI 1))) gK))) (aI (c7 (cu 1 xO (ai (bE dI (ai (ag 8) aD)) aD))) (cW (ag 8))))))))
def AX:List W->List al->R W:=de 9 HB
theorem Oa(F:iC K "branch_put" "branch_put" GV f fd)(B:Bl mg)(wu:bY P w K mg base 5 "branches_at" 2 qm)(IT:bY P w K mg base 1 "check_size" 1 xO)(IU:bY P w K mg base 1 "with_top" 3 AW):c6 P w K mg base (hZ P w) 6 f fd Lj (iD K mg 4 AX):=
 bS (k:=5) F s_ rfl fun fA A outer s H E hr=>(ar (sS 4 s_ (bR wu hr #[0] (ae (aa 0) (ae (aa 1) ax)))) (ar (sS 5 s_ (ED (cq (hW hr) (aa 2) fC) (aa 3) (bf (aa 4) aB))) (ar (sS 6 s_ (ED (cq (hW hr) (aa 2) fC) (aa 3) (bf (aa 4) aB))) (ar (sS 7 s_ (bD jZ (bD jZ (aa 1) (bJ dO B.len bF (ae (bf (aa 4) aB) ax))) (bJ dO B.len bF (ae (bf (aa 4) aB) ax)))) (ar (sS 8 s_ (bD cH (bD cH (kY (aa 0) fg (du (aa 7))) (bR IU hr #[0] (ae (aa 5) (ae (aa 6) (ae (bf (bf (aa 0) (aa 1)) aB) ax))))) (kY (aa 0) (du (bD cH (aa 1) aB)) fg))) (ar (cI (bR IT hr #[0] (ae (bJ dO B.len bF (ae (aa 8) ax)) ax))) (aG (bt (aa 8)))))))))
def RC:FS:=(cW (Gf (eF (yG (ag 1))) (eI 0) (e2 bj (ag 0) (ag 1))))
def xP:List W->List al->R W:=de 2 RC
theorem Ob(F:iC K "room_below" "room_below" GW f fd)  :c6 P w K mg base (hZ P w) 1 f fd Lk (iD K mg 2 xP):=
 bS (k:=0) F N0 rfl fun fA A outer s H E hr=>(aG (bt (ED (Cc (aa 1)) aB (bf (aa 0) (aa 1)))))
def RD:FS:=(aI (ba 4 (e2 bj (e2 bj (ag 0) (eI 2)) (cu 2 Hy (ai (e2 bj (ag 0) (eI 0)) (ai (ag 1) aD))))) (cW (e2 bj (e2 bj (ag 4) (cu 2 xP (ai (ag 3) (ai (e2 bj (ag 2) (eI 0)) aD)))) (cu 2 xP (ai (ag 3) (ai (e2 bj (ag 2) (eI 1)) aD))))))
def rQ:List W->List al->R W:=de 5 RD
theorem Oc(F:iC K "room_at" "room_at" GX f fd) (Po:bY P w K mg base 1 "letter_of" 2 Hy)(D6:bY P w K mg base 1 "room_below" 2 xP):c6 P w K mg base (hZ P w) 2 f fd Ll (iD K mg 4 rQ):=
 bS (k:=1) F GY rfl fun fA A outer s H E hr=>(ar (sS 4 GY (bf (bf (aa 0) aB) (bR Po hr #[0] (ae (bf (aa 0) aB) (ae (aa 1) ax))))) (aG (bt (bf (bf (aa 4) (bR D6 hr #[0] (ae (aa 3) (ae (bf (aa 2) aB) ax)))) (bR D6 hr #[0] (ae (aa 3) (ae (bf (aa 2) aB) ax)))))))
def LS:FS:=(aI (ba 2 (kg aD)) (aI (kZ (yP (ai (ag 1) (ai (cu 1 vV (ai (ag 1) aD)) aD))) (Fh 2 (fD (jD 3) (fD (jD 4) oF))) (c7 (k7 bU (ag 2) (ai (cu 4 rQ (ai (ag 0) (ai (e2 bj (ag 3) (eI 1)) (ai (ag 4) (ai (ag 2) aD))))) aD)))) (cW (bE i8 (ai (ag 2) aD)))))
def nN:List W->List al->R W:=de 5 LS
theorem Oe(F:iC K "rooms_of" "rooms_of" GZ f fd)(B:Bl mg)(uI:bY P w K mg base 2 "links_of" 1 vV)(yi:bY P w K mg base 2 "room_at" 4 rQ):c6 P w K mg base (hZ P w) 3 f fd Lm (iD K mg 2 nN):=
 bS (k:=2) F yZ rfl fun fA A outer s H E hr=>(ar (sS 2 yZ (iM ax)) (ar (gX (Kn B.zip (ae (aa 1) (ae (bR uI hr #[0] (ae (aa 1) ax)) ax))) (l9 rfl (dJ (sG 3 yZ) (dJ (sG 4 yZ) jV))) (aG (cI (lI PySem.F.slot_list_append PySem.F.type_list_append cZ (aa 2) (ae (bR yi hr #[0] (ae (aa 0) (ae (bf (aa 3) aB) (ae (aa 4) (ae (aa 2) ax))))) ax))))) (aG (bt (gg kQ B.tuple fM (ae (aa 2) ax))))))
def RE:FS:=(cW (ga (ai (e2 bj (ag 0) (eI 2)) (ai (e2 bj (ag 0) (eI 3)) (ai (e2 bj (ag 0) (eI 0)) (ai (e2 bj (ag 0) (eI 1)) (ai (e2 bj (ag 0) (eI 4)) aD)))))))
def AY:List W->List al->R W:=de 1 RE
theorem Of(F:iC K "turned" "turned" G0 f fd)  :c6 P w K mg base (hZ P w) 1 f fd Ln (iD K mg 1 AY):=
 bS (k:=0) F N1 rfl fun fA A outer s H E hr=>(aG (bt (eR (ae (bf (aa 0) aB) (ae (bf (aa 0) aB) (ae (bf (aa 0) aB) (ae (bf (aa 0) aB) (ae (bf (aa 0) aB) ax))))))))
def RF:FS:=(cW (e2 cQ (e2 cQ (qX (ag 0) gK (eV (ag 1))) (ga (ai (ga (ai (e2 bj (e2 bj (ag 0) (ag 1)) (eI 0)) (ai (ag 2) aD))) aD))) (qX (ag 0) (eV (e2 cQ (ag 1) (eI 1))) gK)))
def AZ:List W->List al->R W:=de 3 RF
theorem Og(F:iC K "with_marks" "with_marks" G3 f fd)  :c6 P w K mg base (hZ P w) 1 f fd Lo (iD K mg 3 AZ):=
 bS (k:=0) F N2 rfl fun fA A outer s H E hr=>(aG (bt (bD cH (bD cH (kY (aa 0) fg (du (aa 1))) (eR (ae (eR (ae (bf (bf (aa 0) (aa 1)) aB) (ae (aa 2) ax))) ax))) (kY (aa 0) (du (bD cH (aa 1) aB)) fg))))
def RG:FS:=(aI (ba 3 (cu 2 qm (ai (e2 bj (ag 2) (eI 0)) (ai (e2 bj (ag 2) (eI 1)) aD)))) (aI (ba 4 (cu 2 qm (ai (e2 bj (ag 2) (eI 2)) (ai (e2 bj (ag 2) (eI 3)) aD)))) (aI (ba 5 (e2 kO (e2 kO (e2 bj (ag 2) (eI 1)) (bE dI (ai (e2 bj (ag 3) (eI 0)) aD))) (bE dI (ai (e2 bj (ag 3) (eI 1)) aD)))) (aI (ba 6 (e2 cQ (ag 5) (bE dI (ai (e2 bj (ag 3) (eI 0)) aD)))) (aI (fO (eF (e2 iN (e2 bj (ag 2) (eI 4)) (eC (.str [108,101,102,116])))) (aI (ba 7 (cu 2 nN (ai (ag 0) (ai (e2 bj (ag 4) (eI 0)) aD)))) (cW (ga (ai (e2 cQ (e2 cQ (qX (ag 1) gK (eV (ag 5))) (ag 7)) (qX (ag 1) (eV (ag 6)) gK)) (ai (bE dI (ai (ag 7) aD)) aD))))) bK) (aI (ba 7 (cu 2 nN (ai (ag 0) (ai (e2 bj (ag 4) (eI 1)) aD)))) (cW (ga (ai (e2 cQ (e2 cQ (qX (ag 1) gK (eV (ag 6))) (ag 7)) (qX (ag 1) (eV (e2 bj (ag 2) (eI 1))) gK)) (ai (bE dI (ai (ag 7) aD)) aD))))))))))
def xQ:List W->List al->R W:=de 8 RG
theorem Oh(F:iC K "branch_rooms" "branch_rooms" G4 f fd)(B:Bl mg)(wu:bY P w K mg base 5 "branches_at" 2 qm)(qo:bY P w K mg base 3 "rooms_of" 2 nN):c6 P w K mg base (hZ P w) 6 f fd Lp (iD K mg 3 xQ):=
 bS (k:=5) F qG rfl fun fA A outer s H E hr=>(ar (sS 3 qG (bR wu hr #[0] (ae (bf (aa 2) aB) (ae (bf (aa 2) aB) ax)))) (ar (sS 4 qG (bR wu hr #[0] (ae (bf (aa 2) aB) (ae (bf (aa 2) aB) ax)))) (ar (sS 5 qG (bD jZ (bD jZ (bf (aa 2) aB) (bJ dO B.len bF (ae (bf (aa 3) aB) ax))) (bJ dO B.len bF (ae (bf (aa 3) aB) ax)))) (ar (sS 6 qG (bD cH (aa 5) (bJ dO B.len bF (ae (bf (aa 3) aB) ax)))) (ar (cE (cq (hW hr) (bf (aa 2) aB) fC) (ar (sS 7 qG (bR qo hr #[0] (ae (aa 0) (ae (bf (aa 4) aB) ax)))) (aG (bt (eR (ae (bD cH (bD cH (kY (aa 1) fg (du (aa 5))) (aa 7)) (kY (aa 1) (du (aa 6)) fg)) (ae (bJ dO B.len bF (ae (aa 7) ax)) ax)))))) bM) (ar (sS 7 qG (bR qo hr #[0] (ae (aa 0) (ae (bf (aa 4) aB) ax)))) (aG (bt (eR (ae (bD cH (bD cH (kY (aa 1) fg (du (aa 6))) (aa 7)) (kY (aa 1) (du (bf (aa 2) aB)) fg)) (ae (bJ dO B.len bF (ae (aa 7) ax)) ax)))))))))))
def RH:FS:=(aI (ba 4 (cu 1 vV (ai (ag 1) aD))) (aI (ba 5 (cu 1 Hz (ai (ag 1) aD))) (aI (ba 6 (bE xB (ai (ag 2) aD))) (aI (ba 7 (eI 0)) (aI (ba 8 (ag 3)) (aI (mU (eF (gu (ag 8))) (aI (ba 9 (cu 4 rQ (ai (ag 0) (ai (e2 bj (e2 bj (ag 1) (ag 8)) (eI 1)) (ai (e2 bj (ag 4) (ag 8)) (ai (ag 6) aD)))))) (aI (ba 7 (e2 cQ (ag 7) (eI 1))) (aI (fO (eF (e2 iN (ag 9) (e2 bj (ag 6) (ag 8)))) Ce bK) (aI (wO (ag 6) (ag 8) (ag 9) qi) (ba 8 (cu 2 ET (ai (ag 5) (ai (ag 8) aD))))))))) (cW (ga (ai (bE i8 (ai (ag 6) aD)) (ai (ag 7) aD))))))))))
def A1:List W->List al->R W:=de 10 RH
theorem Oi(F:iC K "climbed" "climbed" G5 f fd)(B:Bl mg)(uI:bY P w K mg base 2 "links_of" 1 vV)(yi:bY P w K mg base 2 "room_at" 4 rQ)(Pg:bY P w K mg base 1 "up_from" 2 ET)(Pa:bY P w K mg base 3 "ups_of" 1 Hz):c6 P w K mg base (hZ P w) 4 f fd Lq (iD K mg 4 A1):=
 bS (k:=3) F mW rfl fun fA A outer s H E hr=>(ar (sS 4 mW (bR uI hr #[0] (ae (aa 1) ax))) (ar (sS 5 mW (bR Pa hr #[0] (ae (aa 1) ax))) (ar (sS 6 mW (gg Nt B.list boot_list (ae (aa 2) ax))) (ar (sS 7 mW aB) (ar (sS 8 mW (aa 3)) (ar (vm (ii (aa 8)) (ar (sS 9 mW (bR yi hr #[0] (ae (aa 0) (ae (bf (bf (aa 1) (aa 8)) aB) (ae (bf (aa 4) (aa 8)) (ae (aa 6) ax)))))) (ar (sS 7 mW (bD cH (aa 7) aB)) (ar (cE (cq (hW hr) (aa 9) (bf (aa 6) (aa 8))) (aG Gq) bM) (ar (yJ Cf (aa 9) (aa 6) (aa 8)) (aG (sS 8 mW (bR Pg hr #[0] (ae (aa 5) (ae (aa 8) ax)))))))))) (aG (bt (eR (ae (gg kQ B.tuple fM (ae (aa 6) ax)) (ae (aa 7) ax)))))))))))
def nO:FS:=(aI (oH "Kept" "machine" (ag 0) (ag 1)) (aI (oH "Kept" "tree" (ag 0) (ag 2)) (aI (oH "Kept" "rooms" (ag 0) (cu 2 nN (ai (ag 1) (ai (ag 2) aD)))) (aI (oH "Kept" "many" (ag 0) (bE dI (ai (ag 2) aD))) (aI (oH "Kept" "standing" (ag 0) (kg aD)) (oH "Kept" "taken_back" (ag 0) (kg aD)))))))
def gM:List W->List al->R W:=de 3 nO
theorem tw(F:iC K "__init__" "Kept.__init__" km f fd)(B:Bl mg)(O:Ow K mg)(qo:bY P w K mg base 3 "rooms_of" 2 nN):c6 P w K mg base (hZ P w) 4 f fd nK (iD K mg 3 gM):=
 bS (k:=3) F tf rfl fun fA A outer s H E hr=>(ar (ki O.Kept (aa 0) (aa 1)) (ar (ki O.Kept (aa 0) (aa 2)) (ar (ki O.Kept (aa 0) (bR qo hr #[0] (ae (aa 1) (ae (aa 2) ax)))) (ar (ki O.Kept (aa 0) (bJ dO B.len bF (ae (aa 2) ax))) (ar (ki O.Kept (aa 0) (iM ax)) (aG (ki O.Kept (aa 0) (iM ax))))))))
def jN:FS:=(aI (fO (eF (yG (e2 bj (ag 1) (eI 1)))) (aI (oH "Kept" "rooms" (ag 0) (cu 2 nN (ai (ji "Kept" "machine" (ag 0)) (ai (e2 bj (ag 1) (eI 2)) aD)))) (oH "Kept" "many" (ag 0) (bE dI (ai (e2 bj (ag 1) (eI 2)) aD)))) (aI (ba 2 (ga (ai (ji "Kept" "rooms" (ag 0)) (ai (eI 0) aD)))) (aI (fO (eF (gu (e2 bj (ag 1) (eI 4)))) (ba 2 (cu 3 xQ (ai (ji "Kept" "machine" (ag 0)) (ai (ji "Kept" "rooms" (ag 0)) (ai (ag 1) aD))))) bK) (aI (ba 3 (cu 4 A1 (ai (ji "Kept" "machine" (ag 0)) (ai (e2 bj (ag 1) (eI 2)) (ai (e2 bj (ag 2) (eI 0)) (ai (e2 bj (ag 1) (eI 3)) aD)))))) (aI (oH "Kept" "rooms" (ag 0) (e2 bj (ag 3) (eI 0))) (oH "Kept" "many" (ag 0) (e2 cQ (e2 bj (ag 2) (eI 1)) (e2 bj (ag 3) (eI 1))))))))) (oH "Kept" "tree" (ag 0) (e2 bj (ag 1) (eI 2))))
def dy:List W->List al->R W:=de 4 jN
theorem rR(F:iC K "carry_out" "Kept.carry_out" jL f fd)(B:Bl mg)(O:Ow K mg)(IV:bY P w K mg base 6 "branch_rooms" 3 xQ)(Iz:bY P w K mg base 4 "climbed" 4 A1)(qo:bY P w K mg base 3 "rooms_of" 2 nN):c6 P w K mg base (hZ P w) 7 f fd mH (iD K mg 2 dy):=
 bS (k:=6) F g_ rfl fun fA A outer s H E hr=>(ar (cE (Cc #[20]) (ar (ki O.Kept (aa 0) (bR qo hr #[0] (ae #[21] (ae #[20] ax)))) (aG (ki O.Kept (aa 0) (bJ dO B.len bF (ae #[20] ax))))) (ar (sS 2 g_ (eR (ae #[21] (ae aB ax)))) (ar (cE (ii #[20]) (aG (sS 2 g_ (bR IV hr #[0] (ae #[21] (ae #[21] (ae (aa 1) ax)))))) bM) (ar (sS 3 g_ (bR Iz hr #[0] (ae #[21] (ae #[20] (ae (bf (aa 2) aB) (ae #[20] ax)))))) (ar (ki O.Kept (aa 0) (bf (aa 3) aB)) (aG (ki O.Kept (aa 0) (bD cH (bf (aa 2) aB) (bf (aa 3) aB))))))))) (aG (ki O.Kept (aa 0) #[20])))
def oV:FS:=(aI (c7 (iP "Kept" "carry_out" 2 dy (ag 0) (ai (ag 1) aD))) (aI (c7 (k7 bU (ji "Kept" "standing" (ag 0)) (ai (ag 1) aD))) (oH "Kept" "taken_back" (ag 0) (kg aD))))
def d8:List W->List al->R W:=de 2 oV
theorem uE(F:iC K "do_deed" "Kept.do_deed" lc f fd)(O:Ow K mg)(dA:iF P w K mg base 7 "Kept" "carry_out" 2 dy):c6 P w K mg base (hZ P w) 8 f fd oN (iD K mg 2 d8):=
 bS (k:=7) F ux rfl fun fA A outer s H E hr=>(ar (cI (kj dA hr #[0] (aa 0) (ae (aa 1) ax))) (ar (cI (lI PySem.F.slot_list_append PySem.F.type_list_append cZ #[21] (ae (aa 1) ax))) (aG (ki O.Kept (aa 0) (iM ax)))))
def tz:FS:=(c7 (iP "Kept" "do_deed" 2 d8 (ag 0) (ai (ga (ai (ji "Kept" "tree" (ag 0)) (ai (ag 1) (ai (cu 3 AZ (ai (ji "Kept" "tree" (ag 0)) (ai (ag 1) (ai (ag 2) aD)))) (ai (ag 1) (ai (eC .non) aD)))))) aD)))
def eN:List W->List al->R W:=de 3 tz
theorem rS(F:iC K "mark_deed" "Kept.mark_deed" jM f fd)(O:Ow K mg)(ef:iF P w K mg base 8 "Kept" "do_deed" 2 d8)(IH:bY P w K mg base 1 "with_marks" 3 AZ):c6 P w K mg base (hZ P w) 9 f fd mI (iD K mg 3 eN):=
 bS (k:=8) F rL rfl fun fA A outer s H E hr=>(aG (cI (kj ef hr #[0] (aa 0) (ae (eR (ae #[21] (ae (aa 1) (ae (bR IH hr #[0] (ae #[21] (ae (aa 1) (ae (aa 2) ax)))) (ae (aa 1) (ae qf ax)))))) ax))))
def CA:FS:=(aI (c7 (cu 2 zi (ai (ji "Kept" "tree" (ag 0)) (ai (ag 1) aD)))) (c7 (iP "Kept" "mark_deed" 3 eN (ag 0) (ai (ag 1) (ai (cu 1 Hw (ai (e2 cQ (e2 bj (e2 bj (ji "Kept" "tree" (ag 0)) (ag 1)) (eI 1)) (ag 2)) aD)) aD)))))
def jO:List W->List al->R W:=de 3 CA
theorem A2(F:iC K "put" "Kept.put" qH f fd)(O:Ow K mg)(fz:iF P w K mg base 9 "Kept" "mark_deed" 3 eN)(zN:bY P w K mg base 1 "check_place" 2 zi)(O_:bY P w K mg base 1 "in_order" 1 Hw):c6 P w K mg base (hZ P w) 10 f fd vM (iD K mg 3 jO):=
 bS (k:=9) F AM rfl fun fA A outer s H E hr=>(ar (cI (bR zN hr #[0] (ae #[21] (ae (aa 1) ax)))) (aG (cI (kj fz hr #[0] (aa 0) (ae (aa 1) (ae (bR O_ hr #[0] (ae (bD cH (bf (bf #[21] (aa 1)) aB) (aa 2)) ax)) ax))))))
def A3:FS:=(aI (c7 (cu 2 zi (ai (ji "Kept" "tree" (ag 0)) (ai (ag 1) aD)))) (c7 (iP "Kept" "mark_deed" 3 eN (ag 0) (ai (ag 1) (ai (DL (e2 bj (e2 bj (ji "Kept" "tree" (ag 0)) (ag 1)) (eI 1)) (ag 2)) aD)))))
def jd:List W->List al->R W:=de 3 A3
theorem zj(F:iC K "take" "Kept.take" oO f fd)(O:Ow K mg)(fz:iF P w K mg base 9 "Kept" "mark_deed" 3 eN)(zN:bY P w K mg base 1 "check_place" 2 zi):c6 P w K mg base (hZ P w) 10 f fd ue (iD K mg 3 jd):=
 bS (k:=9) F y6 rfl fun fA A outer s H E hr=>(ar (cI (bR zN hr #[0] (ae #[21] (ae (aa 1) ax)))) (aG (cI (kj fz hr #[0] (aa 0) (ae (aa 1) (ae (NN (bf (bf #[21] (aa 1)) aB) (aa 2)) ax))))))
def wX:FS:=(aI (ba 4 (cu 4 AX (ai (ji "Kept" "tree" (ag 0)) (ai (ag 1) (ai (ag 2) (ai (ag 3) aD)))))) (c7 (iP "Kept" "do_deed" 2 d8 (ag 0) (ai (ga (ai (ji "Kept" "tree" (ag 0)) (ai (ag 1) (ai (ag 4) (ai (e2 kO (e2 cQ (ag 1) (bE dI (ai (ag 4) aD))) (bE dI (ai (ji "Kept" "tree" (ag 0)) aD))) (ai (ag 2) aD)))))) aD))))
def gU:List W->List al->R W:=de 5 wX
theorem vW(F:iC K "branch" "Kept.branch" me f fd)(B:Bl mg)(O:Ow K mg)(ef:iF P w K mg base 8 "Kept" "do_deed" 2 d8)(IY:bY P w K mg base 6 "branch_put" 4 AX):c6 P w K mg base (hZ P w) 9 f fd qk (iD K mg 4 gU):=
 bS (k:=8) F oP rfl fun fA A outer s H E hr=>(ar (sS 4 oP (bR IY hr #[0] (ae #[21] (ae (aa 1) (ae (aa 2) (ae (aa 3) ax)))))) (aG (cI (kj ef hr #[0] (aa 0) (ae (eR (ae #[21] (ae (aa 1) (ae (aa 4) (ae (bD jZ (bD cH (aa 1) (bJ dO B.len bF (ae (aa 4) ax))) (bJ dO B.len bF (ae #[21] ax))) (ae (aa 2) ax)))))) ax)))))
def zk:FS:=(c7 (iP "Kept" "do_deed" 2 d8 (ag 0) (ai (ga (ai (ji "Kept" "tree" (ag 0)) (ai (eC .non) (ai (ag 1) (ai (eC .non) (ai (eC .non) aD)))))) aD)))
def il:List W->List al->R W:=de 2 zk
theorem wY(F:iC K "whole" "Kept.whole" mX f fd)(O:Ow K mg)(ef:iF P w K mg base 8 "Kept" "do_deed" 2 d8):c6 P w K mg base (hZ P w) 9 f fd rM (iD K mg 2 il):=
 bS (k:=8) F wU rfl fun fA A outer s H E hr=>(aG (cI (kj ef hr #[0] (aa 0) (ae (eR (ae #[21] (ae qf (ae (aa 1) (ae qf (ae qf ax)))))) ax))))
def ug:FS:=(aI (fO (eF (e2 iN (bE dI (ai (ji "Kept" "standing" (ag 0)) aD)) (eI 0))) (vA "NothingDone") bK) (aI (ba 1 (k7 mD (ji "Kept" "standing" (ag 0)) aD)) (aI (c7 (iP "Kept" "carry_out" 2 dy (ag 0) (ai (cu 1 AY (ai (ag 1) aD)) aD))) (c7 (k7 bU (ji "Kept" "taken_back" (ag 0)) (ai (ag 1) aD))))))
def je:List W->List al->R W:=de 2 ug
theorem zm(F:iC K "back" "Kept.back" oQ f fd)(B:Bl mg)(C:Cls K mg)(O:Ow K mg)(dA:iF P w K mg base 7 "Kept" "carry_out" 2 dy)(IP:bY P w K mg base 1 "turned" 1 AY):c6 P w K mg base (hZ P w) 8 f fd uf (iD K mg 1 je):=
 bS (k:=7) F rN rfl fun fA A outer s H E hr=>(ar (cE (cq (hW hr) (bJ dO B.len bF (ae #[21] ax)) aB) (aG (rD C.NothingDone)) bM) (ar (sS 1 rN (qj PySem.F.slot_list_pop PySem.F.type_list_pop l_ #[21])) (ar (cI (kj dA hr #[0] (aa 0) (ae (bR IP hr #[0] (ae (aa 1) ax)) ax))) (aG (cI (lI PySem.F.slot_list_append PySem.F.type_list_append cZ #[21] (ae (aa 1) ax)))))))
def rV:FS:=(aI (fO (eF (e2 iN (bE dI (ai (ji "Kept" "taken_back" (ag 0)) aD)) (eI 0))) (vA "NothingDone") bK) (aI (ba 1 (k7 mD (ji "Kept" "taken_back" (ag 0)) aD)) (aI (c7 (iP "Kept" "carry_out" 2 dy (ag 0) (ai (ag 1) aD))) (c7 (k7 bU (ji "Kept" "standing" (ag 0)) (ai (ag 1) aD))))))
def im:List W->List al->R W:=de 2 rV
theorem wZ(F:iC K "again" "Kept.again" mY f fd)(B:Bl mg)(C:Cls K mg)(O:Ow K mg)(dA:iF P w K mg base 7 "Kept" "carry_out" 2 dy):c6 P w K mg base (hZ P w) 8 f fd rO (iD K mg 1 im):=
 bS (k:=7) F ql rfl fun fA A outer s H E hr=>(ar (cE (cq (hW hr) (bJ dO B.len bF (ae #[21] ax)) aB) (aG (rD C.NothingDone)) bM) (ar (sS 1 ql (qj PySem.F.slot_list_pop PySem.F.type_list_pop l_ #[21])) (ar (cI (kj dA hr #[0] (aa 0) (ae (aa 1) ax))) (aG (cI (lI PySem.F.slot_list_append PySem.F.type_list_append cZ #[21] (ae (aa 1) ax)))))))
def uF:FS:=(cW (ji "Kept" "tree" (ag 0)))
def gN:List W->List al->R W:=de 1 uF
theorem tD(F:iC K "tree_now" "Kept.tree_now" ko f fd)(O:Ow K mg) :c6 P w K mg base (hZ P w) 1 f fd nL (iD K mg 1 gN):=
 bS (k:=0) F tq rfl fun fA A outer s H E hr=>(aG (bt #[21]))
def uG:FS:=(cW (ji "Kept" "many" (ag 0)))
def fR:List W->List al->R W:=de 1 uG
theorem tF(F:iC K "reckoned" "Kept.reckoned" kr f fd)(O:Ow K mg) :c6 P w K mg base (hZ P w) 1 f fd nM (iD K mg 1 fR):=
 bS (k:=0) F tt rfl fun fA A outer s H E hr=>(aG (bt #[21]))
def RI:FS:=(aI (fO (eF (e2 iN (bE dI (ai (ag 0) aD)) (eI 0))) (cW (eI 0)) bK) (cW (e2 bj (ag 0) (e2 i7 (ag 1) (bE dI (ai (ag 0) aD))))))
def nR:List W->List al->R W:=de 2 RI
theorem Oj(F:iC K "_law_cell" "_law_cell" G6 f fd)(B:Bl mg) :c6 P w K mg base (hZ P w) 1 f fd Lr (iD K mg 2 nR):=
 bS (k:=0) F N3 rfl fun fA A outer s H E hr=>(ar (cE (cq (hW hr) (bJ dO B.len bF (ae (aa 0) ax)) aB) (aG (bt aB)) bM) (aG (bt (bf (aa 0) (bD iA (aa 1) (bJ dO B.len bF (ae (aa 0) ax)))))))
def RJ:FS:=(aI (ba 3 (e2 i7 (e2 iB (e2 cQ (e2 cQ (e2 cQ (ag 0) (e2 iB (e2 iB (eI 7) (ag 1)) (ag 1))) (e2 iB (eI 13) (ag 1))) (ag 2)) (eI 69621)) (eI 2147483647))) (cW (e2 i7 (e2 iB (e2 i7 (e2 cQ (e2 cQ (e2 iB (ag 3) (e2 cQ (e2 t0 (ag 3) (eI 1009)) (eI 3))) (e2 iB (eI 31) (ag 1))) (ag 2)) (eI 2147483629)) (eI 48271)) (eI 1000000007))))
def xR:List W->List al->R W:=de 4 RJ
theorem Ol(F:iC K "_law_mixed" "_law_mixed" G7 f fd)  :c6 P w K mg base (hZ P w) 1 f fd Ls (iD K mg 3 xR):=
 bS (k:=0) F G8 rfl fun fA A outer s H E hr=>(ar (sS 3 G8 (bD iA (bD js (bD cH (bD cH (bD cH (aa 0) (bD js (bD js aB (aa 1)) (aa 1))) (bD js aB (aa 1))) (aa 2)) aB) aB)) (aG (bt (bD iA (bD js (bD iA (bD cH (bD cH (bD js (aa 3) (bD cH (bD sR (aa 3) aB) aB)) (bD js aB (aa 1))) (aa 2)) aB) aB) aB))))
def LT:FS:=(aI (ba 3 (kg aD)) (aI (ba 4 (eI 0)) (aI (fO (eF (e2 Nq (ag 0) (e2 QK (eI 10) (eI 18)))) (ba 4 (ag 0)) bK) (aI (kZ (dP (ai (ag 1) aD)) (jD 5) (fO (eF (e2 Ff (ag 4) (eI 0))) (aI (c7 (k7 bU (ag 3) (ai (e2 i7 (ag 4) (eI 64)) aD))) (ba 4 (e2 t0 (ag 4) (eI 64)))) (c7 (k7 bU (ag 3) (ai (cu 3 xR (ai (ag 0) (ai (ag 5) (ai (ag 2) aD)))) aD))))) (cW (ag 3))))))
def ld:List W->List al->R W:=de 6 LT
theorem Om(F:iC K "_law_draws" "_law_draws" G9 f fd)(B:Bl mg)(IX:bY P w K mg base 1 "_law_mixed" 3 xR):c6 P w K mg base (hZ P w) 2 f fd Lu (iD K mg 3 ld):=
 bS (k:=1) F tu rfl fun fA A outer s H E hr=>(ar (sS 3 tu (iM ax)) (ar (sS 4 tu aB) (ar (cE (cq J7 (aa 0) (bD QM aB aB)) (aG (sS 4 tu (aa 0))) bM) (ar (gX (gT B.range (ae (aa 1) ax)) (sG 5 tu) (aG (cE (cq yH (aa 4) aB) (ar (cI (lI PySem.F.slot_list_append PySem.F.type_list_append cZ (aa 3) (ae (bD iA (aa 4) aB) ax))) (aG (sS 4 tu (bD sR (aa 4) aB)))) (aG (cI (lI PySem.F.slot_list_append PySem.F.type_list_append cZ (aa 3) (ae (bR IX hr #[0] (ae (aa 0) (ae (aa 5) (ae (aa 2) ax)))) ax))))))) (aG (bt (aa 3)))))))
def DM(Sk:List W->List al->R W):FS:=(aI (fO (eF (vz "tuple" (ag 1))) (aI (fO (Jf (Fe (eF (vz "tuple" (ag 0)))) (eF (e2 J9 (bE dI (ai (ag 0) aD)) (bE dI (ai (ag 1) aD))))) (cW (eC (.bl false))) bK) (aI (kZ (dP (ai (bE dI (ai (ag 1) aD)) aD)) (jD 2) (fO (Fe (eF (cu 2 Sk (ai (e2 bj (ag 0) (ag 2)) (ai (e2 bj (ag 1) (ag 2)) aD))))) (cW (eC (.bl false))) bK)) (cW (eC (.bl true))))) bK) (aI (fO (eF (yG (ag 1))) (cW (yG (ag 0))) bK) (aI (fO (eF (vz "bool" (ag 1))) (cW (Cb (vz "bool" (ag 0)) (e2 iN (ag 0) (ag 1)))) bK) (aI (fO (eF (vz "int" (ag 1))) (cW (Cb (vz "int" (ag 0)) (Cb (J4 (vz "bool" (ag 0))) (e2 iN (ag 0) (ag 1))))) bK) (cW (Cb (vz "str" (ag 0)) (e2 iN (ag 0) (ag 1))))))))
def lU:Nat->List W->List al->R W
 |0=>fun _ _=>.bad
 |k+1=>de 3 (DM (lU k))
theorem DN{IK:Addr}{Pk:FuncData}(ym:iC K "_law_same" "_law_same" G_ IK Pk)(Bt:mg "_law_same"=some (.ref IK))(B:Bl mg) :∀k:Nat,bY P w K mg base (0+k) "_law_same" 2 (lU k)
 |0=>Gz (ps:=G') ym Bt rfl (fun _ _ _ _ _ _ us hl=>match us,hl with|[_,_],_=>rfl)
 |k+1=>by
  have wE:=DN ym Bt B  k
  exact yK (ps:=G') ym Bt rfl (fun _ _ _ _ _ _ us hl=>match us,hl with|[_,_],_=>rfl) (bS (k:=0+k) ym Ha rfl fun fA A outer s H E hr=>(ar (cE (ke (t7 B.isinstance B.tuple fM (aa 1))) (ar (cE (J3 (Dr (sP (ke (t7 B.isinstance B.tuple fM (aa 0)))) (yF (cq (Nr hr) (bJ dO B.len bF (ae (aa 0) ax)) (bJ dO B.len bF (ae (aa 1) ax)))))) (aG (bt Ca)) bM) (ar (gX (gT B.range (ae (bJ dO B.len bF (ae (aa 1) ax)) ax)) (sG 2 Ha) (aG (cE (sP (ke (bR wE hr #[0] (ae (bf (aa 0) (aa 2)) (ae (bf (aa 1) (aa 2)) ax))))) (aG (bt Ca)) bM))) (aG (bt Ca)))) bM) (ar (cE (Cc (aa 1)) (aG (bt (QF (aa 0)))) bM) (ar (cE (ke (t7 B.isinstance B.bool tP (aa 1))) (aG (bt (Ds (t7 B.isinstance B.bool tP (aa 0)) (Ge (re (hW hr) (aa 0) (aa 1)))))) bM) (ar (cE (ke (t7 B.isinstance B.int pG (aa 1))) (aG (bt (Ds (t7 B.isinstance B.int pG (aa 0)) (Ds (QD (t7 B.isinstance B.bool tP (aa 0))) (Ge (re (hW hr) (aa 0) (aa 1))))))) bM) (aG (bt (Ds (t7 B.isinstance B.str boot_str (aa 0)) (Ge (re (hW hr) (aa 0) (aa 1)))))))))))
def LU:FS:=(aI (ba 3 (eC (.str [65,66,67,68,69,70,71,72,73,74,75,76,77,78,79,80,81,82,83,84,85,86,87,88,89,90,97,98,99,100,101,102,103,104,105,106,107,108,109,110,111,112,113,114,115,116,117,118,119,120,121,122]))) (aI (ba 4 (eC (.str []))) (aI (kZ (gy (cu 3 ld (ai (ag 0) (ai (ag 1) (ai (ag 2) aD))))) (jD 5) (aI (ba 6 (e2 i7 (ag 5) (bE dI (ai (ag 3) aD)))) (aI (ba 4 (e2 cQ (ag 4) (e2 bj (ag 3) (ag 6)))) (ba 3 (e2 cQ (qX (ag 3) gK (eV (ag 6))) (qX (ag 3) (eV (e2 cQ (ag 6) (eI 1))) gK)))))) (cW (ag 4)))))
def xS:List W->List al->R W:=de 7 LU
theorem On(F:iC K "_law_pool" "_law_pool" Hb f fd)(B:Bl mg)(pd:bY P w K mg base 2 "_law_draws" 3 ld):c6 P w K mg base (hZ P w) 3 f fd Lw (iD K mg 3 xS):=
 bS (k:=2) F qI rfl fun fA A outer s H E hr=>(ar (sS 3 qI fC) (ar (sS 4 qI fC) (ar (gX (k8 (bR pd hr #[0] (ae (aa 0) (ae (aa 1) (ae (aa 2) ax))))) (sG 5 qI) (ar (sS 6 qI (bD iA (aa 5) (bJ dO B.len bF (ae (aa 3) ax)))) (ar (sS 4 qI (bD cH (aa 4) (bf (aa 3) (aa 6)))) (aG (sS 3 qI (bD cH (kY (aa 3) fg (du (aa 6))) (kY (aa 3) (du (bD cH (aa 6) aB)) fg))))))) (aG (bt (aa 4))))))
def LV:FS:=(cW (Jg nF (eC (.str [])) (ai (bE kh (ai (j3 [none,some 0,some 1] (dP (ai (bE dI (ai (ag 0) aD)) aD)) (jD 0) (eF (e2 iN (e2 Gj (e2 Nn (ag 2) (ag 0)) (eI 1)) (eI 1))) (e2 bj (ag 1) (ag 0))) aD)) aD)))
def A4:List W->List al->R W:=de 2 LV
theorem Oo(F:iC K "_law_marks" "_law_marks" Hc f fd)(B:Bl mg) :c6 P w K mg base (hZ P w) 1 f fd Lx (iD K mg 2 A4):=
 bS (k:=0) F N4 rfl fun fA A outer s H E hr=>(aG (bt (Ka PySem.F.slot_str_join PySem.F.type_str_join uQ fC (ae (bJ yO B.sorted pF (ae (Ci (nm:=["_law_k","_law_pool_here","_law_number"]) (cap:=[none,some 0,some 1]) (by first|rfl|kernel_rfl) rfl (gT B.range (ae (bJ dO B.len bF (ae (aa 0) ax)) ax)) (fun _ _ _ _ _=>(sC 0)) (fun _ _ _ _ _=>(Dy (cq (hW hr) (bD No (bD QN (aa 2) (aa 0)) aB) aB))) (fun _ _ _ _ _=>(bf (aa 1) (aa 0)))) ax)) ax))))
def LW:FS:=(aI (ba 2 (kg aD)) (aI (ba 3 (eI 0)) (aI (kZ (gy (ag 0)) (jD 4) (aI (ba 5 (e2 i7 (ag 4) (eI 4))) (aI (fO (eF (e2 Ff (e2 t0 (e2 cQ (ag 5) (eI 1)) (eI 2)) (ag 3))) (ba 5 (eI 0)) bK) (aI (c7 (k7 bU (ag 2) (ai (ga (ai (ag 5) (ai (cu 2 A4 (ai (ag 1) (ai (e2 i7 (e2 t0 (ag 4) (eI 4)) (eI 16)) aD))) aD))) aD))) (ba 3 (e2 kO (e2 cQ (ag 3) (eI 1)) (e2 t0 (e2 cQ (ag 5) (eI 1)) (eI 2)))))))) (aI (mU (eF (e2 Ff (ag 3) (eI 1))) (aI (c7 (k7 bU (ag 2) (ai (ga (ai (eI 3) (ai (e2 bj (e2 bj (ag 2) (e2 kO (ag 3) (eI 1))) (eI 1)) aD))) aD))) (ba 3 (e2 kO (ag 3) (eI 1))))) (cW (bE i8 (ai (ag 2) aD)))))))
def vX:List W->List al->R W:=de 6 LW
theorem Op(F:iC K "_law_tree" "_law_tree" Hd f fd)(B:Bl mg)(ID:bY P w K mg base 1 "_law_marks" 2 A4):c6 P w K mg base (hZ P w) 2 f fd Ly (iD K mg 2 vX):=
 bS (k:=1) F oR rfl fun fA A outer s H E hr=>(ar (sS 2 oR (iM ax)) (ar (sS 3 oR aB) (ar (gX (k8 (aa 0)) (sG 4 oR) (ar (sS 5 oR (bD iA (aa 4) aB)) (ar (cE (cq yH (bD sR (bD cH (aa 5) aB) aB) (aa 3)) (aG (sS 5 oR aB)) bM) (ar (cI (lI PySem.F.slot_list_append PySem.F.type_list_append cZ (aa 2) (ae (eR (ae (aa 5) (ae (bR ID hr #[0] (ae (aa 1) (ae (bD iA (bD sR (aa 4) aB) aB) ax))) ax))) ax))) (aG (sS 3 oR (bD jZ (bD cH (aa 3) aB) (bD sR (bD cH (aa 5) aB) aB)))))))) (ar (vm (cq yH (aa 3) aB) (ar (cI (lI PySem.F.slot_list_append PySem.F.type_list_append cZ (aa 2) (ae (eR (ae aB (ae (bf (bf (aa 2) (bD jZ (aa 3) aB)) aB) ax))) ax))) (aG (sS 3 oR (bD jZ (aa 3) aB))))) (aG (bt (gg kQ B.tuple fM (ae (aa 2) ax))))))))
def LX:FS:=(aI (ba 1 (kg aD)) (aI (ba 2 (kg aD)) (aI (kZ (dP (ai (bE dI (ai (ag 0) aD)) aD)) (jD 3) (aI (ba 4 (eC .non)) (aI (ba 5 (eC .non)) (aI (fO (eF (e2 Nq (e2 bj (e2 bj (ag 0) (ag 3)) (eI 0)) (eI 2))) (ba 5 (k7 mD (ag 1) aD)) bK) (aI (fO (eF (e2 iN (e2 i7 (e2 bj (e2 bj (ag 0) (ag 3)) (eI 0)) (eI 2)) (eI 1))) (ba 4 (k7 mD (ag 1) aD)) bK) (aI (c7 (k7 bU (ag 2) (ai (ga (ai (ag 4) (ai (ag 5) aD))) aD))) (c7 (k7 bU (ag 1) (ai (ag 3) aD))))))))) (cW (ag 2)))))
def vY:List W->List al->R W:=de 6 LX
theorem Oq(F:iC K "_law_links" "_law_links" He f fd)(B:Bl mg) :c6 P w K mg base (hZ P w) 1 f fd Lz (iD K mg 1 vY):=
 bS (k:=0) F oS rfl fun fA A outer s H E hr=>(ar (sS 1 oS (iM ax)) (ar (sS 2 oS (iM ax)) (ar (gX (gT B.range (ae (bJ dO B.len bF (ae (aa 0) ax)) ax)) (sG 3 oS) (ar (sS 4 oS qf) (ar (sS 5 oS qf) (ar (cE (cq J7 (bf (bf (aa 0) (aa 3)) aB) aB) (aG (sS 5 oS (qj PySem.F.slot_list_pop PySem.F.type_list_pop l_ (aa 1)))) bM) (ar (cE (cq (hW hr) (bD iA (bf (bf (aa 0) (aa 3)) aB) aB) aB) (aG (sS 4 oS (qj PySem.F.slot_list_pop PySem.F.type_list_pop l_ (aa 1)))) bM) (ar (cI (lI PySem.F.slot_list_append PySem.F.type_list_append cZ (aa 2) (ae (eR (ae (aa 4) (ae (aa 5) ax))) ax))) (aG (cI (lI PySem.F.slot_list_append PySem.F.type_list_append cZ (aa 1) (ae (aa 3) ax)))))))))) (aG (bt (aa 2))))))
def LY:FS:=(aI (ba 4 (bE i8 (ai (j3 [none,some 3] (dP (ai (ag 1) aD)) (jD 0) wP (e2 iN (e2 i7 (e2 bj (ag 1) (ag 0)) (eI 2)) (eI 1))) aD))) (aI (ba 5 (kg aD)) (aI (ba 6 (ag 1)) (aI (kZ (dP (ai (e2 Aq (eI 1) (bE dI (ai (ag 0) aD))) aD)) (jD 7) (aI (ba 8 (kg aD)) (aI (kZ (dP (ai (ag 1) aD)) (jD 9) (aI (c7 (k7 bU (ag 8) (ai (bE i8 (ai (j3 [none,some 2,some 3,some 6] (dP (ai (ag 1) aD)) (jD 0) wP (e2 i7 (e2 bj (ag 2) (e2 cQ (ag 3) (ag 0))) (ag 1))) aD)) aD))) (ba 6 (e2 cQ (ag 6) (ag 1))))) (c7 (k7 bU (ag 5) (ai (bE i8 (ai (ag 8) aD)) aD)))))) (cW (ga (ai (ag 0) (ai (ag 4) (ai (bE i8 (ai (ag 5) aD)) aD)))))))))
def A5:List W->List al->R W:=de 10 LY
theorem Os(F:iC K "_law_machine" "_law_machine" Hf f fd)(B:Bl mg) :c6 P w K mg base (hZ P w) 1 f fd LA (iD K mg 4 A5):=
 bS (k:=0) F oT rfl fun fA A outer s H E hr=>(ar (sS 4 oT (gg kQ B.tuple fM (ae (Ci (nm:=["_law_k","_law_draws_here"]) (cap:=[none,some 3]) (by first|rfl|kernel_rfl) rfl (gT B.range (ae (aa 1) ax)) (fun _ _ _ _ _=>(sC 0)) (fun _ _ _ _ _=>uR) (fun _ _ _ _ _=>(re (hW hr) (bD iA (bf (aa 1) (aa 0)) aB) aB))) ax))) (ar (sS 5 oT (iM ax)) (ar (sS 6 oT (aa 1)) (ar (gX (gT B.range (ae (bD K9 aB (bJ dO B.len bF (ae (aa 0) ax))) ax)) (sG 7 oT) (ar (sS 8 oT (iM ax)) (ar (gX (gT B.range (ae (aa 1) ax)) (sG 9 oT) (ar (cI (lI PySem.F.slot_list_append PySem.F.type_list_append cZ (aa 8) (ae (gg kQ B.tuple fM (ae (Ci (nm:=["_law_r","_law_top","_law_draws_here","_law_at"]) (cap:=[none,some 2,some 3,some 6]) (by first|rfl|kernel_rfl) rfl (gT B.range (ae (aa 1) ax)) (fun _ _ _ _ _=>(sC 0)) (fun _ _ _ _ _=>uR) (fun _ _ _ _ _=>(bD iA (bf (aa 2) (bD cH (aa 3) (aa 0))) (aa 1)))) ax)) ax))) (aG (sS 6 oT (bD cH (aa 6) (aa 1)))))) (aG (cI (lI PySem.F.slot_list_append PySem.F.type_list_append cZ (aa 5) (ae (gg kQ B.tuple fM (ae (aa 8) ax)) ax))))))) (aG (bt (eR (ae (aa 0) (ae (aa 4) (ae (gg kQ B.tuple fM (ae (aa 5) ax)) ax))))))))))
def LZ:FS:=(aI (ba 2 (eI 0)) (aI (kZ (gy (ag 0)) (jD 3) (ba 2 (e2 cQ (e2 iB (eI 2) (ag 2)) (bE xH (ai (e2 (Fg false) (ag 3) (ag 1)) aD))))) (cW (ag 2))))
def xU:List W->List al->R W:=de 4 LZ
theorem Ot(F:iC K "_law_letter" "_law_letter" Hg f fd)(B:Bl mg) :c6 P w K mg base (hZ P w) 1 f fd LB (iD K mg 2 xU):=
 bS (k:=0) F zc rfl fun fA A outer s H E hr=>(ar (sS 2 zc aB) (ar (gX (k8 (aa 0)) (sG 3 zc) (aG (sS 2 zc (bD cH (bD js aB (aa 2)) (gg Ck B.int pG (ae (re (J_ hr) (aa 3) (aa 1)) ax)))))) (aG (bt (aa 2)))))
def L0:FS:=(aI (ba 2 (kg aD)) (aI (ba 3 (kg aD)) (aI (kZ (gy (ag 1)) (Fh 2 (fD (jD 4) (fD (jD 5) oF))) (aI (ba 6 (eI 0)) (aI (ba 7 (eI 0)) (aI (fO (eF (e2 Nq (ag 4) (eI 2))) (ba 7 (k7 mD (ag 2) aD)) bK) (aI (fO (eF (e2 iN (e2 i7 (ag 4) (eI 2)) (eI 1))) (ba 6 (k7 mD (ag 2) aD)) bK) (aI (c7 (k7 bU (ag 2) (ai (e2 bj (e2 bj (e2 bj (e2 bj (ag 0) (eI 2)) (cu 2 xU (ai (e2 bj (ag 0) (eI 0)) (ai (ag 5) aD)))) (ag 6)) (ag 7)) aD))) (c7 (k7 bU (ag 3) (ai (e2 bj (ag 2) (pY (eI 1))) aD))))))))) (cW (ag 3)))))
def xV:List W->List al->R W:=de 8 L0
theorem Ou(F:iC K "_law_run" "_law_run" Hh f fd) (Ja:bY P w K mg base 1 "_law_letter" 2 xU):c6 P w K mg base (hZ P w) 2 f fd LC (iD K mg 2 xV):=
 bS (k:=1) F mZ rfl fun fA A outer s H E hr=>(ar (sS 2 mZ (iM ax)) (ar (sS 3 mZ (iM ax)) (ar (gX (k8 (aa 1)) (l9 rfl (dJ (sG 4 mZ) (dJ (sG 5 mZ) jV))) (ar (sS 6 mZ aB) (ar (sS 7 mZ aB) (ar (cE (cq J7 (aa 4) aB) (aG (sS 7 mZ (qj PySem.F.slot_list_pop PySem.F.type_list_pop l_ (aa 2)))) bM) (ar (cE (cq (hW hr) (bD iA (aa 4) aB) aB) (aG (sS 6 mZ (qj PySem.F.slot_list_pop PySem.F.type_list_pop l_ (aa 2)))) bM) (ar (cI (lI PySem.F.slot_list_append PySem.F.type_list_append cZ (aa 2) (ae (bf (bf (bf (bf (aa 0) aB) (bR Ja hr #[0] (ae (bf (aa 0) aB) (ae (aa 5) ax)))) (aa 6)) (aa 7)) ax))) (aG (cI (lI PySem.F.slot_list_append PySem.F.type_list_append cZ (aa 3) (ae (bf (aa 2) (vq aB)) ax)))))))))) (aG (bt (aa 3))))))
def L1:FS:=(aI (ba 1 (kg aD)) (aI (kZ (gy (ag 0)) (Fh 2 (fD (jD 2) (fD (jD 3) oF))) (aI (ba 4 (eI 1)) (aI (fO (eF (gu (ag 2))) (ba 4 (e2 cQ (ag 4) (e2 bj (ag 1) (ag 2)))) bK) (aI (fO (eF (gu (ag 3))) (ba 4 (e2 cQ (ag 4) (e2 bj (ag 1) (ag 3)))) bK) (c7 (k7 bU (ag 1) (ai (ag 4) aD))))))) (cW (ag 1))))
def A6:List W->List al->R W:=de 5 L1
theorem Ov(F:iC K "_law_sizes" "_law_sizes" Hi f fd)  :c6 P w K mg base (hZ P w) 1 f fd LD (iD K mg 1 A6):=
 bS (k:=0) F qJ rfl fun fA A outer s H E hr=>(ar (sS 1 qJ (iM ax)) (ar (gX (k8 (aa 0)) (l9 rfl (dJ (sG 2 qJ) (dJ (sG 3 qJ) jV))) (ar (sS 4 qJ aB) (ar (cE (ii (aa 2)) (aG (sS 4 qJ (bD cH (aa 4) (bf (aa 1) (aa 2))))) bM) (ar (cE (ii (aa 3)) (aG (sS 4 qJ (bD cH (aa 4) (bf (aa 1) (aa 3))))) bM) (aG (cI (lI PySem.F.slot_list_append PySem.F.type_list_append cZ (aa 1) (ae (aa 4) ax)))))))) (aG (bt (aa 1)))))
def RL:FS:=(aI (ba 2 (cu 1 vY (ai (ag 0) aD))) (aI (ba 3 (cu 1 A6 (ai (ag 2) aD))) (aI (ba 4 (ag 1)) (aI (fO (eF (gu (e2 bj (e2 bj (ag 2) (ag 1)) (eI 1)))) (ba 4 (e2 kO (ag 1) (e2 bj (ag 3) (e2 bj (e2 bj (ag 2) (ag 1)) (eI 1))))) bK) (aI (ba 5 (ag 4)) (aI (fO (eF (gu (e2 bj (e2 bj (ag 2) (ag 1)) (eI 0)))) (ba 5 (e2 kO (ag 4) (e2 bj (ag 3) (e2 bj (e2 bj (ag 2) (ag 1)) (eI 0))))) bK) (cW (ga (ai (ag 5) (ai (ag 4) aD))))))))))
def vZ:List W->List al->R W:=de 6 RL
theorem Ox(F:iC K "_law_bounds" "_law_bounds" Hj f fd) (yh:bY P w K mg base 1 "_law_links" 1 vY)(IF:bY P w K mg base 1 "_law_sizes" 1 A6):c6 P w K mg base (hZ P w) 2 f fd LE (iD K mg 2 vZ):=
 bS (k:=1) F qK rfl fun fA A outer s H E hr=>(ar (sS 2 qK (bR yh hr #[0] (ae (aa 0) ax))) (ar (sS 3 qK (bR IF hr #[0] (ae (aa 2) ax))) (ar (sS 4 qK (aa 1)) (ar (cE (ii (bf (bf (aa 2) (aa 1)) aB)) (aG (sS 4 qK (bD jZ (aa 1) (bf (aa 3) (bf (bf (aa 2) (aa 1)) aB))))) bM) (ar (sS 5 qK (aa 4)) (ar (cE (ii (bf (bf (aa 2) (aa 1)) aB)) (aG (sS 5 qK (bD jZ (aa 4) (bf (aa 3) (bf (bf (aa 2) (aa 1)) aB))))) bM) (aG (bt (eR (ae (aa 5) (ae (aa 4) ax)))))))))))
def RM:FS:=(aI (uu (cu 2 vZ (ai (ag 0) (ai (ag 1) aD))) (Fh 2 (fD (jD 4) (fD (jD 5) oF)))) (aI (ba 6 (qX (ag 0) (eV (ag 4)) (eV (ag 5)))) (aI (ba 7 (qX (ag 0) (eV (ag 5)) (eV (ag 1)))) (aI (fO (eF (e2 iN (ag 2) (eC (.str [108,101,102,116])))) (ba 6 (ag 3)) (ba 7 (ag 3))) (aI (ba 8 (ga (ai (e2 cQ (bE xH (ai (e2 Ff (bE dI (ai (ag 6) aD)) (eI 0)) aD)) (e2 iB (eI 2) (bE xH (ai (e2 Ff (bE dI (ai (ag 7) aD)) (eI 0)) aD)))) (ai (e2 bj (e2 bj (ag 0) (ag 1)) (eI 1)) aD)))) (cW (e2 cQ (e2 cQ (e2 cQ (e2 cQ (qX (ag 0) gK (eV (ag 4))) (ag 6)) (ag 7)) (ga (ai (ag 8) aD))) (qX (ag 0) (eV (e2 cQ (ag 1) (eI 1))) gK))))))))
def A7:List W->List al->R W:=de 9 RM
theorem Oy(F:iC K "_law_branched" "_law_branched" Hk f fd)(B:Bl mg)(yl:bY P w K mg base 2 "_law_bounds" 2 vZ):c6 P w K mg base (hZ P w) 3 f fd LF (iD K mg 4 A7):=
 bS (k:=2) F oU rfl fun fA A outer s H E hr=>(ar (yI (bR yl hr #[0] (ae (aa 0) (ae (aa 1) ax))) (l9 rfl (dJ (sG 4 oU) (dJ (sG 5 oU) jV)))) (ar (sS 6 oU (kY (aa 0) (du (aa 4)) (du (aa 5)))) (ar (sS 7 oU (kY (aa 0) (du (aa 5)) (du (aa 1)))) (ar (cE (cq (hW hr) (aa 2) fC) (aG (sS 6 oU (aa 3))) (aG (sS 7 oU (aa 3)))) (ar (sS 8 oU (eR (ae (bD cH (gg Ck B.int pG (ae (re yH (bJ dO B.len bF (ae (aa 6) ax)) aB) ax)) (bD js aB (gg Ck B.int pG (ae (re yH (bJ dO B.len bF (ae (aa 7) ax)) aB) ax)))) (ae (bf (bf (aa 0) (aa 1)) aB) ax)))) (aG (bt (bD cH (bD cH (bD cH (bD cH (kY (aa 0) fg (du (aa 4))) (aa 6)) (aa 7)) (eR (ae (aa 8) ax))) (kY (aa 0) (du (bD cH (aa 1) aB)) fg)))))))))
def L3:FS:=(aI (ba 1 (cu 3 ld (ai (cu 2 nR (ai (ag 0) (ai (eI 0) aD))) (ai (eI 4) (ai (eI 100003) aD))))) (aI (ba 2 (cu 3 xS (ai (cu 2 nR (ai (ag 0) (ai (eI 1) aD))) (ai (eI 4) (ai (eI 200017) aD))))) (aI (ba 3 (e2 cQ (eI 1) (e2 i7 (e2 bj (ag 1) (eI 0)) (eI 4)))) (aI (ba 4 (Jg nF (eC (.str [])) (ai (bE kh (ai (qX (ag 2) gK (eV (e2 i7 (e2 bj (ag 1) (eI 1)) (eI 3)))) aD)) aD))) (aI (fO (eF (e2 iN (ag 3) (eI 4))) (ba 4 (qX (ag 4) gK (eV (eI 1)))) bK) (aI (ba 5 (e2 cQ (ag 3) (e2 iB (e2 iB (ag 3) (ag 3)) (e2 Aq (eI 1) (bE dI (ai (ag 4) aD)))))) (aI (ba 6 (cu 4 A5 (ai (ag 4) (ai (ag 3) (ai (ag 3) (ai (cu 3 ld (ai (cu 2 nR (ai (ag 0) (ai (eI 2) aD))) (ai (ag 5) (ai (eI 300007) aD)))) aD)))))) (aI (ba 7 (e2 i7 (e2 bj (ag 1) (eI 2)) (eI 8))) (aI (fO (eF (e2 iN (e2 i7 (e2 bj (ag 1) (eI 3)) (eI 4)) (eI 1))) (ba 7 (e2 i7 (e2 bj (ag 1) (eI 2)) (eI 41))) bK) (cW (ga (ai (ag 6) (ai (cu 2 vX (ai (cu 3 ld (ai (cu 2 nR (ai (ag 0) (ai (eI 3) aD))) (ai (ag 7) (ai (eI 400009) aD)))) (ai (ag 2) aD))) (ai (ag 2) aD))))))))))))))
def A8:List W->List al->R W:=de 8 L3
theorem Oz(F:iC K "_law_start" "_law_start" Hl f fd)(B:Bl mg)(sk:bY P w K mg base 1 "_law_cell" 2 nR)(pd:bY P w K mg base 2 "_law_draws" 3 ld)(IO:bY P w K mg base 1 "_law_machine" 4 A5)(IG:bY P w K mg base 3 "_law_pool" 3 xS)(yk:bY P w K mg base 2 "_law_tree" 2 vX):c6 P w K mg base (hZ P w) 4 f fd LG (iD K mg 1 A8):=
 bS (k:=3) F mf rfl fun fA A outer s H E hr=>(ar (sS 1 mf (bR pd hr #[0] (ae (bR sk hr #[0] (ae (aa 0) (ae aB ax))) (ae aB (ae aB ax))))) (ar (sS 2 mf (bR IG hr #[0] (ae (bR sk hr #[0] (ae (aa 0) (ae aB ax))) (ae aB (ae aB ax))))) (ar (sS 3 mf (bD cH aB (bD iA #[20] aB))) (ar (sS 4 mf (Ka PySem.F.slot_str_join PySem.F.type_str_join uQ fC (ae (bJ yO B.sorted pF (ae (kY (aa 2) fg (du (bD iA #[20] aB))) ax)) ax))) (ar (cE (cq (hW hr) (aa 3) aB) (aG (sS 4 mf (kY (aa 4) fg (du aB)))) bM) (ar (sS 5 mf (bD cH (aa 3) (bD js (bD js (aa 3) (aa 3)) (bD K9 aB (bJ dO B.len bF (ae (aa 4) ax)))))) (ar (sS 6 mf (bR IO hr #[0] (ae (aa 4) (ae (aa 3) (ae (aa 3) (ae (bR pd hr #[0] (ae (bR sk hr #[0] (ae (aa 0) (ae aB ax))) (ae (aa 5) (ae aB ax)))) ax)))))) (ar (sS 7 mf (bD iA #[20] aB)) (ar (cE (cq (hW hr) (bD iA #[20] aB) aB) (aG (sS 7 mf (bD iA #[20] aB))) bM) (aG (bt (eR (ae (aa 6) (ae (bR yk hr #[0] (ae (bR pd hr #[0] (ae (bR sk hr #[0] (ae (aa 0) (ae aB ax))) (ae (aa 7) (ae aB ax)))) (ae (aa 2) ax))) (ae (aa 2) ax)))))))))))))))
def L4:FS:=(aI (ba 5 (cu 3 ld (ai (cu 2 nR (ai (ag 0) (ai (e2 cQ (eI 4) (ag 1)) aD))) (ai (eI 12) (ai (e2 cQ (eI 500009) (e2 iB (eI 101) (ag 1))) aD))))) (aI (ba 6 (cu 2 vX (ai (qX (ag 5) (eV (eI 6)) (eV (e2 cQ (eI 6) (e2 i7 (e2 bj (ag 5) (eI 5)) (eI 6))))) (ai (ag 4) aD)))) (aI (ba 7 (e2 i7 (e2 bj (ag 5) (eI 0)) (ag 2))) (aI (fO (eF (e2 iN (ag 7) (eI 8))) (cW (ga (ai (eC (.str [98,97,99,107])) aD))) bK) (aI (fO (eF (e2 iN (ag 7) (eI 9))) (cW (ga (ai (eC (.str [97,103,97,105,110])) aD))) bK) (aI (fO (Jf (eF (e2 iN (ag 7) (eI 7))) (eF (e2 iN (bE dI (ai (ag 3) aD)) (eI 0)))) (cW (ga (ai (eC (.str [119,104,111,108,101])) (ai (ag 6) aD)))) bK) (aI (ba 8 (e2 i7 (e2 cQ (e2 iB (eI 64) (e2 bj (ag 5) (eI 1))) (e2 bj (ag 5) (eI 2))) (bE dI (ai (ag 3) aD)))) (aI (fO (eF (e2 Np (ag 7) (eI 4))) (cW (ga (ai (e2 bj (kg (ai (eC (.str [112,117,116])) (ai (eC (.str [116,97,107,101])) aD))) (e2 t0 (ag 7) (eI 2))) (ai (ag 8) (ai (e2 bj (ag 4) (e2 i7 (e2 bj (ag 5) (eI 3)) (eI 4))) aD))))) bK) (cW (ga (ai (eC (.str [98,114,97,110,99,104])) (ai (ag 8) (ai (e2 bj (kg (ai (eC (.str [108,101,102,116])) (ai (eC (.str [114,105,103,104,116])) aD))) (e2 i7 (e2 bj (ag 5) (eI 4)) (eI 2))) (ai (ag 6) aD))))))))))))))
def mJ:List W->List al->R W:=de 9 L4
theorem OA(F:iC K "_law_planned" "_law_planned" Hm f fd)(B:Bl mg)(sk:bY P w K mg base 1 "_law_cell" 2 nR)(pd:bY P w K mg base 2 "_law_draws" 3 ld)(yk:bY P w K mg base 2 "_law_tree" 2 vX):c6 P w K mg base (hZ P w) 3 f fd LH (iD K mg 5 mJ):=
 bS (k:=2) F vP rfl fun fA A outer s H E hr=>(ar (sS 5 vP (bR pd hr #[0] (ae (bR sk hr #[0] (ae (aa 0) (ae (bD cH aB (aa 1)) ax))) (ae aB (ae (bD cH aB (bD js aB (aa 1))) ax))))) (ar (sS 6 vP (bR yk hr #[0] (ae (kY (aa 5) (du aB) (du (bD cH aB (bD iA (bf (aa 5) aB) aB)))) (ae (aa 4) ax)))) (ar (sS 7 vP (bD iA (bf (aa 5) aB) (aa 2))) (ar (cE (cq (hW hr) (aa 7) aB) (aG (bt (eR (ae fC ax)))) bM) (ar (cE (cq (hW hr) (aa 7) aB) (aG (bt (eR (ae fC ax)))) bM) (ar (cE (J3 (Dr (cq (hW hr) (aa 7) aB) (yF (cq (hW hr) (bJ dO B.len bF (ae (aa 3) ax)) aB)))) (aG (bt (eR (ae fC (ae (aa 6) ax))))) bM) (ar (sS 8 vP (bD iA (bD cH (bD js aB (bf (aa 5) aB)) (bf (aa 5) aB)) (bJ dO B.len bF (ae (aa 3) ax)))) (ar (cE (cq w_lt (aa 7) aB) (aG (bt (eR (ae (bf (iM (ae fC (ae fC ax))) (bD sR (aa 7) aB)) (ae (aa 8) (ae (bf (aa 4) (bD iA (bf (aa 5) aB) aB)) ax)))))) bM) (aG (bt (eR (ae fC (ae (aa 8) (ae (bf (iM (ae fC (ae fC ax))) (bD iA (bf (aa 5) aB) aB)) (ae (aa 6) ax)))))))))))))))
def RN:FS:=(aI (fO (eF (e2 iN (e2 bj (ag 1) (eI 0)) (eC (.str [119,104,111,108,101])))) (cW (e2 bj (ag 1) (eI 1))) bK) (aI (fO (eF (e2 iN (e2 bj (ag 1) (eI 0)) (eC (.str [98,114,97,110,99,104])))) (cW (cu 4 A7 (ai (ag 0) (ai (e2 bj (ag 1) (eI 1)) (ai (e2 bj (ag 1) (eI 2)) (ai (e2 bj (ag 1) (eI 3)) aD)))))) bK) (aI (uu (e2 bj (ag 0) (e2 bj (ag 1) (eI 1))) (Fh 2 (fD (jD 2) (fD (jD 3) oF)))) (aI (uu (j3 [none,some 1] (gy (ag 3)) (jD 0) (eF (e2 J9 (ag 0) (e2 bj (ag 1) (eI 2)))) (ag 0)) (jD 3)) (aI (fO (eF (e2 iN (e2 bj (ag 1) (eI 0)) (eC (.str [112,117,116])))) (c7 (k7 bU (ag 3) (ai (e2 bj (ag 1) (eI 2)) aD))) bK) (cW (e2 cQ (e2 cQ (qX (ag 0) gK (eV (e2 bj (ag 1) (eI 1)))) (ga (ai (ga (ai (ag 2) (ai (Jg nF (eC (.str [])) (ai (bE kh (ai (ag 3) aD)) aD)) aD))) aD))) (qX (ag 0) (eV (e2 cQ (e2 bj (ag 1) (eI 1)) (eI 1))) gK))))))))
def oX:List W->List al->R W:=de 4 RN
theorem OB(F:iC K "_law_changed" "_law_changed" Ho f fd)(B:Bl mg)(IQ:bY P w K mg base 3 "_law_branched" 4 A7):c6 P w K mg base (hZ P w) 4 f fd LI (iD K mg 2 oX):=
 bS (k:=3) F zf rfl fun fA A outer s H E hr=>(ar (cE (cq (hW hr) #[20] fC) (aG (bt #[20])) bM) (ar (cE (cq (hW hr) #[20] fC) (aG (bt (bR IQ hr #[0] (ae (aa 0) (ae #[20] (ae #[20] (ae #[20] ax))))))) bM) (ar (yI (bf (aa 0) #[20]) (l9 rfl (dJ (sG 2 zf) (dJ (sG 3 zf) jV)))) (ar (qB (sG 3 zf) (nm:=["_law_letter_here","_law_deed"]) (cap:=[none,some 1]) (by first|rfl|kernel_rfl) rfl (k8 (aa 3)) (fun _ _ _ _ _=>(sC 0)) (fun _ _ _ _ _=>(Dy (cq (Nr hr) (aa 0) #[20]))) (fun _ _ _ _ _=>(aa 0))) (ar (cE (cq (hW hr) #[20] fC) (aG (cI (lI PySem.F.slot_list_append PySem.F.type_list_append cZ (aa 3) (ae #[20] ax)))) bM) (aG (bt (bD cH (bD cH (kY (aa 0) fg (du #[20])) (eR (ae (eR (ae (aa 2) (ae (Ka PySem.F.slot_str_join PySem.F.type_str_join uQ fC (ae (bJ yO B.sorted pF (ae (aa 3) ax)) ax)) ax))) ax))) (kY (aa 0) (du (bD cH #[20] aB)) fg)))))))))
def RO:FS:=(aI (fO (eF (e2 iN (e2 bj (ag 1) (eI 0)) (eC (.str [112,117,116])))) (cW (iP "Kept" "put" 3 jO (ag 0) (ai (e2 bj (ag 1) (eI 1)) (ai (e2 bj (ag 1) (eI 2)) aD)))) bK) (aI (fO (eF (e2 iN (e2 bj (ag 1) (eI 0)) (eC (.str [116,97,107,101])))) (cW (iP "Kept" "take" 3 jd (ag 0) (ai (e2 bj (ag 1) (eI 1)) (ai (e2 bj (ag 1) (eI 2)) aD)))) bK) (aI (fO (eF (e2 iN (e2 bj (ag 1) (eI 0)) (eC (.str [98,114,97,110,99,104])))) (cW (iP "Kept" "branch" 4 gU (ag 0) (ai (e2 bj (ag 1) (eI 1)) (ai (e2 bj (ag 1) (eI 2)) (ai (e2 bj (ag 1) (eI 3)) aD))))) bK) (aI (fO (eF (e2 iN (e2 bj (ag 1) (eI 0)) (eC (.str [119,104,111,108,101])))) (cW (iP "Kept" "whole" 2 il (ag 0) (ai (e2 bj (ag 1) (eI 1)) aD))) bK) (aI (fO (eF (e2 iN (e2 bj (ag 1) (eI 0)) (eC (.str [98,97,99,107])))) (cW (iP "Kept" "back" 1 je (ag 0) aD)) bK) (cW (iP "Kept" "again" 1 im (ag 0) aD)))))))
def lV:List W->List al->R W:=de 2 RO
theorem OC(F:iC K "_law_doing" "_law_doing" Hq f fd) (nj:iF P w K mg base 8 "Kept" "again" 1 im)(pw:iF P w K mg base 8 "Kept" "back" 1 je)(mj:iF P w K mg base 9 "Kept" "branch" 4 gU)(qM:iF P w K mg base 10 "Kept" "put" 3 jO)(ph:iF P w K mg base 10 "Kept" "take" 3 jd)(ni:iF P w K mg base 9 "Kept" "whole" 2 il):c6 P w K mg base (hZ P w) 11 f fd LJ (iD K mg 2 lV):=
 bS (k:=10) F N5 rfl fun fA A outer s H E hr=>(ar (cE (cq (hW hr) #[20] fC) (aG (bt (kj qM hr #[0] (aa 0) (ae #[20] (ae #[20] ax))))) bM) (ar (cE (cq (hW hr) #[20] fC) (aG (bt (kj ph hr #[0] (aa 0) (ae #[20] (ae #[20] ax))))) bM) (ar (cE (cq (hW hr) #[20] fC) (aG (bt (kj mj hr #[0] (aa 0) (ae #[20] (ae #[20] (ae #[20] ax)))))) bM) (ar (cE (cq (hW hr) #[20] fC) (aG (bt (kj ni hr #[0] (aa 0) (ae #[20] ax)))) bM) (ar (cE (cq (hW hr) #[20] fC) (aG (bt (rF pw hr #[0] (aa 0)))) bM) (aG (bt (rF nj hr #[0] (aa 0)))))))))
def L5:FS:=(aI (ba 1 Le) (aI (ba 2 (cu 1 vY (ai (ag 0) aD))) (aI (kZ (dP (ai (bE dI (ai (ag 2) aD)) aD)) (jD 3) (kZ (gy (ga (ai (eI 0) (ai (eI 1) aD)))) (jD 4) (fO (eF (gu (e2 bj (e2 bj (ag 2) (ag 3)) (ag 4)))) (wO (ag 1) (e2 bj (e2 bj (ag 2) (ag 3)) (ag 4)) (ag 3) xI) bK))) (cW (ag 1)))))
def xW:List W->List al->R W:=de 5 L5
theorem OD(F:iC K "_law_over" "_law_over" Hr f fd)(B:Bl mg)(yh:bY P w K mg base 1 "_law_links" 1 vY):c6 P w K mg base (hZ P w) 2 f fd LK (iD K mg 1 xW):=
 bS (k:=1) F vR rfl fun fA A outer s H E hr=>(ar (sS 1 vR NF) (ar (sS 2 vR (bR yh hr #[0] (ae (aa 0) ax))) (ar (gX (gT B.range (ae (bJ dO B.len bF (ae (aa 2) ax)) ax)) (sG 3 vR) (aG (gX (k8 (eR (ae aB (ae aB ax)))) (sG 4 vR) (aG (cE (ii (bf (bf (aa 2) (aa 3)) (aa 4))) (aG (yJ (NE hr) (aa 3) (aa 1) (bf (bf (aa 2) (aa 3)) (aa 4)))) bM))))) (aG (bt (aa 1))))))
def RP:FS:=(aI (ba 5 (cu 2 xV (ai (ag 0) (ai (ag 1) aD)))) (aI (ba 6 (cu 2 xV (ai (ag 0) (ai (ag 3) aD)))) (aI (ba 7 (cu 1 xW (ai (ag 1) aD))) (aI (ba 8 (cu 1 xW (ai (ag 3) aD))) (aI (ba 9 (eI 0)) (aI (mU (eF (gu (ag 2))) (aI (ba 9 (e2 cQ (ag 9) (eI 1))) (aI (fO (eF (e2 iN (e2 bj (ag 5) (ag 2)) (e2 bj (ag 6) (ag 4)))) (cW (ag 9)) bK) (aI (ba 2 (qE (ag 7) (ag 2))) (ba 4 (qE (ag 8) (ag 4))))))) (cW (ag 9))))))))
def xX:List W->List al->R W:=de 10 RP
theorem OE(F:iC K "_law_climbed" "_law_climbed" Hs f fd) (D4:bY P w K mg base 2 "_law_over" 1 xW)(D1:bY P w K mg base 2 "_law_run" 2 xV):c6 P w K mg base (hZ P w) 3 f fd LM (iD K mg 5 xX):=
 bS (k:=2) F m5 rfl fun fA A outer s H E hr=>(ar (sS 5 m5 (bR D1 hr #[0] (ae (aa 0) (ae (aa 1) ax)))) (ar (sS 6 m5 (bR D1 hr #[0] (ae (aa 0) (ae (aa 3) ax)))) (ar (sS 7 m5 (bR D4 hr #[0] (ae (aa 1) ax))) (ar (sS 8 m5 (bR D4 hr #[0] (ae (aa 3) ax))) (ar (sS 9 m5 aB) (ar (vm (ii (aa 2)) (ar (sS 9 m5 (bD cH (aa 9) aB)) (ar (cE (cq (hW hr) (bf (aa 5) (aa 2)) (bf (aa 6) (aa 4))) (aG (bt (aa 9))) bM) (ar (sS 2 m5 (DE hr (aa 7) (aa 2))) (aG (sS 4 m5 (DE hr (aa 8) (aa 4)))))))) (aG (bt (aa 9)))))))))
def RQ:FS:=(aI (fO (eF (e2 iN (e2 bj (ag 3) (eI 0)) (eC (.str [119,104,111,108,101])))) (cW (ga (ai (ag 1) (ai (ag 2) (ai (bE dI (ai (ag 2) aD)) (ai (bE dI (ai (ag 1) aD)) aD)))))) bK) (aI (ba 4 (e2 bj (ag 3) (eI 1))) (aI (fO (eF (e2 J9 (e2 bj (ag 3) (eI 0)) (eC (.str [98,114,97,110,99,104])))) (aI (ba 5 (cu 5 xX (ai (ag 0) (ai (ag 1) (ai (ag 4) (ai (ag 2) (ai (ag 4) aD))))))) (cW (ga (ai (ag 1) (ai (ag 2) (ai (ag 5) (ai (ag 5) aD))))))) bK) (aI (uu (cu 2 vZ (ai (ag 1) (ai (ag 4) aD))) (Fh 2 (fD (jD 6) (fD (jD 7) oF)))) (aI (ba 8 (e2 kO (ag 7) (ag 6))) (aI (fO (eF (e2 iN (e2 bj (ag 3) (eI 2)) (eC (.str [114,105,103,104,116])))) (ba 8 (e2 kO (ag 4) (ag 7))) bK) (aI (ba 9 (bE dI (ai (e2 bj (ag 3) (eI 3)) aD))) (aI (ba 5 (cu 5 xX (ai (ag 0) (ai (ag 1) (ai (ag 4) (ai (ag 2) (ai (e2 kO (e2 cQ (ag 4) (ag 9)) (ag 8)) aD))))))) (cW (ga (ai (ag 1) (ai (ag 2) (ai (e2 cQ (ag 5) (ag 9)) (ai (e2 cQ (ag 5) (ag 8)) aD))))))))))))))
def rX:List W->List al->R W:=de 10 RQ
theorem OF(F:iC K "_law_deed_row" "_law_deed_row" Ht f fd)(B:Bl mg)(yl:bY P w K mg base 2 "_law_bounds" 2 vZ)(D3:bY P w K mg base 3 "_law_climbed" 5 xX):c6 P w K mg base (hZ P w) 4 f fd LN (iD K mg 4 rX):=
 bS (k:=3) F m6 rfl fun fA A outer s H E hr=>(ar (cE (cq (hW hr) (bf (aa 3) aB) fC) (aG (bt (eR (ae (aa 1) (ae (aa 2) (ae (bJ dO B.len bF (ae (aa 2) ax)) (ae (bJ dO B.len bF (ae (aa 1) ax)) ax))))))) bM) (ar (sS 4 m6 (bf (aa 3) aB)) (ar (cE (cq (Nr hr) (bf (aa 3) aB) fC) (ar (sS 5 m6 (bR D3 hr #[0] (ae (aa 0) (ae (aa 1) (ae (aa 4) (ae (aa 2) (ae (aa 4) ax))))))) (aG (bt (eR (ae (aa 1) (ae (aa 2) (ae (aa 5) (ae (aa 5) ax)))))))) bM) (ar (yI (bR yl hr #[0] (ae (aa 1) (ae (aa 4) ax))) (l9 rfl (dJ (sG 6 m6) (dJ (sG 7 m6) jV)))) (ar (sS 8 m6 (bD jZ (aa 7) (aa 6))) (ar (cE (cq (hW hr) (bf (aa 3) aB) fC) (aG (sS 8 m6 (bD jZ (aa 4) (aa 7)))) bM) (ar (sS 9 m6 (bJ dO B.len bF (ae (bf (aa 3) aB) ax))) (ar (sS 5 m6 (bR D3 hr #[0] (ae (aa 0) (ae (aa 1) (ae (aa 4) (ae (aa 2) (ae (bD jZ (bD cH (aa 4) (aa 9)) (aa 8)) ax))))))) (aG (bt (eR (ae (aa 1) (ae (aa 2) (ae (bD cH (aa 5) (aa 9)) (ae (bD cH (aa 5) (aa 8)) ax)))))))))))))))
def RR:FS:=(aI (fO (Jf (Fe (eF (cu 2 (lU 40) (ai (iP "Kept" "reckoned" 1 fR (ag 0) aD) (ai (ag 2) aD))))) (Fe (eF (cu 2 (lU 40) (ai (iP "Kept" "tree_now" 1 gN (ag 0) aD) (ai (ag 1) aD)))))) (cW (eC (.bl false))) bK) (cW (cu 2 (lU 40) (ai (iP "Kept" "reckoned" 1 fR (ag 0) aD) (ai (ag 2) aD)))))
def uh:List W->List al->R W:=de 3 RR
theorem OG(F:iC K "_law_counted" "_law_counted" Hu f fd) (iT:iF P w K mg base 1 "Kept" "reckoned" 1 fR)(ky:iF P w K mg base 1 "Kept" "tree_now" 1 gN)(wE:bY P w K mg base 40 "_law_same" 2 (lU 40)):c6 P w K mg base (hZ P w) 41 f fd LO (iD K mg 3 uh):=
 bS (k:=40) F N6 rfl fun fA A outer s H E hr=>(ar (cE (J3 (Dr (sP (ke (bR wE hr #[0] (ae (rF iT hr #[0] (aa 0)) (ae (aa 2) ax))))) (yF (sP (ke (bR wE hr #[0] (ae (rF ky hr #[0] (aa 0)) (ae (aa 1) ax)))))))) (aG (bt Ca)) bM) (aG (bt (bR wE hr #[0] (ae (rF iT hr #[0] (aa 0)) (ae (aa 2) ax))))))
def L6:FS:=(aI (uu (cu 1 A8 (ai (ag 0) aD)) (Fh 3 (fD (jD 1) (fD (jD 2) (fD (jD 3) oF))))) (aI (ba 4 (DF "Kept" 3 gM (ai (ag 1) (ai (ag 2) aD)))) (aI (fO (Fe (eF (cu 3 uh (ai (ag 4) (ai (ag 2) (ai (bE dI (ai (ag 2) aD)) aD)))))) (cW (eC (.bl false))) bK) (aI (ba 5 (kg aD)) (aI (ba 6 (kg aD)) (aI (kZ (dP (ai (bE EH (ai (eI 59) (ai (bE Cd (ai (eI 3) (ai (e2 kO (bE dI (ai (ag 0) aD)) (eI 4)) aD))) aD))) aD)) (jD 7) (aI (ba 8 (cu 5 mJ (ai (ag 0) (ai (ag 7) (ai (eI 10) (ai (ag 2) (ai (ag 3) aD))))))) (aI (fO (eF (e2 iN (e2 bj (ag 8) (eI 0)) (eC (.str [98,97,99,107])))) (aI (fO (eF (e2 iN (bE dI (ai (ag 5) aD)) (eI 0))) vk bK) (aI (c7 (k7 bU (ag 6) (ai (k7 mD (ag 5) aD) aD))) (aI (ba 2 (e2 bj (e2 bj (ag 6) (pY (eI 1))) (eI 0))) (ba 9 (e2 bj (e2 bj (ag 6) (pY (eI 1))) (eI 3)))))) (fO (eF (e2 iN (e2 bj (ag 8) (eI 0)) (eC (.str [97,103,97,105,110])))) (aI (fO (eF (e2 iN (bE dI (ai (ag 6) aD)) (eI 0))) vk bK) (aI (c7 (k7 bU (ag 5) (ai (k7 mD (ag 6) aD) aD))) (aI (ba 2 (e2 bj (e2 bj (ag 5) (pY (eI 1))) (eI 1))) (ba 9 (e2 bj (e2 bj (ag 5) (pY (eI 1))) (eI 2)))))) (aI (ba 10 (cu 2 oX (ai (ag 2) (ai (ag 8) aD)))) (aI (fO (eF (e2 Ff (bE dI (ai (ag 10) aD)) (eI 100))) vk bK) (aI (c7 (k7 bU (ag 5) (ai (cu 4 rX (ai (ag 1) (ai (ag 2) (ai (ag 10) (ai (ag 8) aD))))) aD))) (aI (ba 6 (kg aD)) (aI (ba 2 (ag 10)) (ba 9 (e2 bj (e2 bj (ag 5) (pY (eI 1))) (eI 2)))))))))) (aI (c7 (cu 2 lV (ai (ag 4) (ai (ag 8) aD)))) (fO (Fe (eF (cu 3 uh (ai (ag 4) (ai (ag 2) (ai (ag 9) aD)))))) (cW (eC (.bl false))) bK))))) (cW (eC (.bl true)))))))))
def f_q45:List W->List al->R W:=de 11 L6
theorem OH(F:iC K "law" "law" rP f fd)(B:Bl mg)(kz:Kp P w K mg base 4 "Kept" 3 gM)(II:bY P w K mg base 4 "_law_changed" 2 oX)(D2:bY P w K mg base 41 "_law_counted" 3 uh)(IE:bY P w K mg base 4 "_law_deed_row" 4 rX)(IZ:bY P w K mg base 11 "_law_doing" 2 lV)(IW:bY P w K mg base 3 "_law_planned" 5 mJ)(IM:bY P w K mg base 4 "_law_start" 1 A8):c6 P w K mg base (hZ P w) 42 f fd Hv (iD K mg 1 f_q45):=
 bS (k:=41) F h_ rfl fun fA A outer s H E hr=>(ar (yI (bR IM hr #[0] (ae (aa 0) ax)) (l9 rfl (dJ (sG 1 h_) (dJ (sG 2 h_) (dJ (sG 3 h_) jV))))) (ar (sS 4 h_ (NH kz hr #[0] (ae (aa 1) (ae (aa 2) ax)))) (ar (cE (sP (ke (bR D2 hr #[0] (ae (aa 4) (ae (aa 2) (ae (bJ dO B.len bF (ae (aa 2) ax)) ax)))))) (aG (bt Ca)) bM) (ar (sS 5 h_ (iM ax)) (ar (sS 6 h_ (iM ax)) (ar (gX (gT B.range (ae (bJ QR B.min boot_min (ae aB (ae (bJ QQ B.max boot_max (ae aB (ae (bD jZ (bJ dO B.len bF (ae (aa 0) ax)) aB) ax))) ax))) ax)) (sG 7 h_) (ar (sS 8 h_ (bR IW hr #[0] (ae (aa 0) (ae (aa 7) (ae aB (ae (aa 2) (ae (aa 3) ax))))))) (ar (cE (cq (hW hr) (bf (aa 8) aB) fC) (ar (cE (cq (hW hr) (bJ dO B.len bF (ae (aa 5) ax)) aB) (aG oE) bM) (ar (cI (lI PySem.F.slot_list_append PySem.F.type_list_append cZ (aa 6) (ae (qj PySem.F.slot_list_pop PySem.F.type_list_pop l_ (aa 5)) ax))) (ar (sS 2 h_ (bf (bf (aa 6) (vq aB)) aB)) (aG (sS 9 h_ (bf (bf (aa 6) (vq aB)) aB)))))) (aG (cE (cq (hW hr) (bf (aa 8) aB) fC) (ar (cE (cq (hW hr) (bJ dO B.len bF (ae (aa 6) ax)) aB) (aG oE) bM) (ar (cI (lI PySem.F.slot_list_append PySem.F.type_list_append cZ (aa 5) (ae (qj PySem.F.slot_list_pop PySem.F.type_list_pop l_ (aa 6)) ax))) (ar (sS 2 h_ (bf (bf (aa 5) (vq aB)) aB)) (aG (sS 9 h_ (bf (bf (aa 5) (vq aB)) aB)))))) (ar (sS 10 h_ (bR II hr #[0] (ae (aa 2) (ae (aa 8) ax)))) (ar (cE (cq yH (bJ dO B.len bF (ae (aa 10) ax)) aB) (aG oE) bM) (ar (cI (lI PySem.F.slot_list_append PySem.F.type_list_append cZ (aa 5) (ae (bR IE hr #[0] (ae (aa 1) (ae (aa 2) (ae (aa 10) (ae (aa 8) ax))))) ax))) (ar (sS 6 h_ (iM ax)) (ar (sS 2 h_ (aa 10)) (aG (sS 9 h_ (bf (bf (aa 5) (vq aB)) aB))))))))))) (ar (cI (bR IZ hr #[0] (ae (aa 4) (ae (aa 8) ax)))) (aG (cE (sP (ke (bR D2 hr #[0] (ae (aa 4) (ae (aa 2) (ae (aa 9) ax)))))) (aG (bt Ca)) bM)))))) (aG (bt Ca))))))))
end
noncomputable abbrev lO(n:Nat):Option W:=some (.loc n)
noncomputable abbrev iO(q:Int):Option W:=some (.int q)
theorem OI(ns:List α)(hl:0<ns.length)(k:Int):∃c∈ns,sK ns (k%((ns.length:Nat):Int))=some c:=by
 have h0:0<=k%((ns.length:Nat):Int):=iY _ #[0]
 have h1:k%((ns.length:Nat):Int)<ns.length:=lG _ #[0]
 obtain⟨m,hm⟩:=Int.eq_ofNat_of_zero_le h0
 rw[hm]at h1 ⊢
 have h2:m<ns.length:=by omega
 exact⟨ns[m],eQ _,gk (by simp[h2])⟩
theorem rY(h:st[n]?=some (.ro (ns.map W.int)))(k:Int):∃c,nR [.loc n,.int k] st=.ok (.int c) st:=by
 by_cases hn:ns=[]
 ·subst hn
  refine⟨0,?_⟩
  apply pN;apply md;apply cN
  ·(repeat' (first|with_reducible exact k_ (rG h)|walk_at "ev1"))
  ·(walk_at "evs")
 ·have hl:0<ns.length:=List.length_pos_iff.mpr hn
  obtain⟨c,hc,e⟩:=OI (ns.map W.int) (by simpa using hl) k
  obtain⟨c,_,rfl⟩:=c9.mp hc
  refine⟨c,?_⟩
  apply pN;apply bN
  ·apply cG
   ·(repeat' (first|with_reducible exact k_ (rG h)|walk_at "ev1"))
    rw[bz,aF];omega
   ·(walk_at "evs")
  ·(repeat' (first|with_reducible exact k_ (rG h)|with_reducible exact j6 (rG h) e|walk_at "ev1"))
   rw[aF];omega
theorem HC(c k s:Int)(hk:-(2^64)<k/\k<2^64)(st:List al):∃r,0<=r/\xR [.int c,.int k,.int s] st=.ok (.int r) st:=by
 have big:∀q:Int,0<=q%2147483647/\q%2147483647<2147483647:=fun q=>⟨iY _ #[12],lG _ #[12]⟩
 refine⟨(((c+7*k*k+13*k+s)*69621%2147483647*((c+7*k*k+13*k+s)*69621%2147483647/1009+3)+31*k+s)%2147483629*48271)%1000000007,iY _ #[12],?_⟩
 apply pN;apply bN
 ·(walk_at "evs")<;>first|exact .inl #[12]|exact .inr #[12]|exact .inr hk
 ·(walk_at "evs")<;>first|exact .inl #[12]|exact .inr #[12]|exact .inl (by have:=big ((c+7*k*k+13*k+s)*69621);omega)
theorem oY(c s:Int)(m:Nat)(hm:m<=1000)(st:List al):∃ds:List Int,ds.length=m/\(∀d∈ds,0<=d)/\ld [.int c,.int m,.int s] st=.ok #[5] (st++[.lst (ds.map W.int)]):=by
 suffices hh:kI (zO fun w bn=>∃j x,w=.loc (st.length+j)/\bn=st++x/\j=0/\∃ds:List Int,x=[.lst (ds.map W.int)]/\ds.length=m/\∀d∈ds,0<=d) (LT ([W.int c,.int m,.int s].map some++List.replicate (6-3) none) st) by
  obtain⟨j,x,⟨rfl,ds,rfl,h1,h2⟩,e⟩:=rJ hh
  exact⟨ds,h1,h2,e⟩
 apply aA
 ·(walk_at "evs")
 apply aA
 ·(walk_at "evs")
 have main:∀r0:Int,kI (zO fun w bn=>∃j x,w=.loc (st.length+j)/\bn=st++x/\j=0/\∃ds:List Int,x=[.lst (ds.map W.int)]/\ds.length=m/\∀d∈ds,0<=d)
   (aI (kZ (dP (ai (ag 1) aD)) (jD 5) (fO (eF (e2 Ff (ag 4) (eI 0))) (aI (c7 (k7 bU (ag 3) (ai (e2 i7 (ag 4) (eI 64)) aD))) (ba 4 (e2 t0 (ag 4) (eI 64)))) (c7 (k7 bU (ag 3) (ai (cu 3 xR (ai (ag 0) (ai (ag 5) (ai (ag 2) aD)))) aD))))) (cW (ag 3))
   [some (.int c),some (.int m),some (.int s),some #[5],some (.int r0),none] (st++[.lst []])):=by
  intro r0
  refine gb (fun i ρ bn=>∃(r:Int) (o:Option W) (ds:List Int),ρ=[some (.int c),some (.int m),some (.int s),some #[5],some (.int r),o]/\bn=st++[.lst (ds.map W.int)]/\ds.length=i/\∀d∈ds,0<=d) (jw (by(walk_at "evs");rfl) #[0])
   ⟨r0,none,[],rfl,rfl,rfl,by simp⟩ (fun _ _ _ _=>trivial) ?_ ?_
  ·rintro i w ρ bn hw ⟨r,o,ds,rfl,rfl,hd,h⟩
   obtain⟨hi,rfl⟩:=jK hw
   refine⟨_,rfl,?_⟩
   have hG:(st++[al.lst (ds.map W.int)])[st.length]?=some (.lst (ds.map W.int)):=by rw[dC];rfl
   have hsh:(ds.map W.int).length<my:=by rw[aF,hd];show i<1000000;omega
   by_cases hr:0<r
   ·apply ud
    ·(walk_at "evs");simpa using hr
    apply aA
    ·(repeat' (first|with_reducible exact dv hG|with_reducible exact nJ hG hsh|walk_at "ev1"))
    rw[fx]
    apply dw
    ·(walk_at "evs")
    ·refine⟨_,_,rfl,r/64,_,ds++[r%64],rfl,by simp,by simp[hd],fun d hd'=>?_⟩
     rcases aX.mp hd' with hd'|hd'
     ·exact h d hd'
     ·rw[a9.mp hd'];exact iY _ #[12]
   ·obtain⟨q,hq,e⟩:=HC c (0+i) s #[0] (st++[al.lst (ds.map W.int)])
    apply oK
    ·(walk_at "evs");simpa using hr
    apply dw
    ·(repeat' (first|with_reducible exact dv hG|with_reducible exact nJ hG hsh|with_reducible exact e|walk_at "ev1"))
    ·refine⟨_,_,rfl,r,_,ds++[q],rfl,by rw[fx];simp,by simp[hd],fun d hd'=>?_⟩
     rcases aX.mp hd' with hd'|hd'
     ·exact h d hd'
     ·rw[a9.mp hd'];exact hq
  ·rintro ρ bn ⟨r,o,ds,rfl,rfl,hd,h⟩
   apply bQ
   ·(walk_at "evs")
   ·exact⟨_,_,rfl,0,_,rfl,rfl,rfl,ds,rfl,by rw[hd];simpa using fE 0 m,h⟩
 by_cases hc:(10:Int)^18<=c
 ·apply aA
  ·apply cN
   ·(walk_at "evs")<;>simpa using hc
   ·(walk_at "evs")
  ·exact main c
 ·apply aA
  ·apply cG
   ·(walk_at "evs")<;>simpa using hc
   ·(walk_at "evs")
  ·exact main 0
noncomputable abbrev LL:List Nat:=[65,66,67,68,69,70,71,72,73,74,75,76,77,78,79,80,81,82,83,84,85,86,87,88,89,90,97,98,99,100,101,102,103,104,105,106,107,108,109,110,111,112,113,114,115,116,117,118,119,120,121,122]
theorem Ku(c s:Int)(m:Nat)(hm:m<=52)(st:List al):∃l:List Nat,l.length=m/\l.Nodup/\(∀d∈l,d∈LL)/\xS [.int c,.int m,.int s] st=.ok (.str l) st:=by
 suffices hh:kI (zO fun w bn=>(∃x,bn=st++x)/\undWs st.length [w]=true/\∃l:List Nat,w=.str l/\l.length=m/\l.Nodup/\∀d∈l,d∈LL) (LU ([W.int c,.int m,.int s].map some++List.replicate (7-3) none) st) by
  obtain⟨w,⟨l,rfl,h1,h2,h3⟩,e⟩:=rH hh
  exact⟨l,h1,h2,h3,e⟩
 obtain⟨ds,h1,h2,e⟩:=oY c s m #[0] st
 apply aA
 ·(walk_at "evs")
 apply aA
 ·(walk_at "evs")
 have hG:lstOf (st++[al.lst (ds.map W.int)]) st.length=some (ds.map W.int):=b6 (by rw[dC];rfl)
 refine gb (fun i ρ bn=>∃(r f:List Nat) (o o2:Option W),ρ=[iO c,iO m,iO s,some (.str r),some (.str f),o,o2]/\bn=st++[.lst (ds.map W.int)]/\f.length=i/\r.length+i=52/\(f++r).Perm LL) (yU (by(repeat' (first|with_reducible exact e|walk_at "ev1"))) hG)
  ⟨LL,[],none,none,rfl,rfl,rfl,rfl,.refl _⟩ (fun i ρ bn h=>?_) ?_ ?_
 ·obtain⟨r,f,o,o2,rfl,rfl,_⟩:=h
  exact hG
 ·rintro i w ρ bn hw ⟨r,f,o,o2,rfl,rfl,hf,hr,hfl⟩
  obtain⟨d,hd,rfl⟩:∃d,ds[i]?=some d/\w=.int d:=by
   simp only[aJ,fm]at hw
   obtain⟨d,h1,rfl⟩:=hw
   exact⟨d,h1,rfl⟩
  have hi:i<m:=by rw[<- h1];exact(au.mp hd).1
  obtain⟨q,hq,eq⟩:=iR (q:=d) (n:=r.length) #[0]
  have hL:r.length<=my:=by show _<=1000000;omega
  have hLf:f.length<=my:=by show _<=1000000;omega
  have hat:sK r (d%(r.length:Int))=some r[q]:=by rw[eq];exact gk (by simp[hq])
  refine⟨_,rfl,?_⟩
  apply aA
  ·(repeat' (first|with_reducible exact yT hL|walk_at "ev1"))
   show 0<(r.length:Int);omega
  apply aA
  ·have ha:f.length+[r[q]].length<=my:=by show _+1<=1000000;omega
   (repeat' (first|with_reducible exact GI hL hat|with_reducible exact Cm ha|walk_at "ev1"))
  apply dw
  ·(repeat' (first|with_reducible exact GJ hL|walk_at "ev1"))
   rw[eq,mV #[0],show((q:Int)+1)=((q+1:Nat):Int)from rfl,rK #[0],aM,cx]
   show _<=1000000;omega
  ·refine⟨_,_,rfl,_,_,_,_,rfl,rfl,by simp[hf],?_,?_⟩
   ·rw[eq,mV #[0],show((q:Int)+1)=((q+1:Nat):Int)from rfl,rK #[0],ah,aM,cx]
    omega
   ·rw[eq,mV #[0],show((q:Int)+1)=((q+1:Nat):Int)from rfl,rK #[0]]
    refine List.Perm.trans ?_ hfl
    rw[ak]
    refine og f ?_
    have e:r=r.take q++r[q]::r.drop (q+1):=by rw[<- fQ hq,List.take_append_drop]
    have e2:(r[q]::(r.take q++r.drop (q+1))).Perm r:=(List.perm_middle.symm).trans (by rw[<- e])
    exact e2
 ·rintro ρ bn ⟨r,f,o,o2,rfl,rfl,hf,hr,hfl⟩
  apply bQ
  ·(walk_at "evs")
  ·exact⟨_,_,rfl,⟨_,rfl⟩,rfl,f,rfl,by rw[hf];simpa using h1,(lZ.mp (hfl.nodup_iff.mpr #[12])).1,fun d hd=>hfl.mem_iff.mp (bZ _ hd)⟩
structure Pl where
 b:Nat
 m:List Nat
noncomputable def Pl.w(p:Pl):W:=.tup [.int p.b,.str p.m]
def b_(t:List Pl):W:=.tup (t.map Pl.w)
inductive St(n:Nat):List Nat->Nat->List Nat->Nat->Option Nat×Option Nat->Prop
 |z {S:List Nat}:St n S 0 (1::S) 1 (none,none)
 |l {a:Nat} {S:List Nat}:St n (a::S) 1 ((1+a)::S) (1+a) (some (n-1),none)
 |r {a:Nat} {S:List Nat}:St n (a::S) 2 ((1+a)::S) (1+a) (none,some (n-1))
 |b {c a:Nat} {S:List Nat}:St n (c::a::S) 3 ((1+c+a)::S) (1+c+a) (some (n-1-c),some (n-1))
inductive Gr:List Pl->List Nat->List Nat->List #[7]->Prop
 |nil:Gr [] [] [] []
 |snoc {ps:List Pl} {S S' sz:List Nat} {lk:List (Option Nat×Option Nat)} {b k:Nat} {m:List Nat} {x:Option Nat×Option Nat}:Gr ps S sz lk->St ps.length S b S' k x->Gr (ps++[⟨b,m⟩]) S' (sz++[k]) (lk++[x])
def At(sz:List Nat):List Nat->Nat->Prop
 |[],n=>n=0
 |a::S,n=>sz[n-1]?=some a/\a<=n/\1<=a/\At sz S (n-a)
theorem At.app{sz x:List Nat}:∀{S:List Nat} {n:Nat},n<=sz.length->At sz S n->At (sz++x) S n
 |[],_,_,h=>h
 |a::S,n,hn,⟨h1,h2,h3,h4⟩=>⟨by rw[aK (by omega)];exact h1,h2,h3,At.app (by omega) h4⟩
theorem St.at'{sz S':List Nat}{b k:Nat}(h:St n S b S' k x)(hn:sz.length=n)(ha:At sz S n):At (sz++[k]) S' (n+1):=by
 have hk:(sz++[k])[n+1-1]?=some k:=by rw[Nat.add_sub_cancel,<- hn];simp
 cases h with
 |z=>exact⟨hk,by omega,by omega,by rw[Nat.add_sub_cancel];exact ha.app (by omega)⟩
 |@l a S=>exact⟨hk,by have:=ha.2.1;omega,by omega,by rw[show n+1-(1+a)=n-a by omega];exact ha.2.2.2.app (by omega)⟩
 |@r a S=>exact⟨hk,by have:=ha.2.1;omega,by omega,by rw[show n+1-(1+a)=n-a by omega];exact ha.2.2.2.app (by omega)⟩
 |@b c a S=>exact⟨hk,by have:=ha.2.1;have:=ha.2.2.2.2.1;omega,by omega,by rw[show n+1-(1+c+a)=n-c-a by omega];exact ha.2.2.2.2.2.2.app (by omega)⟩
theorem Gr.ok{ps:List Pl}{sz:List Nat}{lk:List #[7]}(h:Gr ps S sz lk):sz.length=ps.length/\lk.length=ps.length/\At sz S ps.length:=by
 induction h with
 |nil=>exact⟨rfl,rfl,rfl⟩
 |snoc _ hs ih=>
  obtain⟨h1,h2,h3⟩:=ih
  exact⟨by simp[h1],by simp[h2],by rw[ah];exact hs.at' h1 h3⟩
theorem Gr.step{ps:List Pl}{sz:List Nat}{lk:List #[7]}(h:Gr ps S sz lk):∀i,i<ps.length->∃S1 S2 p k x,Gr (ps.take i) S1 (sz.take i) (lk.take i)/\ps[i]?=some p/\sz[i]?=some k/\lk[i]?=some x/\St i S1 p.b S2 k x/\Gr (ps.take (i+1)) S2 (sz.take (i+1)) (lk.take (i+1)):=by
 induction h with
 |nil=>intro i hi;simp at hi
 |@snoc ps S S' sz lk b k m x hg hs ih=>
  intro i hi
  obtain⟨l1,l2,_⟩:=hg.ok
  by_cases e:i=ps.length
  ·subst e
   refine⟨S,S',⟨b,m⟩,k,x,?_,by simp,by rw[<- l1];simp,by rw[<- l2];simp,hs,?_⟩
   ·rw[gs,<- l1,gs]
    rw[l1,<- l2,gs];exact hg
   ·rw[bB #[15],bB (by simp[l1]),bB (by simp[l2])]
    exact .snoc hg hs
  ·have hi':i<ps.length:=by simp at hi;omega
   obtain⟨S1,S2,p,k1,x1,g1,q1,q2,q3,hs1,g2⟩:=ih i hi'
   refine⟨S1,S2,p,k1,x1,?_,by rw[aK hi'];exact q1,by rw[aK #[0]];exact q2,by rw[aK #[0]];exact q3,hs1,?_⟩
   ·rw[cF #[0],cF #[0],cF #[0]];exact g1
   ·rw[cF #[0],cF #[0],cF #[0]];exact g2
theorem Gr.cut{ps:List Pl}{sz:List Nat}{lk:List #[7]}(h:Gr ps S sz lk)(hi:i<ps.length):∃(p:Pl) (L R:Nat),ps[i]?=some p/\sz[i]?=some (1+L+R)/\L+R<=i/\p.b<=3/\(0<L↔p.b%2=1)/\(0<R↔2<=p.b)/\(2<=p.b->1<=i/\sz[i-1]?=some R):=by
 obtain⟨S1,S2,p,k,x,g1,q1,q2,q3,hs,_⟩:=h.step i hi
 obtain⟨l1,l2,ha⟩:=g1.ok
 have fX:(ps.take i).length=i:=by rw[aM];omega
 rw[fX]at ha
 obtain⟨b,m⟩:=p
 have get:∀j a,1<=i->j=i-1->(sz.take i)[j]?=some a->sz[j]?=some a:=fun j a hi1 hj e=>by
  rw[cO #[0]]at e;exact e
 cases hs with
 |z=>exact⟨⟨0,m⟩,0,0,q1,q2,by omega,by simp,by simp,by simp,by simp⟩
 |@l a S=>
  have ha1:(sz.take i)[i-1]?=some a:=ha.1
  have ha2:a<=i:=ha.2.1
  have ha3:1<=a:=ha.2.2.1
  exact⟨⟨1,m⟩,a,0,q1,q2,by omega,by simp,by simp;omega,by simp,by simp⟩
 |@r a S=>
  have ha1:(sz.take i)[i-1]?=some a:=ha.1
  have ha2:a<=i:=ha.2.1
  have ha3:1<=a:=ha.2.2.1
  exact⟨⟨2,m⟩,0,a,q1,by rw[q2],by omega,by simp,by simp,by simp;omega,fun _=>⟨by omega,get _ _ #[0] rfl ha1⟩⟩
 |@b c a S=>
  have ha1:(sz.take i)[i-1]?=some c:=ha.1
  have ha2:c<=i:=ha.2.1
  have ha3:1<=c:=ha.2.2.1
  have hb2:a<=i-c:=ha.2.2.2.2.1
  have hb3:1<=a:=ha.2.2.2.2.2.1
  exact⟨⟨3,m⟩,a,c,q1,by rw[q2];congr 1<;>omega,by omega,by simp,by simp;omega,by simp;omega,fun _=>⟨by omega,get _ _ #[0] rfl ha1⟩⟩
theorem RT{b:Nat}(h:b<=3)(st:List al):Fg false (.int b) (.tup [.int 1,.int 3]) st=.ok (.bl (decide (b%2=1))) st:=by
 obtain rfl|rfl|rfl|rfl:b=0\/b=1\/b=2\/b=3:=by omega
 all_goals rfl
theorem RU{b:Nat}(h:b<=3)(st:List al):Fg false (.int b) (.tup [.int 2,.int 3]) st=.ok (.bl (decide (2<=b))) st:=by
 obtain rfl|rfl|rfl|rfl:b=0\/b=1\/b=2\/b=3:=by omega
 all_goals rfl
theorem Kv{p:Pl}(h:p.b<=3)(st:List al):zh [p.w] st=.ok (.bl (decide (p.b%2=1))) st:=by
 have:=RT h st
 have i0:bj p.w (.int 0) st=.ok (.int p.b) st:=rfl
 apply dQ
 apply bQ
 ·(walk_at "evs")
 ·exact⟨_,_,rfl,rfl,rfl⟩
theorem A9{p:Pl}(h:p.b<=3)(st:List al):vU [p.w] st=.ok (.bl (decide (2<=p.b))) st:=by
 have:=RU h st
 have i0:bj p.w (.int 0) st=.ok (.int p.b) st:=rfl
 apply dQ
 apply bQ
 ·(walk_at "evs")
 ·exact⟨_,_,rfl,rfl,rfl⟩
noncomputable def oW:Option Nat->W
 |none=>.non
 |some k=>.int k
def gE(x:Option Nat×Option Nat):W:=.tup [oW x.1,oW x.2]
noncomputable def jl:List Nat->Nat->List Nat
 |[],_=>[]
 |a::S,n=>(n-1)::jl S (n-a)
theorem ip:∀(S:List Nat) (n:Nat),(jl S n).length=S.length
 |[],_=>rfl
 |a::S,n=>by simp[jl,ip S]
theorem At.le{sz:List Nat}:∀{S:List Nat} {n:Nat},At sz S n->S.length<=n
 |[],_,_=>cn _
 |a::S,n,⟨_,h2,h3,h4⟩=>by have:=At.le h4;simp;omega
theorem St.det{S1 S2:List Nat}{b k1 k2:Nat}{x1 x2:Option Nat×Option Nat}(h1:St n S b S1 k1 x1)(h2:St n S b S2 k2 x2):S1=S2/\k1=k2/\x1=x2:=by
 cases h1<;>cases h2<;>exact⟨rfl,rfl,rfl⟩
theorem Gr.det{ps:List Pl}{sz:List Nat}{lk:List #[7]}(h:Gr ps S sz lk):∀{SX:List Pl} {S' Ud:List Nat} {Pw:List #[7]},Gr SX S' Ud Pw->ps=SX->S=S':=by
 induction h with
 |nil=>
  intro SX S' Ud Pw h' e
  cases h' with
  |nil=>rfl
  |snoc _ _=>simp at e
 |snoc hg hs ih=>
  intro SX S' Ud Pw h' e
  cases h' with
  |nil=>simp at e
  |snoc hg' hs'=>
   have e2:=List.append_inj' e rfl
   have:=ih hg' e2.1
   subst this
   have e3:Pl.mk _ _=Pl.mk _ _:=List.head_eq_of_cons_eq e2.2
   injection e3 with eb em
   subst eb
   rw[<- e2.1]at hs'
   exact(hs.det hs').1
noncomputable def cV(l:List Nat):List W:=l.map fun k:Nat=>W.int k
section
variable{ps:List Pl}{sz:List Nat}{lk:List #[7]}
theorem rZ(h:Gr ps S sz lk)(hn:ps.length<=1000)(st:List al):vV [b_ ps] st=.ok (.tup (lk.map gE)) st:=by
 obtain⟨l1,l2,_⟩:=h.ok
 have hu:∀(l:List #[7]) (n:Nat),undWs n (l.map gE)=true:=by
  intro l n
  induction l with
  |nil=>rfl
  |cons x r ih=>
   obtain⟨a,b⟩:=x
   simp only[aU,undWs,ih,dM,gE,W.und]
   cases a<;>cases b<;>rfl
 refine f9 (N:=7) (ws:=[b_ ps]) (body:=Ru) ?_ (by simp[undWs,W.und,hu])
 apply aA
 ·(walk_at "evs")
 apply aA
 ·(walk_at "evs")
 rw[show(st++[al.lst []]).length=st.length+1 by simp,show st++[al.lst []]++[al.lst []]=st++[al.lst [],al.lst []] by simp]
 refine gb (fun i ρ bn=>∃(S1:List Nat) (o3 o4 o5 o6:Option W),ρ=[some (b_ ps),some #[5],some (.loc (st.length+1)),o3,o4,o5,o6]/\bn=st++[.lst ((lk.take i).map gE),.lst (cV (jl S1 i).reverse)]/\Gr (ps.take i) S1 (sz.take i) (lk.take i)/\i<=ps.length) (k:=(lT (ps.map Pl.w),none))
  (by show qC (ai (ag 0) aD) _ _=_;unfold qC;rfl) ⟨[],none,none,none,none,rfl,rfl,.nil,cn _⟩ (fun _ _ _ _=>trivial) ?_ ?_
 ·rintro i w ρ bn hw ⟨S1,o3,o4,o5,o6,rfl,rfl,hg,hi⟩
  obtain⟨y,hy,rfl⟩:=sY hw
  have hip:i<ps.length:=by have:=(au.mp hy).1;simpa using this
  obtain⟨S1',S2,p,k,x,g1,q1,q2,q3,hs,g2⟩:=h.step i hip
  rw[aJ,q1]at hy
  cases hy
  refine⟨_,rfl,?_⟩
  have hS:=hg.det g1 rfl
  subst hS
  obtain⟨lz,ll,ha⟩:=g1.ok
  have hti:(ps.take i).length=i:=by rw[aM];omega
  rw[hti]at ha lz ll
  have hSl:=ha.le
  obtain⟨p',L,R,q1',q2',_,hb3,hL,hR,_⟩:=h.cut hip
  rw[q1]at q1';cases q1'
  have hlk:lk.take (i+1)=lk.take i++[x]:=by rw[jB,q3];rfl
  have hrt:=fun st=>A9 (p:=p) hb3 st
  have hlf:=fun st=>Kv (p:=p) hb3 st
  have pop:∀(A:List W) (B:List Nat) (q:Nat),mD (.loc (st.length+1)) [] (st++[.lst A,.lst (cV (q::B).reverse)])=.ok (.int q) (st++[.lst A,.lst (cV B.reverse)]):=fun A B q=>by
   have hc:(st++[al.lst A,.lst (cV (q::B).reverse)])[st.length+1]?=some (.lst (cV B.reverse++[.int q])):=by rw[ij];simp[cV]
   rw[vG hc,mE];rfl
  have isl:∀(A:List W) (B:List W),k6 (st++[.lst A,.lst B]) (.loc (st.length+1))=true:=fun A B=>dv (by rw[ij];rfl)
  have isl0:∀(A:List W) (B:List W),k6 (st++[.lst A,.lst B]) #[5]=true:=fun A B=>dv (by rw[dC];rfl)
  have app:∀(A:List W) (B:List Nat) (q:Nat),B.length<1000->bU (.loc (st.length+1)) [.int q] (st++[.lst A,.lst (cV B.reverse)])=.ok .non (st++[.lst A,.lst (cV (q::B).reverse)]):=fun A B q hB=>by
   have hc:(st++[al.lst A,.lst (cV B.reverse)])[st.length+1]?=some (.lst (cV B.reverse)):=by rw[ij];rfl
   rw[nJ hc (by simp[cV];show _<1000000;omega),mE]
   simp[cV]
  have app0:∀(B:List W) (w:W),bU #[5] [w] (st++[.lst ((lk.take i).map gE),.lst B])=.ok .non (st++[.lst ((lk.take i).map gE++[w]),.lst B]):=fun B w=>by
   have hc:(st++[al.lst ((lk.take i).map gE),.lst B])[st.length]?=some (.lst ((lk.take i).map gE)):=by rw[dC];rfl
   rw[nJ hc (by simp;show _<1000000;omega),fx];rfl
  have kJ:∀(o3 o4 o5 o6:Option W) (B:List Nat),B=jl S2 (i+1)->Kr (fun ρ bn=>∃(S1:List Nat) (o3 o4 o5 o6:Option W),ρ=[some (b_ ps),some #[5],some (.loc (st.length+1)),o3,o4,o5,o6]/\bn=st++[.lst ((lk.take (i+1)).map gE),.lst (cV (jl S1 (i+1)).reverse)]/\Gr (ps.take (i+1)) S1 (sz.take (i+1)) (lk.take (i+1))/\i+1<=ps.length)
    (.nx [some (b_ ps),some #[5],some (.loc (st.length+1)),o3,o4,o5,o6] (st++[.lst ((lk.take i).map gE++[gE x]),.lst (cV B.reverse)])):=by
   rintro o3 o4 o5 o6 B rfl
   exact⟨_,_,rfl,S2,_,_,_,_,rfl,by rw[hlk];simp,g2,by omega⟩
  obtain⟨b,m⟩:=p
  have hiS:∀T:List Nat,T.length<=i->(jl T i).length<1000:=fun T hT=>by rw[ip];omega
  cases hs with
  |@z=>
   have hr:vU [(Pl.mk 0 m).w]=fun st=>.ok (.bl false) st:=funext hrt
   have hl:zh [(Pl.mk 0 m).w]=fun st=>.ok (.bl false) st:=funext hlf
   have a1:=app ((lk.take i).map gE) (jl S1 i) i (hiS _ hSl)
   have a2:=app0 (cV (i::jl S1 i).reverse) (.tup [.non,.non])
   apply aA
   ·apply a_
    apply t_
    ·(repeat' (first|with_reducible exact lH hr _|walk_at "ev1"))
    ·(walk_at "evs")
   apply aA
   ·apply a_
    apply t_
    ·(repeat' (first|with_reducible exact lH hl _|walk_at "ev1"))
    ·(walk_at "evs")
   apply aA
   ·(repeat' (first|with_reducible exact isl _ _|walk_at "ev1"))
   apply dw
   ·(repeat' (first|with_reducible exact isl0 _ _|walk_at "ev1"))
   ·exact kJ _ _ _ _ (i::jl S1 i) rfl
  |@l a S=>
   have hr:vU [(Pl.mk 1 m).w]=fun st=>.ok (.bl false) st:=funext hrt
   have hl:zh [(Pl.mk 1 m).w]=fun st=>.ok (.bl true) st:=funext hlf
   have hSl':S.length<=i:=by simp at hSl;omega
   have p1:=pop ((lk.take i).map gE) (jl S (i-a)) (i-1)
   have a1:=app ((lk.take i).map gE) (jl S (i-a)) i (by rw[ip];omega)
   have a2:=app0 (cV (i::jl S (i-a)).reverse) (.tup [.int (i-1:Nat),.non])
   apply aA
   ·apply a_
    apply t_
    ·(repeat' (first|with_reducible exact lH hr _|walk_at "ev1"))
    ·(walk_at "evs")
   apply aA
   ·apply a_
    apply t9
    ·(repeat' (first|with_reducible exact lH hl _|walk_at "ev1"))
    ·exact ik kv (isl _ _) aZ p1
   apply aA
   ·(repeat' (first|with_reducible exact isl _ _|walk_at "ev1"))
   apply dw
   ·(repeat' (first|with_reducible exact isl0 _ _|walk_at "ev1"))
   ·exact kJ _ _ _ _ (i::jl S (i-a)) (by simp only[jl];congr 1;congr 1;omega)
  |@r a S=>
   have hr:vU [(Pl.mk 2 m).w]=fun st=>.ok (.bl true) st:=funext hrt
   have hl:zh [(Pl.mk 2 m).w]=fun st=>.ok (.bl false) st:=funext fun st=>(hlf st).trans (by rw[show decide ((Pl.mk 2 m).b%2=1)=false from by simp])
   have hSl':S.length<=i:=by simp at hSl;omega
   have p1:=pop ((lk.take i).map gE) (jl S (i-a)) (i-1)
   have a1:=app ((lk.take i).map gE) (jl S (i-a)) i (by rw[ip];omega)
   have a2:=app0 (cV (i::jl S (i-a)).reverse) (.tup [.non,.int (i-1:Nat)])
   apply aA
   ·apply a_
    apply t9
    ·(repeat' (first|with_reducible exact lH hr _|walk_at "ev1"))
    ·exact ik kv (isl _ _) aZ p1
   apply aA
   ·apply a_
    apply t_
    ·(repeat' (first|with_reducible exact lH hl _|walk_at "ev1"))
    ·(walk_at "evs")
   apply aA
   ·(repeat' (first|with_reducible exact isl _ _|walk_at "ev1"))
   apply dw
   ·(repeat' (first|with_reducible exact isl0 _ _|walk_at "ev1"))
   ·exact kJ _ _ _ _ (i::jl S (i-a)) (by simp only[jl];congr 1;congr 1;omega)
  |@b c a S=>
   have hr:vU [(Pl.mk 3 m).w]=fun st=>.ok (.bl true) st:=funext hrt
   have hl:zh [(Pl.mk 3 m).w]=fun st=>.ok (.bl true) st:=funext fun st=>(hlf st).trans (by rw[show decide ((Pl.mk 3 m).b%2=1)=true from by simp])
   have hSl':S.length<=i:=by simp at hSl;omega
   have hca:(i-c-1)=(i-1-c):=by omega
   have p1:=pop ((lk.take i).map gE) ((i-1-c)::jl S (i-c-a)) (i-1)
   have p2:=pop ((lk.take i).map gE) (jl S (i-c-a)) (i-1-c)
   have a1:=app ((lk.take i).map gE) (jl S (i-c-a)) i (by rw[ip];omega)
   have a2:=app0 (cV (i::jl S (i-c-a)).reverse) (.tup [.int (i-1-c:Nat),.int (i-1:Nat)])
   have ht:jl (c::a::S) i=(i-1)::(i-1-c)::jl S (i-c-a):=by simp only[jl,hca]
   rw[ht]
   apply aA
   ·apply a_
    apply t9
    ·(repeat' (first|with_reducible exact lH hr _|walk_at "ev1"))
    ·exact ik kv (isl _ _) aZ p1
   apply aA
   ·apply a_
    apply t9
    ·(repeat' (first|with_reducible exact lH hl _|walk_at "ev1"))
    ·exact ik kv (isl _ _) aZ p2
   apply aA
   ·(repeat' (first|with_reducible exact isl _ _|walk_at "ev1"))
   apply dw
   ·(repeat' (first|with_reducible exact isl0 _ _|walk_at "ev1"))
   ·exact kJ _ _ _ _ (i::jl S (i-c-a)) (by simp only[jl];congr 1;congr 1;omega)
 ·rintro ρ bn ⟨S1,o3,o4,o5,o6,rfl,rfl,hg,hi⟩
  have fX:(lT (ps.map Pl.w)).length=ps.length:=by simp[lT]
  have hc:(st++[al.lst ((lk.take (lT (ps.map Pl.w),(none:Option (Nat×List W))).1.length).map gE),.lst (cV (jl S1 (lT (ps.map Pl.w),(none:Option (Nat×List W))).1.length).reverse)])[st.length]?=some (.lst (lk.map gE)):=by
   rw[dC]
   show some (al.lst ((lk.take (lT (ps.map Pl.w)).length).map gE))=_
   rw[fX,bB #[0]]
  apply bQ
  ·(repeat' (first|with_reducible exact oM (b6 hc)|walk_at "ev1"))
  ·exact⟨_,_,rfl,rfl,_,rfl⟩
end
theorem lg(t:List Pl)(n:Nat):(b_ t).und n=true:=by
 unfold b_ W.und
 induction t with
 |nil=>rfl
 |cons x r ih=>simp only[aU,undWs,ih,dM];simp[Pl.w,W.und,undWs]
theorem gY(a:List Pl)(st:List al):dI [b_ a] st=.ok (.int a.length) st:=by
 unfold b_
 rw[Cn,aF]
theorem r6{a:List Pl}{p:Pl}(h:a[q]?=some p)(st:List al):bj (b_ a) (.int q) st=.ok p.w st:=oJ (gk (by simp[h]))
theorem CB(p:Pl)(st:List al):bj p.w (.int 1) st=.ok (.str p.m) st:=rfl
theorem OJ(p:Pl)(st:List al):bj p.w (.int 0) st=.ok (.int p.b) st:=rfl
section
variable{ps:List Pl}{sz:List Nat}{lk:List #[7]}
theorem xY(h:Gr ps S sz lk)(hn:ps.length<=1000)(st:List al):∃x,(∃A,x=[al.lst A,.lst (lk.map gE)])/\vY [b_ ps] st=.ok (.loc (st.length+1)) (st++x):=by
 obtain⟨l1,l2,_⟩:=h.ok
 suffices hh:kI (zO fun w bn=>∃j x,w=.loc (st.length+j)/\bn=st++x/\j=1/\∃A,x=[al.lst A,.lst (lk.map gE)]) (LX ([b_ ps].map some++List.replicate (6-1) none) st) by
  obtain⟨j,x,⟨rfl,h1⟩,e⟩:=rJ hh
  exact⟨x,h1,e⟩
 apply aA
 ·(walk_at "evs")
 apply aA
 ·(walk_at "evs")
 rw[show(st++[al.lst []]).length=st.length+1 by simp,show st++[al.lst []]++[al.lst []]=st++[al.lst [],al.lst []] by simp]
 refine gb (fun i ρ bn=>∃(S1:List Nat) (o3 o4 o5:Option W),ρ=[some (b_ ps),some #[5],some (.loc (st.length+1)),o3,o4,o5]/\bn=st++[.lst (cV (jl S1 i).reverse),.lst ((lk.take i).map gE)]/\Gr (ps.take i) S1 (sz.take i) (lk.take i)/\i<=ps.length)
  (jw (q:=(ps.length:Int)) (st1:=st++[al.lst [],al.lst []]) (aw (cC kn (gY ps _)) aZ) #[0]) ⟨[],none,none,none,rfl,rfl,.nil,cn _⟩ (fun _ _ _ _=>trivial) ?_ ?_
 ·rintro i w ρ bn hw ⟨S1,o3,o4,o5,rfl,rfl,hg,hi⟩
  obtain⟨hip,rfl⟩:=jK hw
  rw[bV]at hip
  obtain⟨S1',S2,p,k,x,g1,q1,q2,q3,hs,g2⟩:=h.step i hip
  refine⟨_,rfl,?_⟩
  have hS:=hg.det g1 rfl
  subst hS
  obtain⟨lz,ll,ha⟩:=g1.ok
  have hti:(ps.take i).length=i:=by rw[aM];omega
  rw[hti]at ha lz ll
  have hSl:=ha.le
  have hlk:lk.take (i+1)=lk.take i++[x]:=by rw[jB,q3];rfl
  have it:∀s:List al,bj (b_ ps) (.int (0+(i:Int))) s=.ok p.w s:=fun s=>by rw[kT];exact r6 q1 s
  have pop:∀(A:List W) (B:List Nat) (q:Nat),mD #[5] [] (st++[.lst (cV (q::B).reverse),.lst A])=.ok (.int q) (st++[.lst (cV B.reverse),.lst A]):=fun A B q=>by
   have hc:(st++[al.lst (cV (q::B).reverse),.lst A])[st.length]?=some (.lst (cV B.reverse++[.int q])):=by rw[dC];simp[cV]
   rw[vG hc,fx];rfl
  have isl:∀(A:List W) (B:List W),k6 (st++[.lst A,.lst B]) (.loc (st.length+1))=true:=fun A B=>dv (by rw[ij];rfl)
  have isl0:∀(A:List W) (B:List W),k6 (st++[.lst A,.lst B]) #[5]=true:=fun A B=>dv (by rw[dC];rfl)
  have app:∀(A:List W) (B:List Nat),B.length<1001->bU #[5] [.int (0+(i:Int))] (st++[.lst (cV B.reverse),.lst A])=.ok .non (st++[.lst (cV (i::B).reverse),.lst A]):=fun A B hB=>by
   have hc:(st++[al.lst (cV B.reverse),.lst A])[st.length]?=some (.lst (cV B.reverse)):=by rw[dC];rfl
   rw[nJ hc (by simp[cV];show _<1000000;omega),fx]
   simp[cV]
  have app1:∀(B:List W) (w:W),bU (.loc (st.length+1)) [w] (st++[.lst B,.lst ((lk.take i).map gE)])=.ok .non (st++[.lst B,.lst ((lk.take i).map gE++[w])]):=fun B w=>by
   have hc:(st++[al.lst B,.lst ((lk.take i).map gE)])[st.length+1]?=some (.lst ((lk.take i).map gE)):=by rw[ij];rfl
   rw[nJ hc (by simp;show _<1000000;omega),mE];rfl
  have T1:∀(k:Bool) (ρ:cM) (s:List al),decide ((2:Int)<=(p.b:Int))=k->ρ[0]?=some (some (b_ ps))->ρ[3]?=some (some (.int (0+(i:Int))))->eF (e2 Nq (e2 bj (e2 bj (ag 0) (ag 3)) (eI 0)) (eI 2)) ρ s=.ok k s:=fun k ρ s e h0 h3=>a7 (bu (bu (bu (ju h0) (ju h3) (it s)) bW (OJ p s)) bW (GH e))
  have T2:∀(k:Bool) (ρ:cM) (s:List al),(((p.b:Int)%2)==1)=k->ρ[0]?=some (some (b_ ps))->ρ[3]?=some (some (.int (0+(i:Int))))->eF (e2 iN (e2 i7 (e2 bj (e2 bj (ag 0) (ag 3)) (eI 0)) (eI 2)) (eI 1)) ρ s=.ok k s:=fun k ρ s e h0 h3=>a7 (bu (bu (bu (bu (ju h0) (ju h3) (it s)) bW (OJ p s)) bW (jv #[12])) bW (gj e))
  have kJ:∀(o3 o4 o5:Option W) (B:List Nat),i::B=jl S2 (i+1)->Kr (fun ρ bn=>∃(S1:List Nat) (o3 o4 o5:Option W),ρ=[some (b_ ps),some #[5],some (.loc (st.length+1)),o3,o4,o5]/\bn=st++[.lst (cV (jl S1 (i+1)).reverse),.lst ((lk.take (i+1)).map gE)]/\Gr (ps.take (i+1)) S1 (sz.take (i+1)) (lk.take (i+1))/\i+1<=ps.length)
    (.nx [some (b_ ps),some #[5],some (.loc (st.length+1)),o3,o4,o5] (st++[.lst (cV (i::B).reverse),.lst ((lk.take i).map gE++[gE x])])):=by
   rintro o3 o4 o5 B e
   exact⟨_,_,rfl,S2,_,_,_,rfl,by rw[hlk,e];simp,g2,by omega⟩
  have put:∀(lw om:W) (o3:Option W) (B:List Nat),o3=some (.int (0+(i:Int)))->B.length<1001->gE x=.tup [lw,om]->i::B=jl S2 (i+1) ->
    kI (Kr (fun ρ bn=>∃(S1:List Nat) (o3 o4 o5:Option W),ρ=[some (b_ ps),some #[5],some (.loc (st.length+1)),o3,o4,o5]/\bn=st++[.lst (cV (jl S1 (i+1)).reverse),.lst ((lk.take (i+1)).map gE)]/\Gr (ps.take (i+1)) S1 (sz.take (i+1)) (lk.take (i+1))/\i+1<=ps.length))
     (aI (c7 (k7 bU (ag 2) (ai (ga (ai (ag 4) (ai (ag 5) aD))) aD))) (c7 (k7 bU (ag 1) (ai (ag 3) aD))) [some (b_ ps),some #[5],some (.loc (st.length+1)),o3,some lw,some om] (st++[.lst (cV B.reverse),.lst ((lk.take i).map gE)])):=by
   intro lw om o3 B e3 hB hx hT
   subst e3
   have a1:=app1 (cV B.reverse) (.tup [lw,om])
   have a2:=app ((lk.take i).map gE++[.tup [lw,om]]) B hB
   have ff:=kJ (some (.int (0+(i:Int)))) (some lw) (some om) B hT
   rw[hx]at ff
   apply aA
   ·exact d6 (ik kv (isl _ _) (aw (eX (aw kv kn) (ao rfl)) aZ) a1)
   apply dw
   ·exact d6 (ik kv (isl0 _ _) kn a2)
   ·exact ff
  apply aA
  ·exact a_ bW
  apply aA
  ·exact a_ bW
  obtain⟨b,m⟩:=p
  cases hs with
  |@z=>
   apply bO
   ·exact T1 false _ _ rfl rfl rfl
   apply cv
   apply bO
   ·exact T2 false _ _ rfl rfl rfl
   apply cv
   exact put _ _ _ (jl S1 i) rfl (by rw[ip];omega) rfl rfl
  |@l a S=>
   apply bO
   ·exact T1 false _ _ rfl rfl rfl
   apply cv
   apply aA
   ·exact cN (T2 true _ _ rfl rfl rfl) (a_ (ik kv (isl0 _ _) aZ (pop _ (jl S (i-a)) (i-1))))
   exact put _ _ _ (jl S (i-a)) rfl (by rw[ip];simp at hSl;omega) rfl (by simp only[jl];congr 1;congr 1;omega)
  |@r a S=>
   apply aA
   ·exact cN (T1 true _ _ rfl rfl rfl) (a_ (ik kv (isl0 _ _) aZ (pop _ (jl S (i-a)) (i-1))))
   apply bO
   ·exact T2 false _ _ (by show((2:Int)%2==1)=false;decide) rfl rfl
   apply cv
   exact put _ _ _ (jl S (i-a)) rfl (by rw[ip];simp at hSl;omega) rfl (by simp only[jl];congr 1;congr 1;omega)
  |@b c a S=>
   apply aA
   ·exact cN (T1 true _ _ rfl rfl rfl) (a_ (ik kv (isl0 _ _) aZ (pop _ (jl (a::S) (i-c)) (i-1))))
   apply aA
   ·exact cN (T2 true _ _ (by show((3:Int)%2==1)=true;decide) rfl rfl) (a_ (ik kv (isl0 _ _) aZ (pop _ (jl S (i-c-a)) (i-c-1))))
   exact put _ _ _ (jl S (i-c-a)) rfl (by rw[ip];simp at hSl;omega) (by show W.tup [.int ((i-1-c:Nat):Int),_]=_;rw[show i-1-c=i-c-1 by omega];rfl) (by simp only[jl];congr 1;congr 1;omega)
 ·rintro ρ bn ⟨S1,o3,o4,o5,rfl,rfl,hg,hi⟩
  rw[show(gC 0 (ps.length:Int).toNat,(none:Option (Nat×List W))).fst.length=lk.length by rw[l2];simp[fE],dR]
  apply bQ
  ·(walk_at "evs")
  ·exact⟨_,_,rfl,1,_,rfl,rfl,rfl,_,rfl⟩
end
theorem r9{s:List al}{p:Nat}{c:al}(h:st <+: s)(hp:st.length<=p):st <+: s.set p c:=by
 obtain⟨x,rfl⟩:=h
 rw[show p=st.length+(p-st.length) by omega,mE]
 exact be _ _
theorem zn{s y:List al}(h:st <+: s):st <+: s++y:=h.trans (be _ _)
theorem pre_get{s:List al}{c:al}(h:st <+: s)(e:st[i]?=some c):s[i]?=some c:=by
 obtain⟨x,rfl⟩:=h
 exact cJ e
theorem d9{s:List al}{p:Nat}{c d:al}(h:s[p]?=some d):(s.set p c)[p]?=some c:=by
 rw[cr (au.mp h).1]
theorem bH{s:List al}{p:Nat}{c:al}(h:p≠q):(s.set p c)[q]?=s[q]?:=cX h
theorem fP{s:List al}{p:Nat}{c:al}(h:s[p]?=some c):p<s.length:=(au.mp h).1
theorem dz{s:List al}{c:al}:(s++[c])[s.length]?=some c:=by rw[dC];rfl
noncomputable def zo(l:List Int):List W:=l.map W.int
theorem uV{s:List al}{p:Nat}{ds:List Int}{d:Int}(h:s[p]?=some (.lst (zo ds)))(e:ds[i]?=some d):bj (.loc p) (.int i) s=.ok (.int d) s:=j6 (b6 h) (gk (by rw[zo,aJ,e];rfl))
theorem HD(h:lstOf st n=some (ls.map W.str))(hl:ls.length<64):kh [.loc n] st=.ok #[5] (st++[.lst ((jc ls).map W.str)]):=by
 show pM [.loc n] st=_
 unfold pM
 simp only[h,eU,xE]
 rw[aE hl]
theorem v0{a b:List (List Nat)}(h:a.Perm b):(a.map List.length).sum=(b.map List.length).sum:=by
 induction h with
 |nil=>rfl
 |cons x _ ih=>simp only[aU,qw,ih]
 |swap x y l=>simp only[aU,qw];omega
 |trans _ _ ih1 ih2=>rw[ih1,ih2]
theorem r_(l:List Nat):(((l.map fun c=>[c])).map List.length).sum=l.length:=by
 induction l with
 |nil=>rfl
 |cons a r ih=>simp only[aU,qw,bg,ih,kD];omega
def CC(l:List Nat):List Nat:=kX [] (jc (l.map fun c=>[c]))
theorem DO(l:List Nat):(CC l).length=l.length:=by
 unfold CC;rw[mC,List.length_flatten,v0 (gD _),r_]
theorem HE(l:List Nat):(CC l).Perm l:=by
 unfold CC;rw[mC]
 have h:(jc (l.map fun c=>[c])).flatten.Perm (l.map fun c=>[c]).flatten:=(gD _).flatten
 refine h.trans (.of_eq ?_)
 induction l with
 |nil=>rfl
 |cons a r ih=>
  have ih':=ih ((gD _).flatten)
  simp only[aU,l6,ih',List.cons_append,eW]
theorem DP{fe:FE}{s1:List al}(h:fe ρ st=.ok (.loc n) s1)(hc:lstOf s1 n=some ((l.map fun c=>[c]).map W.str))(hl:l.length<64) :
  Jg nF (eC (.str [])) (ai (bE kh (ai fe aD)) aD) ρ st=.ok (.str (CC l)) (s1++[.lst ((jc (l.map fun c=>[c])).map W.str)]):=by
 have hs:=HD hc (by simpa using hl)
 have hcell2:lstOf (s1++[al.lst ((jc (l.map fun c=>[c])).map W.str)]) s1.length=some ((jc (l.map fun c=>[c])).map W.str):=b6 dz
 have hj:=Co (sep:=[]) hcell2 (by rw[v0 (gD _),r_];show _<=1000000;simp;omega)
 exact Kq bW rfl (aw (cC (aw h aZ) hs) aZ) hj
section
variable{fs:FA}
theorem Kw(V:β->W)(Pb:Nat->β->Prop)(hr:fs ρ st=.ok [.int n] st)(hn:n<=100000)(h:∀i:Nat,i<n->∃b,Pb i b/\el ((sX cap ρ).set 0 (some (.int i))) st=.ok (V b) st) :
  ∃r:List β,r.length=n/\(∀i b,r[i]?=some b->Pb i b)/\j3 cap (dP fs) (jD 0) wP el ρ st=.ok #[5] (st++[.lst (r.map V)]):=by
 let f:Fin n->β:=fun i=>Classical.choose (h i i.2)
 have hf:∀i:Fin n,Pb i (f i)/\el ((sX cap ρ).set 0 (some (.int (i:Nat)))) st=.ok (V (f i)) st:=fun i=>Classical.choose_spec (h i i.2)
 let Y:W->W:=fun w=>match w with
  |.int z=>if hz:z.toNat<n then V (f ⟨z.toNat,hz⟩)else .non
  |_=>.non
 have ir:dP fs ρ st=.ok (gC 0 n,none) st:=by
  have:=jw hr #[0]
  rw[bV]at this
  exact this
 have hc:=DJ (fi:=dP fs) (f:=jD 0) (el:=el) (cap:=cap) (ρ:=ρ) Y ir (by rw[fE];show _<=1000000;omega) trivial fun w hw=>by
  obtain⟨i,hi,rfl⟩:=xM hw
  refine⟨_,rfl,?_⟩
  rw[show((0:Int)+(i:Int))=(i:Int) by omega]
  show _=R.ok (if hz:(i:Int).toNat<n then V (f ⟨(i:Int).toNat,hz⟩)else .non) st
  rw[dif_pos (show(i:Int).toNat<n by omega)]
  exact(hf ⟨i,hi⟩).2
 refine⟨List.ofFn f,by simp,fun i b hb=>?_,?_⟩
 ·obtain⟨h1,h2⟩:=au.mp hb
  rw[List.getElem_ofFn]at h2
  rw[<- h2]
  exact(hf ⟨i,by simpa using h1⟩).1
 ·rw[hc]
  have e:(gC 0 n).map Y=(List.ofFn f).map V:=by
   refine List.ext_getElem (by simp[fE]) fun i h1 h2=>?_
   have hi:i<n:=by simpa[fE]using h1
   rw[mP,mP,List.getElem_ofFn]
   unfold gC
   rw[mP,List.getElem_range,show((0:Int)+(i:Int))=(i:Int) by omega]
   show(if hz:(i:Int).toNat<n then V (f ⟨(i:Int).toNat,hz⟩)else .non)=_
   rw[dif_pos (show(i:Int).toNat<n by omega)]
  rw[e]
theorem HF(V:β->W)(Pb:Nat->β->Prop)(hr:fs ρ st=.ok [.int n] st)(hn:n<=100000)(h:∀i:Nat,i<n->∃b,Pb i b/\el ((sX cap ρ).set 0 (some (.int i))) st=.ok (V b) st) :
  ∃r:List β,r.length=n/\(∀i b,r[i]?=some b->Pb i b)/\bE i8 (ai (j3 cap (dP fs) (jD 0) wP el) aD) ρ st=.ok (.tup (r.map V)) (st++[.lst (r.map V)]):=by
 obtain⟨r,h1,h2,e⟩:=Kw (cap:=cap) (el:=el) V Pb hr hn h
 exact⟨r,h1,h2,cC (aw e aZ) (oM (b6 dz))⟩
end
structure Mc where
 nm:List Nat
 gd:List Bool
 tb:List (List (List Nat))
noncomputable def gO(r:List Nat):W:=.tup (r.map fun k=>W.int (k:Nat))
def w4(t:List (List Nat)):W:=.tup (t.map gO)
def Mc.w(M:Mc):W:=.tup [.str M.nm,.tup (M.gd.map W.bl),.tup (M.tb.map w4)]
def Uz(n:Nat)(t:List (List Nat)):Prop:=t.length=n/\∀r∈t,r.length=n/\∀k∈r,k<n
structure mz(M:Mc)(n:Nat):Prop where
 gd:M.gd.length=n
 tb:M.tb.length=2^M.nm.length
 t:∀t∈M.tb,Uz n t
theorem uW(r:List Nat)(n:Nat):(gO r).und n=true:=by
 unfold gO W.und
 induction r with
 |nil=>rfl
 |cons x r ih=>simp only[aU,undWs,ih,dM];rfl
theorem Kx(t:List (List Nat))(n:Nat):(w4 t).und n=true:=by
 unfold w4 W.und
 induction t with
 |nil=>rfl
 |cons x r ih=>simp only[aU,undWs,ih,dM];exact uW x n
theorem HG(t:List (List (List Nat)))(n:Nat):undWs n (t.map w4)=true:=by
 induction t with
 |nil=>rfl
 |cons x r ih=>simp only[aU,undWs,ih,dM];exact Kx x n
theorem Ky(t:List Bool)(n:Nat):undWs n (t.map W.bl)=true:=by
 induction t with
 |nil=>rfl
 |cons x r ih=>simp only[aU,undWs,ih,dM];rfl
theorem HH(M:Mc)(n:Nat):M.w.und n=true:=by
 unfold Mc.w
 simp[W.und,undWs,HG,Ky]
theorem F3{c:Nat}(h:c<=100):Aq (.int 1) (.int c) st=.ok (.int ((2^c:Nat):Int)) st:=by
 have:=jv (C:=fun i j=>0<=j/\j<=1000000/\i.natAbs<2^64) (f:=fun i j=>i*2^j.toNat) (p:=1) (q:=(c:Int)) (st:=st) ⟨by omega,by omega,by decide⟩
 rw[show Aq (.int 1) (.int c) st=_ from this]
 simp
theorem mi{s:List al}{p:Nat}{y:W}(h:s[p]?=some (.lst ws))(hl:ws.length<1000000):bU (.loc p) [y] s=.ok .non (s.set p (.lst (ws++[y]))):=nJ h hl
theorem OK(h:q<n):De n (q:Int)=some q:=by
 unfold De
 rw[aE #[0],aE #[0]];simp
theorem CD{s:List al}{p q:Nat}{v:W}(h:s[p]?=some (.lst ws))(hq:q<ws.length):qi (.loc p) (.int q) v s=some (s.set p (.lst (ws.set q v))):=NK h (OK hq)
theorem OL{s:List al}:xB [.tup ws] s=.ok (.loc s.length) (s++[.lst ws]):=rfl
noncomputable def nW(l:List Nat):List W:=l.map fun k=>W.int (k:Nat)
theorem xZ{s:List al}{p:Nat}{k:Nat}(h:s[p]?=some (.lst (nW l)))(e:l[i]?=some k):bj (.loc p) (.int i) s=.ok (.int k) s:=j6 (b6 h) (gk (by rw[nW,aJ,e];rfl))
theorem HI{s:List al}{k:Nat}(e:l[i]?=some k):bj (gO l) (.int i) s=.ok (.int k) s:=oJ (gk (by rw[aJ,e];rfl))
theorem HJ{s:List al}{t:List (List Nat)}{r:List Nat}(e:t[i]?=some r):bj (w4 t) (.int i) s=.ok (gO r) s:=oJ (gk (by rw[aJ,e];rfl))
theorem v3{f:FG}{ρ':cM}{w:W}(h:fe ρ st=.ok w st1)(h2:f w ρ=some ρ'):uu fe f ρ st=.nx ρ' st1:=by
 unfold uu;rw[h];simp only[R.stmt_ok];rw[h2]
theorem HK{c:Nat}:Fg false (.str [c]) (.str l) st=.ok (.bl (decide (c∈l))) st:=rfl
theorem zp{st1:List al}(h:fe ρ st=.ok (.str l) st1):gy fe ρ st=.ok (iE l,none) st1:=by unfold gy;rw[h];rfl
theorem A_{w:W}(h:(iE l)[i]?=some w):∃c,l[i]?=some c/\w=.str [c]:=by
 simp only[iE,aJ,fm]at h
 obtain⟨c,h1,rfl⟩:=h
 exact⟨c,h1,rfl⟩
theorem tH(l:List Nat):(iE l).length=l.length:=by simp[iE]
theorem pT{l:List α}{c:α}(h:l[i]?=some c):l.take (i+1)=l.take i++[c]:=by
 rw[List.take_succ,h];rfl
noncomputable def ku(m:List Nat)(l:List Nat):Nat:=l.foldl (fun a c=>2*a+if c∈m then 1 else 0) 0
theorem x5(m l:List Nat)(c:Nat):ku m (l++[c])=2*ku m l+if c∈m then 1 else 0:=by unfold ku;rw[List.foldl_append];rfl
theorem DQ(m:List Nat)(l:List Nat):ku m l<2^l.length:=by
 have key:∀(l:List Nat) (a k:Nat),a<2^k->l.foldl (fun a c=>2*a+if c∈m then 1 else 0) a<2^(k+l.length):=by
  intro l
  induction l with
  |nil=>intro a k h;simpa using h
  |cons c r ih=>
   intro a k h
   have:=ih (2*a+if c∈m then 1 else 0) (k+1) (by rw[Nat.pow_succ];split<;>omega)
   rw[List.foldl_cons,bg,show k+(r.length+1)=k+1+r.length by omega];exact this
 have:=key l 0 0 #[15]
 simpa[ku]using this
theorem EU(names m:List Nat)(st:List al):Hy [.str names,.str m] st=.ok (.int (ku m names:Nat)) st:=by
 refine f9 (N:=4) (ws:=[.str names,.str m]) (body:=Rp) ?_ rfl
 apply aA
 ·(walk_at "evs")
 refine gb (fun i ρ s=>∃o3:Option W,ρ=[some (.str names),some (.str m),some (.int (ku m (names.take i):Nat)),o3]/\s=st) (zp (st1:=st) kv) ⟨none,rfl,rfl⟩ (fun _ _ _ _=>trivial) ?_ ?_
 ·rintro i w ρ s hw ⟨o3,rfl,rfl⟩
  obtain⟨c,hc,rfl⟩:=A_ hw
  refine⟨_,rfl,?_⟩
  have e:=x5 m (names.take i) c
  rw[<- pT hc]at e
  apply aA
  ·exact a_ (bu kv bW (qF (.inr #[12])))
  by_cases h:c∈m
  ·have t1:decide (c∈m)=true:=bw h
   rw[aE h]at e
   apply ud
   ·exact a7 (bu kv kv (by rw[HK,t1]))
   apply dw
   ·exact a_ (bu kv bW dX)
   ·exact⟨_,_,rfl,_,by rw[e,eJ,iX,nC];rfl,rfl⟩
  ·have t1:decide (c∈m)=false:=aW h
   rw[aL h]at e
   apply oK
   ·exact a7 (bu kv kv (by rw[HK,t1]))
   apply dw
   ·exact d7
   ·exact⟨_,_,rfl,_,by rw[e,eJ,iX,nC];rfl,rfl⟩
 ·rintro ρ s ⟨o3,rfl,rfl⟩
  apply bQ
  ·(walk_at "evs")
  ·exact⟨_,_,rfl,by rw[show(iE names,(none:Option (Nat×List W))).fst.length=names.length from tH names,dR],[],by simp⟩
theorem CF(names m:List Nat)(st:List al):xU [.str names,.str m] st=.ok (.int (ku m names:Nat)) st:=by
 refine f9 (N:=4) (ws:=[.str names,.str m]) (body:=LZ) ?_ rfl
 apply aA
 ·(walk_at "evs")
 refine gb (fun i ρ s=>∃o3:Option W,ρ=[some (.str names),some (.str m),some (.int (ku m (names.take i):Nat)),o3]/\s=st) (zp (st1:=st) kv) ⟨none,rfl,rfl⟩ (fun _ _ _ _=>trivial) ?_ ?_
 ·rintro i w ρ s hw ⟨o3,rfl,rfl⟩
  obtain⟨c,hc,rfl⟩:=A_ hw
  refine⟨_,rfl,?_⟩
  have e:=x5 m (names.take i) c
  rw[<- pT hc]at e
  have bi:EI [.bl (decide (c∈m))] s=.ok (.int ((if c∈m then 1 else 0:Nat):Int)) s:=by
   by_cases h:c∈m
   ·rw[bw h,aE h];rfl
   ·rw[aW h,aL h];rfl
  apply dw
  ·exact a_ (bu (bu bW kv (qF (.inl #[12]))) (cC (aw (bu kv kv HK) aZ) bi) dX)
  ·exact⟨_,_,rfl,_,by rw[e,eJ,iX];rfl,rfl⟩
 ·rintro ρ s ⟨o3,rfl,rfl⟩
  apply bQ
  ·(walk_at "evs")
  ·exact⟨_,_,rfl,by rw[show(iE names,(none:Option (Nat×List W))).fst.length=names.length from tH names,dR],[],by simp⟩
noncomputable def zq(r:List Nat):Option Nat->Nat
 |none=>0
 |some k=>r.getD k 0
def uX(M:Mc)(r:List Nat)(m:List Nat)(x:Option Nat×Option Nat):Nat:=((M.tb.getD (ku m M.nm) []).getD (zq r x.1) []).getD (zq r x.2) 0
def EV(M:Mc):List Pl->List #[7]->List Nat->List Nat
 |p::ps,x::xs,r=>EV M ps xs (r++[uX M r p.m x])
 |_,_,r=>r
def HL(n:Nat)(x:Option Nat×Option Nat):Prop:=(∀k,x.1=some k->k<n)/\∀k,x.2=some k->k<n
theorem A'(r:List Nat)(o:Option Nat)(p:Nat)(st:List al)(hc:st[p]?=some (.lst (nW r)))(ho:∀k,o=some k->k<r.length):xP [.loc p,oW o] st=.ok (.int (zq r o:Nat)) st:=by
 cases o with
 |none=>
  apply dQ
  apply bQ
  ·exact t9 (a7 (AD kv rfl)) bW
  ·exact⟨_,_,rfl,rfl,rfl⟩
 |some k=>
  have hk:=ho k rfl
  have e:r[k]?=some (r.getD k 0):=by rw[aO,aq hk];rfl
  apply dQ
  apply bQ
  ·exact t_ (a7 (AD kv rfl)) (bu kv kv (xZ hc e))
  ·exact⟨_,_,rfl,rfl,rfl⟩
theorem Gr.lk{ps:List Pl}{sz:List Nat}{lk:List #[7]}(h:Gr ps S sz lk)(hx:lk[i]?=some x):HL i x:=by
 obtain⟨_,l2,_⟩:=h.ok
 have hi:i<ps.length:=by have:=(au.mp hx).1;omega
 obtain⟨S1,S2,p,k,x',g1,q1,q2,q3,hs,g2⟩:=h.step i hi
 rw[hx]at q3;cases q3
 obtain⟨_,_,ha⟩:=g1.ok
 rw[show(ps.take i).length=i by rw[aM];omega]at ha
 obtain⟨b,m⟩:=p
 cases hs with
 |z=>exact⟨fun k e=>by simp at e,fun k e=>by simp at e⟩
 |@l a S=>have:=ha.2.1;have:=ha.2.2.1;exact⟨fun k e=>by simp at e;omega,fun k e=>by simp at e⟩
 |@r a S=>have:=ha.2.1;have:=ha.2.2.1;exact⟨fun k e=>by simp at e,fun k e=>by simp at e;omega⟩
 |@b c a S=>have:=ha.2.1;have:=ha.2.2.1;exact⟨fun k e=>by simp at e;omega,fun k e=>by simp at e;omega⟩
theorem Ba(M:Mc)(p:Pl)(x:Option Nat×Option Nat):∀(ps:List Pl) (lk:List #[7]) (r:List Nat),ps.length=lk.length->EV M (ps++[p]) (lk++[x]) r=EV M ps lk r++[uX M (EV M ps lk r) p.m x]
 |[],[],r,_=>rfl
 |q::ps,y::lk,r,h=>by
  show EV M (ps++[p]) (lk++[x]) _=_
  rw[Ba M p x ps lk _ (by simpa using h)];rfl
 |[],_::_,_,h=>by simp at h
 |_::_,[],_,h=>by simp at h
def gP(M:Mc)(ps:List Pl)(lk:List #[7]):List Nat:=EV M ps lk []
theorem HM{r:List Nat}{o:Option Nat}(hn:1<=n)(hr:∀k∈r,k<n)(ho:∀k,o=some k->k<r.length):zq r o<n:=by
 cases o with
 |none=>exact hn
 |some k=>
  have hk:=ho k rfl
  have e:r[k]?=some (r.getD k 0):=by rw[aO,aq hk];rfl
  exact hr _ (cw e)
theorem CG{M:Mc}{r:List Nat}{m:List Nat}(hM:mz M n)(hn:1<=n)(hr:∀k∈r,k<n)(hx:HL r.length x) :
  ∃t q,M.tb[ku m M.nm]?=some t/\t[zq r x.1]?=some q/\q[zq r x.2]?=some (uX M r m x)/\uX M r m x<n:=by
 have h1:ku m M.nm<M.tb.length:=by rw[hM.tb];exact DQ m M.nm
 have e1:M.tb[ku m M.nm]?=some (M.tb.getD (ku m M.nm) []):=by rw[aO,aq h1];rfl
 obtain⟨t1,t2⟩:=hM.t _ (cw e1)
 have h2:zq r x.1<(M.tb.getD (ku m M.nm) []).length:=by rw[t1];exact HM hn hr hx.1
 have e2:(M.tb.getD (ku m M.nm) [])[zq r x.1]?=some ((M.tb.getD (ku m M.nm) []).getD (zq r x.1) []):=by rw[aO (l:=M.tb.getD (ku m M.nm) []),aq h2];rfl
 obtain⟨t3,t4⟩:=t2 _ (cw e2)
 have h3:zq r x.2<((M.tb.getD (ku m M.nm) []).getD (zq r x.1) []).length:=by rw[t3];exact HM hn hr hx.2
 have e3:((M.tb.getD (ku m M.nm) []).getD (zq r x.1) [])[zq r x.2]?=some (uX M r m x):=by unfold uX;rw[aO (l:=(M.tb.getD (ku m M.nm) []).getD (zq r x.1) []),aq h3];rfl
 exact⟨_,_,e1,e2,e3,t4 _ (cw e3)⟩
theorem HN{M:Mc}{k:Nat}{t:List (List Nat)}(h:M.tb[k]?=some t)(st:List al):bj (.tup (M.tb.map w4)) (.int k) st=.ok (w4 t) st:=oJ (gk (by rw[aJ,h];rfl))
theorem L7{M:Mc}{r:List Nat}{m:List Nat}{p:Nat}(hM:mz M n)(hn:1<=n)(hr:∀k∈r,k<n)(hx:HL r.length x)(st:List al)(hc:st[p]?=some (.lst (nW r))) :
  rQ [M.w,.str m,gE x,.loc p] st=.ok (.int (uX M r m x:Nat)) st:=by
 obtain⟨t,q,e1,e2,e3,_⟩:=CG (m:=m) hM hn hr hx
 have g0:bj M.w (.int 0) st=.ok (.str M.nm) st:=rfl
 have g2:bj M.w (.int 2) st=.ok (.tup (M.tb.map w4)) st:=rfl
 have x0:bj (gE x) (.int 0) st=.ok (oW x.1) st:=rfl
 have x1:bj (gE x) (.int 1) st=.ok (oW x.2) st:=rfl
 have lt:=EU M.nm m st
 have b1:=A' r x.1 p st hc hx.1
 have b2:=A' r x.2 p st hc hx.2
 apply dQ
 apply aA
 ·exact a_ (bu (bu kv bW g2) (cy (aw (bu kv bW g0) kn) lt rfl) (HN e1 st))
 apply bQ
 ·exact bu (bu kv (cy (aw kv (aw (bu kv bW x0) aZ)) b1 rfl) (HJ e2)) (cy (aw kv (aw (bu kv bW x1) aZ)) b2 rfl) (HI e3)
 ·exact⟨_,_,rfl,rfl,rfl⟩
section
variable{ps:List Pl}{sz:List Nat}{lk:List #[7]}{M:Mc}
theorem m7(h:Gr ps S sz lk){p:Pl}(hp:ps[i]?=some p)(hx:lk[i]?=some x):gP M (ps.take (i+1)) (lk.take (i+1))=gP M (ps.take i) (lk.take i)++[uX M (gP M (ps.take i) (lk.take i)) p.m x]:=by
 obtain⟨_,l2,_⟩:=h.ok
 unfold gP
 rw[pT hp,pT hx,Ba M p x _ _ _ (by rw[aM,aM,l2])]
theorem m8(h:Gr ps S sz lk)(hM:mz M n)(hn:1<=n):∀i,i<=ps.length->(gP M (ps.take i) (lk.take i)).length=i/\∀k∈gP M (ps.take i) (lk.take i),k<n:=by
 obtain⟨_,l2,_⟩:=h.ok
 intro i
 induction i with
 |zero=>intro _;exact⟨rfl,by simp[gP,EV]⟩
 |succ i ih=>
  intro hi
  obtain⟨h1,h2⟩:=ih #[0]
  obtain⟨p,hp⟩:∃p,ps[i]?=some p:=⟨_,aq #[0]⟩
  obtain⟨x,hx⟩:∃x,lk[i]?=some x:=⟨_,aq #[0]⟩
  obtain⟨_,_,_,_,_,e⟩:=CG (m:=p.m) hM hn h2 (by rw[h1];exact h.lk hx)
  rw[m7 h hp hx]
  refine⟨by simp[h1],fun k hk=>?_⟩
  rcases aX.mp hk with z|z
  ·exact h2 k z
  ·simp at z;subst z;exact e
theorem OM{a b:List W}{w:W}(h:(qD a b)[i]?=some w):∃x y,a[i]?=some x/\b[i]?=some y/\w=.tup [x,y]:=vD h
theorem RV{fs:FA}{st1:List al}{xs ys:List W}(h:fs ρ st=.ok [.tup xs,.tup ys] st1):yP fs ρ st=.ok (qD xs ys,none) st1:=by unfold yP;rw[h];rfl
theorem HP(h:Gr ps S sz lk)(hl:ps.length<=900)(hM:mz M n)(hn:1<=n)(st:List al):nN [M.w,b_ ps] st=.ok (gO (gP M ps lk)) st:=by
 obtain⟨_,l2,_⟩:=h.ok
 have lo:=rZ h #[0] (st++[al.lst []])
 refine f9 (N:=5) (ws:=[M.w,b_ ps]) (body:=LS) ?_ (by simp only[undWs,dM];exact uW _ _)
 apply aA
 ·(walk_at "evs")
 refine gb (fun i ρ s=>∃(o3 o4:Option W),ρ=[some M.w,some (b_ ps),some #[5],o3,o4]/\st <+: s/\s[st.length]?=some (.lst (nW (gP M (ps.take i) (lk.take i))))/\i<=ps.length) (k:=(qD (ps.map Pl.w) (lk.map gE),none))
  (RV (st1:=st++[al.lst []]) (aw kv (aw (cy kn lo rfl) aZ))) ⟨none,none,rfl,be _ _,dz,cn _⟩ (fun _ _ _ _=>trivial) ?_ ?_
 ·rintro i w ρ s hw ⟨o3,o4,rfl,hp,hc,hi⟩
  obtain⟨a,b,ha,hb,rfl⟩:=OM hw
  have hip:i<ps.length:=by have:=(au.mp ha).1;simpa using this
  obtain⟨p,zR⟩:∃p,ps[i]?=some p:=⟨_,aq hip⟩
  obtain⟨x,hx⟩:∃x,lk[i]?=some x:=⟨_,aq #[0]⟩
  rw[aJ,zR]at ha;cases ha
  rw[aJ,hx]at hb;cases hb
  refine⟨_,rfl,?_⟩
  obtain⟨r1,r2⟩:=m8 (M:=M) h hM hn i hi
  have ra:=L7 (m:=p.m) hM hn r2 (by rw[r1];exact h.lk hx) s hc
  have ap:=mi (y:=.int (uX M (gP M (ps.take i) (lk.take i)) p.m x:Nat)) hc (by simp[nW];omega)
  apply dw
  ·exact d6 (ik kv (dv hc) (aw (cy (aw kv (aw (bu kv bW (CB p s)) (aw kv kn))) ra rfl) aZ) ap)
  ·refine⟨_,_,rfl,_,_,rfl,r9 hp (az _),?_,by omega⟩
   rw[d9 hc,m7 h zR hx];simp[nW]
 ·rintro ρ s ⟨o3,o4,rfl,⟨x,rfl⟩,hc,hi⟩
  rw[show(qD (ps.map Pl.w) (lk.map gE),(none:Option (Nat×List W))).fst.length=ps.length by rw[vE];simp[l2],dR,show ps.length=lk.length by omega,dR]at hc
  apply bQ
  ·exact cC kn (oM (b6 hc))
  ·exact⟨_,_,rfl,rfl,x,rfl⟩
end
theorem HQ(l:List Nat)(k:Nat)(st:List al):lU (k+1) [.str l,.str l] st=.ok (.bl true) st:=by
 refine f9 (N:=3) (ws:=[.str l,.str l]) (body:=DM (lU k)) ?_ rfl
 (walk_at "go")
 apply bQ
 ·apply yS
  ·(walk_at "evs")
  ·(walk_at "evs")
 ·exact⟨_,_,rfl,by simp,[],by simp⟩
theorem Bb{k:Nat}(hl:ws.length<=1000)(h:∀w∈ws,lU k [w,w] st=.ok (.bl true) st):lU (k+1) [.tup ws,.tup ws] st=.ok (.bl true) st:=by
 refine f9 (N:=3) (ws:=[.tup ws,.tup ws]) (body:=DM (lU k)) ?_ rfl
 apply fy
 ·(walk_at "evs")
 apply pS
 apply bO
 ·apply pR
  ·(walk_at "evs")
  ·(walk_at "evs")
   simp
 apply cv
 apply pS
 refine gb (fun i ρ bn=>∃o,ρ=[some (.tup ws),some (.tup ws),o]/\bn=st) (jw (by(walk_at "evs")) #[0]) ⟨none,rfl,rfl⟩ (fun _ _ _ _=>trivial) ?_ ?_
 ·rintro i w ρ bn hw ⟨o,rfl,rfl⟩
  obtain⟨hi,rfl⟩:=jK hw
  refine⟨_,rfl,?_⟩
  have hi':i<ws.length:=by simpa using hi
  have hat:bj (.tup ws) (.int (0+(i:Int))) bn=.ok ws[i] bn:=oJ (by rw[kT];exact gk (by simp[hi']))
  have hs:=h ws[i] (eQ _)
  apply oK
  ·(walk_at "evs")
  apply dw
  ·(walk_at "evs")
  ·exact⟨_,_,rfl,_,rfl,rfl⟩
 ·rintro ρ bn ⟨o,rfl,rfl⟩
  apply eG
  ·(walk_at "evs")
  ·exact⟨_,_,rfl,rfl,[],by simp⟩
theorem Bc(z:Int)(k:Nat)(st:List al):lU (k+1) [.int z,.int z] st=.ok (.bl true) st:=by
 have hb:iN (.int z) (.int z) st=.ok (.bl true) st:=gj #[15]
 refine f9 (N:=3) (ws:=[.int z,.int z]) (body:=DM (lU k)) ?_ rfl
 apply bO
 ·(walk_at "evs")
 apply cv
 apply bO
 ·(walk_at "evs")
 apply cv
 apply bO
 ·(walk_at "evs")
 apply cv
 apply fy
 ·(walk_at "evs")
 apply eG
 ·apply yS
  ·(walk_at "evs")
  ·apply yS
   ·(walk_at "evs")
   ·(walk_at "evs")
 ·exact⟨_,_,rfl,by simp,[],by simp⟩
def Sm(w:W):Prop:=∀st,lU 40 [w,w] st=.ok (.bl true) st
theorem HR(z:Int):Sm (.int z):=fun st=>Bc z 39 st
section
variable{ps:List Pl}{sz:List Nat}{lk:List #[7]}{M:Mc}
theorem Bd{r:List Nat}{k:Nat}{o:Option Nat}(h:∀j,o=some j->j<k):zq (r.take k) o=zq r o:=by
 cases o with
 |none=>rfl
 |some j=>show(r.take k).getD j 0=r.getD j 0;rw[aO,aO,cO (h j rfl)]
theorem x6(h:Gr ps S sz lk)(hM:mz M n)(hn:1<=n):∀i,i<=ps.length->(gP M ps lk).take i=gP M (ps.take i) (lk.take i):=by
 obtain⟨_,l2,_⟩:=h.ok
 have key:∀d i,i+d=ps.length->(gP M ps lk).take i=gP M (ps.take i) (lk.take i):=by
  intro d
  induction d with
  |zero=>
   intro i hi
   have e1:ps.take i=ps:=bB #[0]
   have e2:lk.take i=lk:=bB #[0]
   have hg:=(m8 (M:=M) h hM hn i #[0]).1
   rw[e1,e2]at hg ⊢
   exact bB #[0]
  |succ d ih=>
   intro i hi
   have e:=ih (i+1) #[0]
   obtain⟨p,hp⟩:∃p,ps[i]?=some p:=⟨_,aq #[0]⟩
   obtain⟨x,hx⟩:∃x,lk[i]?=some x:=⟨_,aq #[0]⟩
   rw[m7 h hp hx]at e
   have hg:=(m8 (M:=M) h hM hn i #[0]).1
   have e2:=ib (List.take i) e
   rw[pH,gQ #[0],cF #[0]]at e2
   rw[e2];exact bB #[0]
 intro i hi
 exact key (ps.length-i) i #[0]
theorem x8(h:Gr ps S sz lk)(hM:mz M n)(hn:1<=n):(gP M ps lk).length=ps.length/\∀k∈gP M ps lk,k<n:=by
 obtain⟨_,l2,_⟩:=h.ok
 have:=m8 (M:=M) h hM hn ps.length (az _)
 rw[dR,show ps.length=lk.length by omega,dR]at this
 exact⟨by rw[this.1];omega,this.2⟩
theorem HS(h:Gr ps S sz lk)(hM:mz M n)(hn:1<=n){i:Nat}{p:Pl}{x:Option Nat×Option Nat}(hp:ps[i]?=some p)(hx:lk[i]?=some x):(gP M ps lk)[i]?=some (uX M (gP M ps lk) p.m x):=by
 have hi:i<ps.length:=(au.mp hp).1
 have e:=x6 (M:=M) h hM hn (i+1) #[0]
 rw[m7 h hp hx,<- x6 (M:=M) h hM hn i #[0]]at e
 have Pw:=h.lk hx
 have e3:uX M ((gP M ps lk).take i) p.m x=uX M (gP M ps lk) p.m x:=by unfold uX;rw[Bd Pw.1,Bd Pw.2]
 rw[e3]at e
 have hl:=(x8 (M:=M) h hM hn).1
 have:=ib (fun l=>l[i]?) e
 simp only[cO (show i<i+1 by omega)]at this
 rw[this,aY (by rw[aM];omega),aM,show i-min i (gP M ps lk).length=0 by omega];rfl
end
section
variable{ps:List Pl}{sz:List Nat}{lk:List #[7]}
theorem ON{fs:FA}(h:fs ρ st=.ok [.tup ws] st1):qC fs ρ st=.ok (lT ws,none) st1:=by unfold qC;rw[h];rfl
end
section
variable{ps:List Pl}{sz:List Nat}{lk:List #[7]}
theorem DR(ps:List Pl)(hn:ps.length<=1000)(hρ:ρ[0]?=some (some (b_ ps)))(st:List al):j3 [none] (gy (ag 0)) (jD 0) wP (eC .non) ρ st=.ok #[5] (st++[.lst ((List.replicate ps.length none).map oW)]):=by
 have:=DJ (cap:=[none]) (f:=jD 0) (el:=eC .non) (ρ:=ρ) (st:=st) (fun _=>.non) (uT (fe:=ag 0) (ws:=ps.map Pl.w) (st1:=st) (ju hρ)) (by rw[aF];show _<=1000000;omega) trivial fun w _=>⟨_,rfl,bW⟩
 rw[this,List.map_replicate,b9]
 congr 4
 exact List.map_const' ..
def Up(lk:List #[7])(f:Option Nat×Option Nat->Option Nat)(i:Nat)(l:List (Option Nat)):Prop:=
 (∀p u:Nat,l[p]?=some (some u)->∃x,lk[u]?=some x/\f x=some p)/\∀u x p,u<i->lk[u]?=some x->f x=some p->∃v,l[p]?=some (some v)
theorem Up.zero{k:Nat}:Up lk f 0 (List.replicate k none):=⟨fun p u e=>by
 rw[jf]at e
 split at e<;>simp at e,fun u x p h=>absurd h #[0]⟩
theorem Up.skip{l:List (Option Nat)}(h:Up lk f i l)(hx:lk[i]?=some x)(hf:f x=none):Up lk f (i+1) l:=⟨h.1,fun u y p hu hy hp=>by
 by_cases e:u=i
 ·subst e;rw[hx]at hy;cases hy;rw[hf]at hp;cases hp
 ·exact h.2 u y p #[0] hy hp⟩
theorem Up.put{l:List (Option Nat)}(h:Up lk f i l)(hx:lk[i]?=some x)(hf:f x=some q)(hq:q<l.length):Up lk f (i+1) (l.set q (some i)):=⟨fun p u e=>by
 by_cases z:q=p
 ·subst z
  rw[cr hq]at e
  cases e;exact⟨x,hx,hf⟩
 ·rw[cX z]at e;exact h.1 p u e,fun u y p hu hy hp=>by
 by_cases z:q=p
 ·subst z;exact⟨i,cr hq⟩
 ·rw[cX z]
  by_cases e:u=i
  ·subst e;rw[hx]at hy;cases hy;rw[hf]at hp;exact absurd (bq hp) z
  ·exact h.2 u y p #[0] hy hp⟩
theorem OO(h:Gr ps S sz lk)(hn:ps.length<=900)(st:List al):∃(A B:List (Option Nat)) (x:List al),A.length=ps.length/\B.length=ps.length/\Up lk Prod.fst ps.length A/\Up lk Prod.snd ps.length B/\(st++x)[st.length]?=some (.lst (A.map oW))/\(st++x)[st.length+1]?=some (.lst (B.map oW))/\Hz [b_ ps] st=.ok (.tup [.loc st.length,.loc (st.length+1)]) (st++x):=by
 obtain⟨l1,l2,_⟩:=h.ok
 suffices hh:kI (zO fun w bn=>w=.tup [.loc st.length,.loc (st.length+1)]/\st <+: bn/\∃(A B:List (Option Nat)),A.length=ps.length/\B.length=ps.length/\Up lk Prod.fst ps.length A/\Up lk Prod.snd ps.length B/\bn[st.length]?=some (.lst (A.map oW))/\bn[st.length+1]?=some (.lst (B.map oW))) (N7 ([b_ ps].map some++List.replicate (5-1) none) st) by
  obtain⟨w,s',e,rfl,⟨x,rfl⟩,A,B,a1,a2,a3,a4,a5,a6⟩:=hh
  refine⟨A,B,x,a1,a2,a3,a4,a5,a6,?_⟩
  have:=jt (N:=5) (body:=N7) (ws:=[b_ ps]) e
  rw[xK (by simp[undWs,W.und])]at this
  exact this
 have eA:=DR ps #[0] (ρ:=[some (b_ ps),none,none,none,none]) rfl st
 apply aA
 ·exact v3 eA rfl
 generalize hA0:List.replicate ps.length (none:Option Nat)=A0 at *
 have eB:=DR ps #[0] (ρ:=[some (b_ ps),lO st.length,none,none,none]) rfl (st++[.lst (A0.map oW)])
 rw[hA0]at eB
 apply aA
 ·exact v3 eB rfl
 rw[show(st++[al.lst (A0.map oW)]).length=st.length+1 by simp]
 have lA0:A0.length=ps.length:=by rw[<- hA0];simp
 have uA:∀f,Up lk f 0 A0:=fun f=>by rw[<- hA0];exact Up.zero
 have hlk:=rZ h #[0] (st++[al.lst (A0.map oW)]++[.lst (A0.map oW)])
 refine gb (fun i ρ s=>∃(o3 o4:Option W) (A B:List (Option Nat)),ρ=[some (b_ ps),lO st.length,lO (st.length+1),o3,o4]/\st <+: s/\A.length=ps.length/\B.length=ps.length/\s[st.length]?=some (.lst (A.map oW))/\s[st.length+1]?=some (.lst (B.map oW))/\Up lk Prod.fst i A/\Up lk Prod.snd i B) (k:=(lT (lk.map gE),none))
  (st1:=st++[al.lst (A0.map oW)]++[.lst (A0.map oW)]) (ON (aw (cy kn hlk rfl) aZ)) ⟨none,none,A0,A0,rfl,zn (zn (am _)),lA0,lA0,cJ dz,by rw[show st.length+1=(st++[al.lst (A0.map oW)]).length by simp];exact dz,uA _,uA _⟩ (fun _ _ _ _=>trivial) ?_ ?_
 ·rintro i w ρ s hw ⟨o3,o4,A,B,rfl,hp,hA,hB,cA,cB,uA,uB⟩
  obtain⟨y,hy,rfl⟩:=sY hw
  rw[aJ]at hy
  obtain⟨x,hx,rfl⟩:=fm.mp hy
  obtain⟨k1,k2⟩:=h.lk hx
  have hi:i<ps.length:=by have:=(au.mp hx).1;omega
  refine⟨_,rfl,?_⟩
  obtain⟨a,b⟩:=x
  have last:∀(s:List al) (A:List (Option Nat)),st <+: s->A.length=ps.length->s[st.length]?=some (.lst (A.map oW))->s[st.length+1]?=some (.lst (B.map oW))->Up lk Prod.fst (i+1) A->kI (Kr fun ρ s=>∃(o3 o4:Option W) (A B:List (Option Nat)),ρ=[some (b_ ps),lO st.length,lO (st.length+1),o3,o4]/\st <+: s/\A.length=ps.length/\B.length=ps.length/\s[st.length]?=some (.lst (A.map oW))/\s[st.length+1]?=some (.lst (B.map oW))/\Up lk Prod.fst (i+1) A/\Up lk Prod.snd (i+1) B)
    (fO (eF (gu (e2 bj (ag 4) (eI 1)))) (wO (ag 2) (e2 bj (ag 4) (eI 1)) (ag 3) qi) bK [some (b_ ps),lO st.length,lO (st.length+1),iO (i:Nat),some (gE (a,b))] s):=by
   intro s A hp hA cA cB uA
   cases b with
   |none=>
    apply oK
    ·exact a7 (dU kx rfl)
    ·exact⟨_,_,rfl,_,_,A,B,rfl,hp,hA,hB,cA,cB,uA,uB.skip hx rfl⟩
   |some q=>
    have:=k2 q rfl
    apply ud
    ·exact a7 (dU kx rfl)
    apply dw
    ·exact AE kv kv kx (CD (q:=q) cB (by rw[aF];omega))
    ·exact⟨_,_,rfl,_,_,A,B.set q (some i),rfl,r9 hp #[0],hA,by rw[nT];exact hB,by rw[bH #[0]];exact cA,by rw[d9 cB,sD];rfl,uA,uB.put hx rfl #[0]⟩
  cases a with
  |none=>
   apply bO
   ·exact a7 (dU kx rfl)
   apply cv
   exact last s A hp hA cA cB (uA.skip hx rfl)
  |some q=>
   have:=k1 q rfl
   apply aA
   ·exact cN (a7 (dU kx rfl)) (AE kv kv kx (CD (q:=q) cA (by rw[aF];omega)))
   exact last _ (A.set q (some i)) (r9 hp (az _)) (by rw[nT];exact hA) (by rw[d9 cA,sD];rfl) (by rw[bH #[0]];exact cB) (uA.put hx rfl #[0])
 ·rintro ρ s ⟨o3,o4,A,B,rfl,hp,hA,hB,cA,cB,uA,uB⟩
  rw[show(lT (lk.map gE),(none:Option (Nat×List W))).fst.length=ps.length by rw[xG,aF,l2]]at uA uB
  apply bQ
  ·exact eX (aw kv kn) (ao rfl)
  ·exact⟨_,_,rfl,rfl,hp,A,B,hA,hB,uA,uB,cA,cB⟩
end
theorem EW(l:List α)(d:α)(f:α->β):(List.range l.length).map (fun i=>f (l.getD i d))=l.map f:=by
 refine jz fun i=>?_
 rw[aJ,aJ]
 by_cases h:i<l.length
 ·rw[iI h,aq h]
  show some (f (l.getD i d))=_
  rw[aO,aq h];rfl
 ·rw[cm (by simpa using h),cm #[0]];rfl
theorem lh{l:List α}(d:α)(h:i<l.length):l[i]?=some (l.getD i d):=by
 rw[aO,aq h];rfl
theorem St.ex{n b:Nat}{S:List Nat}(hb:b<=3)(h:(b+1)/2<=S.length):∃S' k x,St n S b S' k x/\S'.length+(b+1)/2=S.length+1:=by
 obtain rfl|rfl|rfl|rfl:b=0\/b=1\/b=2\/b=3:=by omega
 ·exact⟨_,_,_,.z,by simp⟩
 ·match S,h with
  |a::S,_=>exact⟨_,_,_,.l,by simp⟩
 ·match S,h with
  |a::S,_=>exact⟨_,_,_,.r,by simp⟩
 ·match S,h with
  |c::a::S,_=>exact⟨_,_,_,.b,by simp⟩
  |[_],hz=>simp at hz
  |[],hz=>simp at hz
noncomputable def x9(d:Int)(i:Nat):Bool:=Builtin.bitAnd (d/2^i) 1==1
def oZ(pool:List Nat)(d:Int):List Nat:=((List.range pool.length).filter (x9 d)).map fun i=>pool.getD i 0
theorem m9(pool:List Nat)(d:Int):(oZ pool d).Sublist pool:=by
 unfold oZ
 have:((List.range pool.length).map fun i=>pool.getD i 0)=pool:=by
  have:=EW pool 0 (fun x=>x)
  rw[List.map_id']at this;exact this
 conv=>rhs;rw[<- this]
 exact List.Sublist.map _ List.filter_sublist
noncomputable def zt:W->Nat
 |.int i=>i.toNat
 |_=>0
theorem EX(pool:List Nat)(hp:pool.length<=50)(d:Int)(st:List al):A4 [.str pool,.int d] st=.ok (.str (CC (oZ pool d))) st:=by
 have hL:pool.length<=my:=by show _<=1000000;omega
 have hc:=Cp (fi:=dP (ai (bE dI (ai (ag 0) aD)) aD)) (f:=jD 0) (t:=eF (e2 iN (e2 Gj (e2 Nn (ag 2) (ag 0)) (eI 1)) (eI 1))) (el:=e2 bj (ag 1) (ag 0)) (cap:=[none,some 0,some 1]) (ρ:=[some (.str pool),iO d]) (st:=st) (st1:=st) (ws:=gC 0 pool.length) (ck:=none) (fun w=>x9 d (zt w)) (fun w=>.str [pool.getD (zt w) 0])
   (by
    have:=jw (fs:=ai (bE dI (ai (ag 0) aD)) aD) (ρ:=[some (.str pool),iO d]) (st:=st) (st1:=st) (q:=(pool.length:Int)) (aw (cC kn (yT hL)) aZ) #[0]
    rw[bV]at this
    exact this) (by rw[fE];show _<=1000000;omega) trivial fun w hw=>by
   obtain⟨i,hi,rfl⟩:=xM hw
   refine⟨[iO (0+(i:Int)),some (.str pool),iO d],rfl,?_,fun _=>?_⟩
   ·have h0:(0:Int)<=0+(i:Int):=by omega
    have hk:(Builtin.bitAnd (d/2^(0+(i:Int)).toNat) 1==1)=x9 d (zt (.int (0+(i:Int)))):=rfl
    exact a7 (bu (bu (bu kv kv (jv h0)) bW (jv trivial)) bW (gj hk))
   ·refine bu kv kv ?_
    rw[show((0:Int)+(i:Int))=(i:Int) by omega]
    have e2:sK pool (i:Int)=some (pool.getD i 0):=gk (lh 0 hi)
    rw[GI hL e2]
    simp[zt]
 have e:((gC 0 pool.length).filter fun w=>x9 d (zt w)).map (fun w=>W.str [pool.getD (zt w) 0])=((oZ pool d).map fun c=>[c]).map W.str:=by
  unfold gC oZ
  rw[List.filter_map,b9,b9,b9]
  have e1:((fun w=>x9 d (zt w))∘fun k:Nat=>W.int (0+(k:Int)))=x9 d:=by funext k;simp[zt]
  rw[e1]
  refine eY fun k _=>?_
  simp[zt]
 rw[e]at hc
 have hl:(oZ pool d).length<=50:=aN (m9 pool d).length_le hp
 refine f9 (N:=2) (ws:=[.str pool,.int d]) (body:=LV) ?_ rfl
 apply bQ
 ·exact DP hc (b6 dz) #[0]
 ·exact⟨_,_,rfl,rfl,_,by rw[ak]⟩
theorem x_(l:List Nat):kX [] (l.map fun c=>[c])=l:=by
 rw[mC]
 induction l with
 |nil=>rfl
 |cons a r ih=>simp only[aU,l6,ih];rfl
theorem tI(h:l.Nodup):CC l=gi l:=by
 have hp:(gi l).Perm l:=(List.perm_ext_iff_of_nodup ((jr l).imp fun h=>bd h) h).mpr fun d=>jb
 have e:jc (l.map fun c=>[c])=(gi l).map fun c=>[c]:=by
  refine uS (vw _) ?_ ((gD _).trans (hp.map _).symm)
  refine List.pairwise_map.mpr ((jr l).imp fun{a b} h=>?_)
  intro z
  rcases List.cons_lt_cons_iff.mp z with y|⟨y,_⟩<;>omega
 unfold CC
 rw[e,x_]
def EY(pool m:List Nat):Prop:=m.length<=50/\(∀d∈m,d∈pool)/\(pool.Nodup->m.Pairwise (· < ·))
theorem RW(hp:pool.length<=50)(d:Int):EY pool (CC (oZ pool d)):=
 ⟨by rw[DO];exact aN (m9 pool d).length_le hp,fun c hc=>(m9 pool d).subset ((HE _).mem_iff.mp hc),fun h=>by rw[tI ((m9 pool d).nodup h)];exact jr _⟩
theorem OP{f:cM->List al->R Bool}{a b:List al}(h1:f ρ st=.ok false a)(h2:f ρ st=.ok true b):False:=by
 rw[h1]at h2;cases h2
theorem DS{nd:Nat}{ds:List Int}{pool:List Nat}(hd:st[nd]?=some (.lst (zo ds)))(UH:ds.length<=100)(hp:pool.length<=50) :
  ∃ps S sz lk,Gr ps S sz lk/\S.length<=1/\ps.length<=2*ds.length/\(∀p∈ps,EY pool p.m)/\vX [.loc nd,.str pool] st=.ok (b_ ps) st:=by
 suffices hh:kI (zO fun w bn=>(∃x,bn=st++x)/\undWs st.length [w]=true/\∃ps S sz lk,w=b_ ps/\Gr ps S sz lk/\S.length<=1/\ps.length<=2*ds.length/\∀p∈ps,EY pool p.m) (LW ([W.loc nd,.str pool].map some++List.replicate (6-2) none) st) by
  obtain⟨w,⟨ps,S,sz,lk,rfl,h1,h2,h3,h4⟩,e⟩:=rH hh
  exact⟨ps,S,sz,lk,h1,h2,h3,h4,e⟩
 apply aA
 ·(walk_at "evs")
 apply aA
 ·(walk_at "evs")
 have hG:∀A:List W,lstOf (st++[al.lst A]) nd=some (zo ds):=fun A=>b6 (cJ hd)
 refine gb (fun i ρ bn=>∃(ps:List Pl) (S sz:List Nat) (lk:List #[7]) (o5 o6:Option W),ρ=[lO nd,some (.str pool),lO st.length,iO S.length,o5,o6]/\bn=st++[.lst (ps.map Pl.w)]/\Gr ps S sz lk/\ps.length=i/\∀p∈ps,EY pool p.m) (yU (st1:=st++[al.lst []]) (by(walk_at "evs")) (hG []))
  ⟨[],[],[],[],none,none,rfl,rfl,.nil,rfl,by simp⟩ (fun i ρ bn h=>?_) ?_ ?_
 ·obtain⟨ps,S,sz,lk,o5,o6,rfl,rfl,_⟩:=h
  exact hG _
 ·rintro i w ρ bn hw ⟨ps,S,sz,lk,o5,o6,rfl,rfl,hg,kW,hpm⟩
  obtain⟨d,hdd,rfl⟩:∃d,ds[i]?=some d/\w=.int d:=by
   simp only[zo,aJ,fm]at hw
   obtain⟨d,h1,rfl⟩:=hw
   exact⟨d,h1,rfl⟩
  have hi:i<ds.length:=(au.mp hdd).1
  refine⟨_,rfl,?_⟩
  have hc:(st++[al.lst (ps.map Pl.w)])[st.length]?=some (.lst (ps.map Pl.w)):=dz
  obtain⟨b0,hb0,eb0⟩:=iR (q:=d) (n:=4) #[0]
  have eb0:d%4=(b0:Int):=eb0
  apply aA
  ·exact a_ (bu kv bW (jv #[12]))
  rw[eb0]
  refine uU (fun ρ bn=>∃b:Nat,b<=3/\(b+1)/2<=S.length/\ρ=[lO nd,some (.str pool),lO st.length,iO S.length,iO d,iO b]/\bn=st++[.lst (ps.map Pl.w)]) ?_ ?_
  ·by_cases h1:S.length<(b0+1)/2
   ·have t1:decide ((S.length:Int)<((b0:Int)+1)/2)=true:=bw #[0]
    apply ud
    ·exact a7 (bu (bu (bu kv bW dX) bW (jv #[12])) kv (nI t1))
    apply dw
    ·(walk_at "evs")
    ·exact⟨_,_,rfl,0,by omega,by omega,rfl,rfl⟩
   ·have t1:decide ((S.length:Int)<((b0:Int)+1)/2)=false:=aW #[0]
    apply oK
    ·exact a7 (bu (bu (bu kv bW dX) bW (jv #[12])) kv (nI t1))
    apply dw
    ·exact d7
    ·exact⟨_,_,rfl,b0,by omega,by omega,rfl,rfl⟩
  rintro ρ bn ⟨b2,hb2,tN,rfl,rfl⟩
  obtain⟨S',k,x,sm,hlen'⟩:=St.ex (n:=ps.length) hb2 tN
  have em:=EX pool hp (d/4%16) (st++[al.lst (ps.map Pl.w)])
  have hmk:=RW hp (d/4%16)
  generalize CC (oZ pool (d/4%16))=m at em hmk
  have ap:=nJ (y:=(Pl.mk b2 m).w) hc (by rw[aF];show _<1000000;omega)
  rw[fx]at ap
  have ap:bU #[5] [.tup [.int b2,.str m]] (st++[al.lst (ps.map Pl.w)])=_:=ap
  apply aA
  ·exact d6 (ik kv (dv hc) (aw (eX (aw kv (aw (cy (aw kv (aw (bu (bu kv bW (jv #[12])) bW (jv #[12])) aZ)) em rfl) aZ)) (ao rfl)) aZ) ap)
  apply dw
  ·exact a_ (bu (bu kv bW dX) (bu (bu kv bW dX) bW (jv #[12])) (jv trivial))
  ·refine⟨_,_,rfl,ps++[⟨b2,m⟩],S',sz++[k],lk++[x],iO d,iO b2,?_,by simp,.snoc hg sm,by simp[kW],?_⟩
   ·show[_,_,_,iO ((S.length:Int)+1-((b2:Int)+1)/2),_,_]=_
    rw[show(S.length:Int)+1-((b2:Int)+1)/2=(S'.length:Int) by omega]
   ·intro p hp'
    rcases aX.mp hp' with z|z
    ·exact hpm p z
    ·simp at z;subst z;exact hmk
 ·rintro ρ bn ⟨ps,S,sz,lk,o5,o6,rfl,rfl,hg,kW,hpm⟩
  rw[show(zo ds,some (nd,zo ds)).fst.length=ds.length by simp[zo]]at kW
  have hSle:=hg.ok.2.2.le
  refine EN (fun n ρ bn=>∃(ps:List Pl) (S sz:List Nat) (lk:List #[7]),ρ=[lO nd,some (.str pool),lO st.length,iO S.length,o5,o6]/\bn=st++[.lst (ps.map Pl.w)]/\Gr ps S sz lk/\ps.length+S.length<=2*ds.length/\(∀p∈ps,EY pool p.m)/\S.length=n) S.length ⟨ps,S,sz,lk,rfl,rfl,hg,by omega,hpm,rfl⟩ ?_ ?_
  ·rintro n ρ bn ⟨ps,S,sz,lk,rfl,rfl,hg,kW,hpm,rfl⟩
   by_cases h1:1<S.length
   ·refine .inr ?_
    have t1:decide ((1:Int)<(S.length:Int))=true:=bw #[0]
    constructor
    ·exact a7 (bu kv bW (nI t1))
    obtain⟨S',k,x,sm,hlen'⟩:=St.ex (n:=ps.length) (b:=3) (S:=S) #[0] #[0]
    have hc:(st++[al.lst (ps.map Pl.w)])[st.length]?=some (.lst (ps.map Pl.w)):=dz
    have hS2:=hg.ok.2.2.le
    obtain⟨p,zR⟩:∃p,ps[S.length-1]?=some p:=⟨_,aq #[0]⟩
    have ix:bj #[5] (.int ((S.length:Int)-1)) (st++[al.lst (ps.map Pl.w)])=.ok p.w (st++[al.lst (ps.map Pl.w)]):=by
     rw[show(S.length:Int)-1=((S.length-1:Nat):Int) by omega]
     exact j6 (b6 hc) (gk (by rw[aJ,zR];rfl))
    have hmk:=hpm p (cw zR)
    have ap:=nJ (y:=(Pl.mk 3 p.m).w) hc (by rw[aF];show _<1000000;omega)
    rw[fx]at ap
    have ap:bU #[5] [.tup [.int 3,.str p.m]] (st++[al.lst (ps.map Pl.w)])=_:=ap
    apply aA
    ·exact d6 (ik kv (dv hc) (aw (eX (aw bW (aw (bu (bu kv (bu kv bW (jv trivial)) ix) bW (CB p _)) aZ)) (ao rfl)) aZ) ap)
    apply dw
    ·exact a_ (bu kv bW (jv trivial))
    ·refine⟨_,_,rfl,S'.length,by omega,ps++[⟨3,p.m⟩],S',sz++[k],lk++[x],?_,by simp,.snoc hg sm,by simp;omega,?_,rfl⟩
     ·show[_,_,_,iO ((S.length:Int)-1),_,_]=_
      rw[show(S.length:Int)-1=(S'.length:Int) by omega]
     ·intro q hq
      rcases aX.mp hq with z|z
      ·exact hpm q z
      ·simp at z;subst z;exact hmk
   ·refine .inl ?_
    have t1:decide ((1:Int)<(S.length:Int))=false:=aW #[0]
    exact a7 (bu kv bW (nI t1))
  ·rintro n ρ bn ⟨ps,S,sz,lk,rfl,rfl,hg,kW,hpm,rfl⟩ hno
   have hc:(st++[al.lst (ps.map Pl.w)])[st.length]?=some (.lst (ps.map Pl.w)):=dz
   have hS1:S.length<=1:=by
    rcases Nat.lt_or_ge 1 S.length with h1|h1
    ·have t1:decide ((1:Int)<(S.length:Int))=true:=bw #[0]
     exact(OP hno (a7 (bu kv bW (nI t1)))).elim
    ·exact h1
   apply bQ
   ·exact cC kn (oM (b6 hc))
   ·exact⟨_,_,rfl,⟨_,rfl⟩,by simp only[undWs,dM];exact lg ps _,ps,S,sz,lk,rfl,hg,hS1,by omega,hpm⟩
theorem HU{l:List Nat}(hl:l.length<4000)(h:∀c∈l,c∈LL)(st:List al):Hw [.str l] st=.ok (.str (gi l)) st:=by
 have hs:(gi l).length<64:=by
  have:(gi l).length<=LL.length:=ma ((jr l).imp fun h=>bd h) fun c hc=>h c (jb.mp hc)
  have e:LL.length=52:=by decide
  omega
 have e1:rC (ag 0) [some (.str l)] st=.ok #[5] (st++[.lst (iE (gi l))]):=by
  unfold rC
  rw[ju (w:=.str l) rfl]
  simp only[R.bind_ok,vy,eU]
  rw[aE ⟨hl,hs⟩]
 have hj:=Co (sep:=[]) (ls:=(gi l).map fun c=>[c]) (st:=st++[.lst (iE (gi l))]) (n:=st.length) (b6 (by rw[dz];unfold iE;rw[b9];rfl)) (by
  rw[r_];show _<=1000000;simp;omega)
 rw[x_]at hj
 exact f9 (bQ (Kq bW rfl (aw e1 aZ) hj) ⟨_,_,rfl,rfl,_,rfl⟩) rfl
section
variable{ps:List Pl}{sz:List Nat}{lk:List #[7]}
theorem HV(l:List Nat)(n:Nat):undWs n (cV l)=true:=by
 unfold cV
 induction l with
 |nil=>rfl
 |cons x r ih=>simp[undWs,W.und,ih]
theorem ya{st:List al}{z:List Nat}{a:Nat}(x:List al)(h:z[q]?=some a):bj #[5] (.int q) (st++.lst (cV z)::x)=.ok (.int a) (st++.lst (cV z)::x):=
 j6 (b6 (by rw[dC];rfl)) (gk (by unfold cV;rw[aJ,h];rfl))
theorem HW{st:List al}{z:List Nat}(q:Nat)(hz:z.length<1000):bU #[5] [.int q] (st++[.lst (cV z)])=.ok .non (st++[.lst (cV (z++[q]))]):=by
 have hc:(st++[al.lst (cV z)])[st.length]?=some (.lst (cV z)):=by rw[dC];rfl
 rw[nJ hc (by simp[cV];show _<1000000;omega),fx]
 simp[cV]
theorem UA{l:List α}{x:α}(h:l[i]?=some x):l.take (i+1)=l.take i++[x]:=by rw[jB,h];rfl
theorem Be(h:Gr ps S sz lk)(hn:ps.length<=900)(st:List al):Cz [b_ ps] st=.ok (.tup (cV sz)) st:=by
 obtain⟨l1,l2,_⟩:=h.ok
 refine f9 (N:=5) (ws:=[b_ ps]) (body:=Ry) ?_ (by simp[undWs,W.und,HV])
 apply aA
 ·(walk_at "evs")
 have hlk:=rZ h #[0] (st++[al.lst []])
 refine gb (fun i ρ bn=>∃(o2 o3 o4:Option W),ρ=[some (b_ ps),some #[5],o2,o3,o4]/\bn=st++[.lst (cV (sz.take i))]) (k:=(lk.map gE,none))
  (uT (st1:=st++[al.lst []]) (by(walk_at "evs"))) ⟨none,none,none,rfl,rfl⟩ (fun _ _ _ _=>trivial) ?_ ?_
 ·rintro i w ρ bn hw ⟨o2,o3,o4,rfl,rfl⟩
  have hip:i<ps.length:=by have:=(au.mp hw).1;simp at this;omega
  obtain⟨S1,S2,p,k,x,g1,q1,q2,q3,hs,g2⟩:=h.step i hip
  rw[show(lk.map gE,(none:Option (Nat×List W))).1=lk.map gE from rfl,aJ,q3]at hw
  cases hw
  obtain⟨lz,ll,ha⟩:=g1.ok
  have hti:(ps.take i).length=i:=by rw[aM];omega
  rw[hti]at ha lz
  have isl:k6 #[18] #[5]=true:=dv (by rw[dC];rfl)
  have ap:=HW (st:=st) (z:=sz.take i) k #[0]
  rw[<- UA q2]at ap
  obtain⟨b,m⟩:=p
  cases hs with
  |z=>
   rw[show((1:Nat):Int)=1 from rfl]at ap
   refine⟨_,rfl,?_⟩
   apply aA
   ·(walk_at "evs")
   apply bO
   ·(walk_at "evs")
   apply cv
   apply bO
   ·(walk_at "evs")
   apply cv
   apply dw
   ·(walk_at "evs")
   ·exact⟨_,_,rfl,_,_,_,rfl,rfl⟩
  |@l a S=>
   rw[show((1+a:Nat):Int)=1+(a:Int) by omega]at ap
   have x1:bj #[5] (oW ((some (i-1),none):Option Nat×Option Nat).fst) #[18]=.ok (.int a) #[18]:=ya (st:=st) [] ha.1
   refine⟨_,rfl,?_⟩
   apply aA
   ·(walk_at "evs")
   apply aA
   ·apply cN
    ·(walk_at "evs")
    ·(walk_at "evs")
   apply bO
   ·(walk_at "evs")
   apply cv
   apply dw
   ·(walk_at "evs")
   ·exact⟨_,_,rfl,_,_,_,rfl,rfl⟩
  |@r a S=>
   rw[show((1+a:Nat):Int)=1+(a:Int) by omega]at ap
   have x1:bj #[5] (oW ((none,some (i-1)):Option Nat×Option Nat).snd) #[18]=.ok (.int a) #[18]:=ya (st:=st) [] ha.1
   refine⟨_,rfl,?_⟩
   apply aA
   ·(walk_at "evs")
   apply bO
   ·(walk_at "evs")
   apply cv
   apply aA
   ·apply cN
    ·(walk_at "evs")
    ·(walk_at "evs")
   apply dw
   ·(walk_at "evs")
   ·exact⟨_,_,rfl,_,_,_,rfl,rfl⟩
  |@b c a S=>
   have x1:bj #[5] (oW ((some (i-1-c),some (i-1)):Option Nat×Option Nat).snd) #[18]=.ok (.int c) #[18]:=ya (st:=st) [] ha.1
   have x2:=ya (st:=st) [] ha.2.2.2.1
   rw[show i-c-1=i-1-c by omega]at x2
   have x2:bj #[5] (oW ((some (i-1-c),some (i-1)):Option Nat×Option Nat).fst) #[18]=.ok (.int a) #[18]:=x2
   rw[show((1+c+a:Nat):Int)=1+(a:Int)+(c:Int) by omega]at ap
   refine⟨_,rfl,?_⟩
   apply aA
   ·(walk_at "evs")
   apply aA
   ·apply cN
    ·(walk_at "evs")
    ·(walk_at "evs")
   apply aA
   ·apply cN
    ·(walk_at "evs")
    ·(walk_at "evs")
   apply dw
   ·(walk_at "evs")
   ·exact⟨_,_,rfl,_,_,_,rfl,rfl⟩
 ·rintro ρ bn ⟨o2,o3,o4,rfl,rfl⟩
  have hc:(st++[al.lst (cV (sz.take (lk.map gE,(none:Option (Nat×List W))).1.length))])[st.length]?=some (.lst (cV sz)):=by
   rw[dC]
   show some (al.lst (cV (sz.take (lk.map gE).length)))=_
   rw[bB (by simp;omega)]
  apply bQ
  ·(repeat' (first|with_reducible exact oM (b6 hc)|walk_at "ev1"))
  ·exact⟨_,_,rfl,rfl,_,rfl⟩
end
structure HX(ps:List Pl)(sz:List Nat)(q:Nat)(p:Pl)(L R:Nat):Prop where
 hp:ps[q]?=some p
 hz:sz[q]?=some (1+L+R)
 le:L+R<=q
 b3:p.b<=3
 hL:0<L↔p.b%2=1
 hR:0<R↔2<=p.b
 hr:2<=p.b->1<=q/\sz[q-1]?=some R
theorem HX.lt{ps:List Pl}{sz:List Nat}{p:Pl}{L R:Nat}(c:HX ps sz q p L R):q<ps.length:=(au.mp c.hp).1
theorem jx(a b:List Pl)(h:(a++b).length<=100000)(st:List al):cQ (b_ a) (b_ b) st=.ok (b_ (a++b)) st:=by
 unfold b_
 rw[GM (by rw[<- bb,aF];show _<=1000000;omega),<- bb]
theorem L8{z:List Nat}{a:Nat}(h:z[q]?=some a)(st:List al):bj (.tup (cV z)) (.int q) st=.ok (.int a) st:=oJ (gk (by unfold cV;rw[aJ,h];rfl))
theorem v5{a:List Pl}{q:Nat}(h:q<=a.length)(st:List al):wF (b_ a) none (some (q:Int)) st=.ok (b_ (a.take q)) st:=by
 unfold b_;rw[AF,mV (by simpa using h),mw]
theorem v6{a:List Pl}{q:Nat}(h:q<=a.length)(st:List al):wF (b_ a) (some (q:Int)) none st=.ok (b_ (a.drop q)) st:=by
 unfold b_;rw[AF,rK (by simpa using h),mx]
theorem CH{a:List Pl}{i j:Nat}(hj:j<=a.length)(hi:i<=j)(st:List al):wF (b_ a) (some (i:Int)) (some (j:Int)) st=.ok (b_ ((a.drop i).take (j-i))) st:=by
 unfold b_;rw[AF,GN (by simpa using hj) hi,mw,mx]
section
variable{ps:List Pl}{sz:List Nat}{lk:List #[7]}{p:Pl}{L R:Nat}
theorem v7(h:q<ps.length)(st:List al):zi [b_ ps,.int q] st=.ok .non st:=by
 have d1:decide ((q:Int)<0)=false:=aW #[0]
 have d2:decide ((ps.length:Int)<=(q:Int))=false:=aW #[0]
 have hl:=gY ps st
 refine AG (N:=2) (ws:=[b_ ps,.int q]) (body:=RA) ?_
 apply oK
 ·apply pR
  ·(walk_at "evs")
  ·(walk_at "evs")
 apply dw
 ·(walk_at "evs")
 ·exact⟨_,_,rfl,[],by simp⟩
theorem HY(h:n<=100)(st:List al):xO [.int n] st=.ok .non st:=by
 have d1:decide ((100:Int)<(n:Int))=false:=aW #[0]
 refine AG (N:=1) (ws:=[.int n]) (body:=HA) ?_
 simp only[HA,mh]
 apply oK
 ·(walk_at "evs")
 apply dw
 ·(walk_at "evs")
 ·exact⟨_,_,rfl,[],by simp⟩
theorem Kz(h:Gr ps S sz lk)(hn:ps.length<=900)(c:HX ps sz q p L R)(st:List al):AV [b_ ps,.int q] st=.ok (b_ ((ps.drop (q-L-R)).take (1+L+R))) st:=by
 have hq:=c.lt
 have kW:=c.le
 have h1:=v7 hq st
 have h2:=Be h hn st
 have h3:=L8 c.hz st
 have h4:=CH (a:=ps) (i:=q-L-R) (j:=q+1) #[0] #[0] st
 rw[show q+1-(q-L-R)=1+L+R by omega,show((q-L-R:Nat):Int)=(q:Int)+1-((1+L+R:Nat):Int) by omega,show((q+1:Nat):Int)=(q:Int)+1 from rfl]at h4
 refine f9 (N:=2) (ws:=[b_ ps,.int q]) (body:=LP) ?_ (by simp[undWs,lg])
 apply aA
 ·(walk_at "evs")
 apply bQ
 ·apply mG
  ·(walk_at "evs")
  ·(walk_at "evs")
  ·(walk_at "evs")
  ·exact h4
 ·exact⟨_,_,rfl,rfl,[],by simp⟩
theorem HZ(h:Gr ps S sz lk)(hn:ps.length<=900)(c:HX ps sz q p L R)(st:List al):qm [b_ ps,.int q] st=.ok (.tup [b_ ((ps.drop (q-L-R)).take L),b_ ((ps.drop (q-R)).take R)]) st:=by
 have hq:=c.lt
 have kW:=c.le
 have h1:=Kz h hn c st
 have h2:=Be h hn st
 have h3:=r6 c.hp st
 have h4:=A9 c.b3 st
 have hl:wF (b_ ((ps.drop (q-L-R)).take (1+L+R))) none (some (-1)) st=.ok (b_ ((ps.drop (q-L-R)).take (L+R))) st:=by
  unfold b_
  rw[AF,GO,<- List.map_dropLast,ol,aM,cx,pH,show min (min (1+L+R) (ps.length-(q-L-R))-1) (1+L+R)=L+R by omega]
 have hbl:((ps.drop (q-L-R)).take (L+R)).length=L+R:=by rw[aM,cx];omega
 have h5:=gY ((ps.drop (q-L-R)).take (L+R)) st
 rw[hbl]at h5
 have h6:=v5 (a:=(ps.drop (q-L-R)).take (L+R)) (q:=L) #[0] st
 have h7:=v6 (a:=(ps.drop (q-L-R)).take (L+R)) (q:=L) #[0] st
 rw[pH,gQ #[0]]at h6
 rw[List.drop_take,List.drop_drop,show q-L-R+L=q-R by omega,show L+R-L=R by omega]at h7
 have eL:((L+R:Nat):Int)-(R:Int)=(L:Int):=by omega
 refine f9 (N:=5) (ws:=[b_ ps,.int q]) (body:=LQ) ?_ (by simp[undWs,W.und,lg])
 apply aA
 ·apply a_
  apply mG
  ·(walk_at "evs")
  ·(walk_at "evs")
  ·apply mF
   apply uc
   (walk_at "evs")
  ·exact hl
 apply aA
 ·(walk_at "evs")
 refine uU (fun ρ bn=>ρ=[some (b_ ps),some (.int q),some (b_ ((ps.drop (q-L-R)).take (L+R))),some (.int R),none]/\bn=st) ?_ ?_
 ·by_cases hb:2<=p.b
  ·rw[bw hb]at h4
   obtain⟨hq1,hz1⟩:=c.hr hb
   have h8:=L8 hz1 st
   rw[show((q-1:Nat):Int)=(q:Int)-1 by omega]at h8
   apply ud
   ·(walk_at "evs")
   apply dw
   ·(walk_at "evs")
   ·exact⟨_,_,rfl,rfl,rfl⟩
  ·rw[aW hb]at h4
   have hR0:R=0:=by have:=c.hR;omega
   apply oK
   ·(walk_at "evs")
   apply dw
   ·(walk_at "evs")
   ·exact⟨_,_,rfl,by subst hR0;rfl,rfl⟩
 ·rintro ρ bn ⟨rfl,rfl⟩
  apply aA
  ·(walk_at "evs")
  rw[eL]
  apply bQ
  ·apply eX
   ·apply aw
    ·apply mG
     ·(walk_at "evs")
     ·(walk_at "evs")
     ·(walk_at "evs")
     ·exact h6
    ·apply aw
     ·apply mG
      ·(walk_at "evs")
      ·(walk_at "evs")
      ·(walk_at "evs")
      ·exact h7
     ·(walk_at "evs")
   ·(walk_at "evs")
  ·exact⟨_,_,rfl,rfl,[],by simp⟩
end
noncomputable def pU(l:List Pl):Nat:=if 0<l.length then 1 else 0
theorem H9(a b:List Pl)(m:List Nat)(h:a.length+b.length<=5000)(st:List al):AW [b_ a,b_ b,.str m] st=.ok (b_ (a++b++[⟨pU a+2*pU b,m⟩])) st:=by
 have h1:=gY a st
 have h2:=gY b st
 have h3:=jx a b (by simp;omega) st
 have h4:=jx (a++b) [⟨pU a+2*pU b,m⟩] (by simp;omega) st
 refine f9 (N:=4) (ws:=[b_ a,b_ b,.str m]) (body:=LR) ?_ (by simp[undWs,lg])
 apply aA
 ·(walk_at "evs")
 refine uU (fun ρ bn=>ρ=[some (b_ a),some (b_ b),some (.str m),some (.int (pU a:Nat))]/\bn=st) ?_ ?_
 ·by_cases ha:0<a.length
  ·have d:decide ((0:Int)<(a.length:Int))=true:=bw #[0]
   apply ud
   ·(walk_at "evs")
   apply dw
   ·(walk_at "evs")
   ·exact⟨_,_,rfl,by simp only[pU,aE ha];rfl,rfl⟩
  ·have d:decide ((0:Int)<(a.length:Int))=false:=aW #[0]
   apply oK
   ·(walk_at "evs")
   apply dw
   ·(walk_at "evs")
   ·exact⟨_,_,rfl,by simp only[pU,aL ha];rfl,rfl⟩
 rintro ρ bn ⟨rfl,rfl⟩
 refine uU (fun ρ st''=>ρ=[some (b_ a),some (b_ b),some (.str m),some (.int (pU a+2*pU b:Nat))]/\st''=bn) ?_ ?_
 ·by_cases hb:0<b.length
  ·have d:decide ((0:Int)<(b.length:Int))=true:=bw #[0]
   apply ud
   ·(walk_at "evs")
   apply dw
   ·(walk_at "evs")
   ·exact⟨_,_,rfl,by simp only[pU,aE hb];rfl,rfl⟩
  ·have d:decide ((0:Int)<(b.length:Int))=false:=aW #[0]
   apply oK
   ·(walk_at "evs")
   apply dw
   ·(walk_at "evs")
   ·exact⟨_,_,rfl,by simp only[pU,aL hb];rfl,rfl⟩
 rintro ρ st'' ⟨rfl,rfl⟩
 have h5:cQ (b_ (a++b)) (.tup [.tup [.int (pU a+2*pU b:Nat),.str m]]) st''=.ok (b_ (a++b++[⟨pU a+2*pU b,m⟩])) st'':=h4
 apply bQ
 ·(walk_at "evs")
 ·exact⟨_,_,rfl,rfl,[],by simp⟩
noncomputable def CI(ps:List Pl)(q L R:Nat):List Pl:=(ps.drop (q-L-R)).take L
noncomputable def CJ(ps:List Pl)(q R:Nat):List Pl:=(ps.drop (q-R)).take R
def Pu(ps:List Pl)(q L R:Nat)(m:List Nat)(sd:Bool)(oth:List Pl):List Pl:=
 let l:=if sd then oth else CI ps q L R
 let r:=if sd then CJ ps q R else oth
 ps.take (q-L-R)++(l++r++[⟨pU l+2*pU r,m⟩])++ps.drop (q+1)
noncomputable def ui(sd:Bool):W:=.str (if sd then[108,101,102,116]else[114,105,103,104,116])
section
variable{ps oth:List Pl}{sz:List Nat}{lk:List #[7]}{p:Pl}{L R:Nat}
theorem HX.l0(c:HX ps sz q p L R):(CI ps q L R).length=L:=by have:=c.lt;have:=c.le;unfold CI;rw[aM,cx];omega
theorem HX.l1(c:HX ps sz q p L R):(CJ ps q R).length=R:=by have:=c.lt;have:=c.le;unfold CJ;rw[aM,cx];omega
theorem KA(h:Gr ps S sz lk)(hn:ps.length<=900)(ho:oth.length<=900)(c:HX ps sz q p L R)(sd:Bool)(st:List al){P:RS->Prop}
  (he:∀o4 o5 o6 o7:Option W,kI P ((aI (c7 (cu 1 xO (ai (bE dI (ai (ag 8) aD)) aD))) (cW (ag 8))) [some (b_ ps),some (.int q),some (ui sd),some (b_ oth),o4,o5,o6,o7,some (b_ (Pu ps q L R p.m sd oth))] st)) :
  kI P (HB ([b_ ps,.int q,ui sd,b_ oth].map some++List.replicate (9-4) none) st):=by
 have hq:=c.lt
 have kW:=c.le
 have h0:=c.l0
 have h1:=c.l1
 have a1:=HZ h hn c st
 change _=L2.R.ok (W.tup [b_ (CI ps q L R),b_ (CJ ps q R)]) st at a1
 have b0:bj (.tup [b_ (CI ps q L R),b_ (CJ ps q R)]) (.int 0) st=.ok (b_ (CI ps q L R)) st:=rfl
 have b1:bj (.tup [b_ (CI ps q L R),b_ (CJ ps q R)]) (.int 1) st=.ok (b_ (CJ ps q R)) st:=rfl
 have n0:=gY (CI ps q L R) st
 have n1:=gY (CJ ps q R) st
 rw[h0]at n0
 rw[h1]at n1
 have i1:=r6 c.hp st
 have i2:=CB p st
 have s1:=v5 (a:=ps) (q:=q-L-R) #[0] st
 rw[show((q-L-R:Nat):Int)=(q:Int)-(L:Int)-(R:Int) by omega]at s1
 have s2:=v6 (a:=ps) (q:=q+1) #[0] st
 rw[show((q+1:Nat):Int)=(q:Int)+1 from rfl]at s2
 cases sd with
 |true=>
  have q1:iN (ui true) (.str [108,101,102,116]) st=.ok (.bl true) st:=rfl
  have q2:iN (ui true) (.str [114,105,103,104,116]) st=.ok (.bl false) st:=rfl
  have t1:=H9 oth (CJ ps q R) p.m #[0] st
  have t2:=jx (ps.take (q-L-R)) (oth++CJ ps q R++[⟨pU oth+2*pU (CJ ps q R),p.m⟩]) (by simp;omega) st
  have t3:=jx (ps.take (q-L-R)++(oth++CJ ps q R++[⟨pU oth+2*pU (CJ ps q R),p.m⟩])) (ps.drop (q+1)) (by simp;omega) st
  apply aA
  ·(walk_at "evs")
  apply aA
  ·apply a_
   apply t9
   ·(walk_at "evs")
   ·(walk_at "evs")
  apply aA
  ·apply a_
   apply t_
   ·(walk_at "evs")
   ·(walk_at "evs")
  apply aA
  ·(walk_at "evs")
  apply aA
  ·(repeat' (first|with_reducible exact s1|with_reducible exact s2|walk_at "ev1"))
  exact he _ _ _ _
 |false=>
  have q1:iN (ui false) (.str [108,101,102,116]) st=.ok (.bl false) st:=rfl
  have q2:iN (ui false) (.str [114,105,103,104,116]) st=.ok (.bl true) st:=rfl
  have t1:=H9 (CI ps q L R) oth p.m #[0] st
  have t2:=jx (ps.take (q-L-R)) (CI ps q L R++oth++[⟨pU (CI ps q L R)+2*pU oth,p.m⟩]) (by simp;omega) st
  have t3:=jx (ps.take (q-L-R)++(CI ps q L R++oth++[⟨pU (CI ps q L R)+2*pU oth,p.m⟩])) (ps.drop (q+1)) (by simp;omega) st
  apply aA
  ·(walk_at "evs")
  apply aA
  ·apply a_
   apply t_
   ·(walk_at "evs")
   ·(walk_at "evs")
  apply aA
  ·apply a_
   apply t9
   ·(walk_at "evs")
   ·(walk_at "evs")
  apply aA
  ·(walk_at "evs")
  apply aA
  ·(repeat' (first|with_reducible exact s1|with_reducible exact s2|walk_at "ev1"))
  exact he _ _ _ _
theorem OQ(h:Gr ps S sz lk)(hn:ps.length<=900)(ho:oth.length<=900)(c:HX ps sz q p L R)(sd:Bool)(st:List al)(hs:(Pu ps q L R p.m sd oth).length<=100):AX [b_ ps,.int q,ui sd,b_ oth] st=.ok (b_ (Pu ps q L R p.m sd oth)) st:=by
 refine f9 (N:=9) (ws:=[b_ ps,.int q,ui sd,b_ oth]) (body:=HB) (KA h hn ho c sd st fun o4 o5 o6 o7=>?_) (by simp[undWs,lg])
 have n:=gY (Pu ps q L R p.m sd oth) st
 have z:=HY hs st
 apply aA
 ·(walk_at "evs")
 apply bQ
 ·(walk_at "evs")
 ·exact⟨_,_,rfl,rfl,[],by simp⟩
end
theorem KB{l:List α}{x d:α}(h:l[i]?=some x):l.getD i d=x:=by rw[aO,h];rfl
section
variable{ps:List Pl}{sz:List Nat}{lk:List #[7]}{M:Mc}
noncomputable def yb(R:List Nat)(q:Nat):W:=.int ((R.getD q 0:Nat):Int)
theorem DT(h:Gr ps S sz lk)(hl:ps.length<=900)(hM:mz M n)(hn:1<=n)(st:List al) :
  ∃x,xV [M.w,b_ ps] st=.ok (.loc (st.length+1)) (st++x)/\x[1]?=some (.lst (nW (gP M ps lk))):=by
 suffices hh:kI (zO fun w bn=>∃j x,w=.loc (st.length+j)/\bn=st++x/\j=1/\x[1]?=some (.lst (nW (gP M ps lk)))) (L0 ([M.w,b_ ps].map some++List.replicate (8-2) none) st) by
  obtain⟨j,x,⟨rfl,hx⟩,e⟩:=rJ hh
  exact⟨x,e,hx⟩
 obtain⟨l1,l2,_⟩:=h.ok
 obtain⟨rl,rlt⟩:=x8 (M:=M) h hM hn
 have rat:=fun{i:Nat} {p:Pl} {x:Option Nat×Option Nat}=>HS (M:=M) (i:=i) (p:=p) (x:=x) h hM hn
 generalize gP M ps lk=R at *
 apply aA
 ·exact a_ (nH aZ (ao rfl))
 apply aA
 ·exact a_ (nH aZ (ao rfl))
 have l3:(st++[al.lst []]).length=st.length+1:=by simp
 rw[l3]
 refine gb (fun i ρ s=>∃(S1:List Nat) (o4 o5 o6 o7:Option W),ρ=[some M.w,some (b_ ps),some #[5],some (.loc (st.length+1)),o4,o5,o6,o7]/\s=st++[.lst ((jl S1 i).map (yb R)).reverse,.lst (nW (R.take i))]/\Gr (ps.take i) S1 (sz.take i) (lk.take i)/\i<=ps.length)
  (k:=(ps.map Pl.w,none)) (st1:=(st++[al.lst []])++[al.lst []]) (uT kv) ⟨[],none,none,none,none,rfl,by rw[ak];rfl,.nil,cn _⟩ (fun _ _ _ _=>trivial) ?_ ?_
 ·rintro i w ρ s hw ⟨S1,o4,o5,o6,o7,rfl,rfl,hg,hi⟩
  have hip:i<ps.length:=by have:=(au.mp hw).1;simpa using this
  obtain⟨S1',S2,p,k,x,g1,q1,q2,q3,hs,g2⟩:=h.step i hip
  have hw:w=p.w:=by
   simp only at hw
   rw[aJ,q1]at hw
   exact(bq hw).symm
  subst hw
  refine⟨_,rfl,?_⟩
  have hS:=hg.det g1 rfl
  subst hS
  obtain⟨lz,ll,ha⟩:=g1.ok
  have hti:(ps.take i).length=i:=by rw[aM];omega
  rw[hti]at ha lz ll
  have hSl:=ha.le
  have hR:=rat q1 q3
  have hlo:HL R.length x:=⟨fun j e=>by have:=(h.lk q3).1 j e;omega,fun j e=>by have:=(h.lk q3).2 j e;omega⟩
  obtain⟨t,r,f1,f2,f3,_⟩:=CG (m:=p.m) hM hn rlt hlo
  have hRt:R.take (i+1)=R.take i++[uX M R p.m x]:=by rw[jB,hR];rfl
  have pop:∀(A:List W) (B:List Nat) (q:Nat),mD #[5] [] (st++[.lst ((q::B).map (yb R)).reverse,.lst A])=.ok (yb R q) (st++[.lst (B.map (yb R)).reverse,.lst A]):=fun A B q=>by
   have hc:(st++[al.lst ((q::B).map (yb R)).reverse,.lst A])[st.length]?=some (.lst ((B.map (yb R)).reverse++[yb R q])):=by rw[dC];simp
   rw[vG hc,fx];rfl
  have isl0:∀(A:List W) (B:List W),k6 (st++[.lst A,.lst B]) #[5]=true:=fun A B=>dv (by rw[dC];rfl)
  have T1:∀(k:Bool) (ρ:cM) (s:List al),decide ((2:Int)<=(p.b:Int))=k->ρ[4]?=some (some (.int p.b))->eF (e2 Nq (ag 4) (eI 2)) ρ s=.ok k s:=fun k ρ s e h4=>a7 (bu (ju h4) bW (GH e))
  have T2:∀(k:Bool) (ρ:cM) (s:List al),(((p.b:Int)%2)==1)=k->ρ[4]?=some (some (.int p.b))->eF (e2 iN (e2 i7 (ag 4) (eI 2)) (eI 1)) ρ s=.ok k s:=fun k ρ s e h4=>a7 (bu (bu (ju h4) bW (jv #[12])) bW (gj e))
  have put:∀(u v:W) (B:List Nat),u=.int (zq R x.1:Nat)->v=.int (zq R x.2:Nat)->B.length<1001->i::B=jl S2 (i+1) ->
    kI (Kr (fun ρ s=>∃(S1:List Nat) (o4 o5 o6 o7:Option W),ρ=[some M.w,some (b_ ps),some #[5],some (.loc (st.length+1)),o4,o5,o6,o7]/\s=st++[.lst ((jl S1 (i+1)).map (yb R)).reverse,.lst (nW (R.take (i+1)))]/\Gr (ps.take (i+1)) S1 (sz.take (i+1)) (lk.take (i+1))/\i+1<=ps.length))
     (aI (c7 (k7 bU (ag 2) (ai (e2 bj (e2 bj (e2 bj (e2 bj (ag 0) (eI 2)) (cu 2 xU (ai (e2 bj (ag 0) (eI 0)) (ai (ag 5) aD)))) (ag 6)) (ag 7)) aD))) (c7 (k7 bU (ag 3) (ai (e2 bj (ag 2) (pY (eI 1))) aD)))
      [some M.w,some (b_ ps),some #[5],some (.loc (st.length+1)),some (.int p.b),some (.str p.m),some u,some v] (st++[.lst (B.map (yb R)).reverse,.lst (nW (R.take i))])):=by
   rintro u v B rfl rfl hB hT
   have hc:(st++[al.lst (B.map (yb R)).reverse,.lst (nW (R.take i))])[st.length]?=some (.lst (B.map (yb R)).reverse):=by rw[dC];rfl
   apply aA
   ·exact d6 (ik kv (dv hc) (aw (bu (bu (bu kx (cy (aw kx kn) (CF M.nm p.m _) rfl) (HN f1 _)) kv (HJ f2)) kv (HI f3)) aZ) (nJ hc (by rw[List.length_reverse,aF];show _<1000000;omega)))
   rw[fx]
   have hc1:(st++[al.lst (B.map (yb R)).reverse,.lst (nW (R.take i))].set 0 (.lst ((B.map (yb R)).reverse++[W.int (uX M R p.m x:Nat)])))[st.length]?=some (.lst ((B.map (yb R)).reverse++[W.int (uX M R p.m x:Nat)])):=by rw[dC];rfl
   have hc2:(st++[al.lst (B.map (yb R)).reverse,.lst (nW (R.take i))].set 0 (.lst ((B.map (yb R)).reverse++[W.int (uX M R p.m x:Nat)])))[st.length+1]?=some (.lst (nW (R.take i))):=by rw[ij];rfl
   have last:sK ((B.map (yb R)).reverse++[W.int (uX M R p.m x:Nat)]) (-1)=some (.int (uX M R p.m x:Nat)):=GK (q:=0) (by rw[List.reverse_append];rfl)
   refine dw (d6 (ik kv (dv hc2) (aw (bu kv (uc bW) (j6 (b6 hc1) last)) aZ) (nJ hc2 (by simp[nW];show _<1000000;omega)))) ?_
   refine⟨_,_,rfl,S2,_,_,_,_,rfl,?_,g2,by omega⟩
   rw[mE,<- hT,hRt]
   have:yb R i=.int (uX M R p.m x:Nat):=by unfold yb;rw[KB hR]
   simp[nW,this]
  apply aA
  ·exact a_ bW
  apply aA
  ·exact a_ bW
  obtain⟨b,m⟩:=p
  cases hs with
  |@z=>
   apply bO
   ·exact T1 false _ _ rfl rfl
   apply cv
   apply bO
   ·exact T2 false _ _ rfl rfl
   apply cv
   exact put _ _ (jl S1 i) rfl rfl (by rw[ip];omega) rfl
  |@l a S=>
   apply bO
   ·exact T1 false _ _ rfl rfl
   apply cv
   apply aA
   ·exact cN (T2 true _ _ rfl rfl) (a_ (ik kv (isl0 _ _) aZ (pop _ (jl S (i-a)) (i-1))))
   exact put _ _ (jl S (i-a)) rfl rfl (by rw[ip];simp at hSl;omega) (by simp only[jl];congr 1;congr 1;omega)
  |@r a S=>
   apply aA
   ·exact cN (T1 true _ _ rfl rfl) (a_ (ik kv (isl0 _ _) aZ (pop _ (jl S (i-a)) (i-1))))
   apply bO
   ·exact T2 false _ _ (by show((2:Int)%2==1)=false;decide) rfl
   apply cv
   exact put _ _ (jl S (i-a)) rfl rfl (by rw[ip];simp at hSl;omega) (by simp only[jl];congr 1;congr 1;omega)
  |@b c a S=>
   apply aA
   ·exact cN (T1 true _ _ rfl rfl) (a_ (ik kv (isl0 _ _) aZ (pop _ (jl (a::S) (i-c)) (i-1))))
   apply aA
   ·exact cN (T2 true _ _ (by show((3:Int)%2==1)=true;decide) rfl) (a_ (ik kv (isl0 _ _) aZ (pop _ (jl S (i-c-a)) (i-c-1))))
   exact put _ _ (jl S (i-c-a)) (by show yb R _=W.int ((R.getD (i-1-c) 0:Nat):Int);rw[show i-1-c=i-c-1 by omega];rfl) rfl (by rw[ip];simp at hSl;omega) (by simp only[jl];congr 1;congr 1;omega)
 ·rintro ρ s ⟨S1,o4,o5,o6,o7,rfl,rfl,hg,hi⟩
  apply bQ
  ·exact ju rfl
  ·refine⟨_,_,rfl,1,_,rfl,rfl,rfl,?_⟩
   rw[show(ps.map Pl.w,(none:Option (Nat×List W))).fst.length=R.length by simp[rl],dR]
   rfl
end
theorem CK(nm:List Nat)(n top dl:Nat)(ds:List Int)(st:List al)(UW:nm.length<=6)(hn:1<=n)(U7:n<=9)(Px:1<=top)(U6:top<=n)(hd:st[dl]?=some (.lst (zo ds)))(Ma:n+2^nm.length*(n*n)<=ds.length) :
  ∃M:Mc,M.nm=nm/\mz M n/\A5 [.str nm,.int n,.int top,.loc dl] st=.ok M.w st:=by
 suffices hh:kI (zO fun w bn=>(∃x,bn=st++x)/\undWs st.length [w]=true/\∃M:Mc,w=M.w/\M.nm=nm/\mz M n) (LY ([W.str nm,.int n,.int top,.loc dl].map some++List.replicate (10-4) none) st) by
  obtain⟨w,⟨M,rfl,h1,h2⟩,e⟩:=rH hh
  exact⟨M,h1,h2,e⟩
 have fX:∀s:List al,dI [.str nm] s=.ok (.int nm.length) s:=fun s=>yT (by show _<=1000000;omega)
 have p2:2^nm.length<=64:=Nat.pow_le_pow_right #[0] UW
 obtain⟨N,hN⟩:∃N,N=2^nm.length:=⟨_,rfl⟩
 have sh:∀s:List al,Aq (.int 1) (.int nm.length) s=.ok (.int N) s:=fun s=>by rw[hN];exact F3 #[0]
 rw[<- hN]at p2 Ma
 have hdn:n<=ds.length:=by omega
 obtain⟨gd,hgl,_,eg⟩:=HF (cap:=[none,some 3]) (ρ:=[some (.str nm),iO n,iO top,lO dl,none,none,none,none,none,none]) (st:=st) (fs:=ai (ag 1) aD) (n:=n)
  (el:=e2 iN (e2 i7 (e2 bj (ag 1) (ag 0)) (eI 2)) (eI 1)) W.bl (fun _ _=>True) kn #[0] fun q hq=>by
   obtain⟨d,hdd⟩:∃d,ds[q]?=some d:=⟨_,aq #[0]⟩
   exact⟨_,trivial,bu (bu (bu kv kv (uV hd hdd)) bW (jv #[12])) bW (gj rfl)⟩
 apply aA
 ·exact a_ eg
 generalize hs0:st++[al.lst (gd.map W.bl)]=s0
 have hst0:st <+: s0:=by rw[<- hs0];exact be _ _
 apply aA
 ·(walk_at "evs")
 apply aA
 ·(walk_at "evs")
 refine gb (fun i ρ s=>∃(tb:List (List (List Nat))) (a:Nat) (o7 o8 o9:Option W),ρ=[some (.str nm),iO n,iO top,lO dl,some (.tup (gd.map W.bl)),lO s0.length,iO a,o7,o8,o9]/\s0 <+: s/\s[s0.length]?=some (.lst (tb.map w4))/\tb.length=i/\(∀t∈tb,Uz n t)/\a+(N-i)*(n*n)<=ds.length)
  (jw (q:=(N:Int)) (st1:=s0++[al.lst []]) (aw (bu bW (cC kn (fX _)) (sh _)) aZ) #[0])
  ⟨[],n,none,none,none,rfl,be _ _,dz,rfl,by simp,by simpa using Ma⟩ (fun _ _ _ _=>trivial) ?_ ?_
 ·rintro i w ρ s hw ⟨tb,a,o7,o8,o9,rfl,hp,hc,hl,ht,hal⟩
  obtain⟨hi,rfl⟩:=jK hw
  rw[bV]at hi
  refine⟨_,rfl,?_⟩
  rw[show N-i=(N-(i+1))+1 by omega,Nat.succ_mul]at hal
  apply aA
  ·(walk_at "evs")
  refine gb (fun j ρ z=>∃(zK:List (List Nat)) (a:Nat) (o9:Option W),ρ=[some (.str nm),iO n,iO top,lO dl,some (.tup (gd.map W.bl)),lO s0.length,iO a,iO (0+(i:Int)),lO s.length,o9]/\s <+: z/\z[s.length]?=some (.lst (zK.map gO))/\zK.length=j/\(∀r∈zK,r.length=n/\∀k∈r,k<n)/\a+((N-(i+1))*(n*n)+(n-j)*n)<=ds.length)
   (jw (q:=(n:Int)) (st1:=s++[al.lst []]) (by(walk_at "evs")) #[0]) ⟨[],a,_,rfl,be _ _,dz,rfl,by simp,by simpa using hal⟩ (fun _ _ _ _=>trivial) ?_ ?_
  ·rintro j w ρ z hw ⟨zK,a,o9,rfl,hz,hcz,hrl,hr,hal⟩
   obtain⟨hj,rfl⟩:=jK hw
   rw[bV]at hj
   refine⟨_,rfl,?_⟩
   rw[show n-j=(n-(j+1))+1 by omega,Nat.succ_mul]at hal
   have pt:(0:Int)<(top:Int):=by omega
   obtain⟨r,hrn,hrb,er⟩:=HF (cap:=[none,some 2,some 3,some 6]) (ρ:=[some (.str nm),iO n,iO top,lO dl,some (.tup (gd.map W.bl)),lO s0.length,iO a,iO (0+(i:Int)),lO s.length,iO (0+(j:Int))]) (st:=z) (fs:=ai (ag 1) aD) (n:=n)
    (el:=e2 i7 (e2 bj (ag 2) (e2 cQ (ag 3) (ag 0))) (ag 1)) (fun k:Nat=>W.int (k:Nat)) (fun _ k=>k<n) kn #[0] fun q hq=>by
     obtain⟨d,hdd⟩:∃d,ds[a+q]?=some d:=⟨_,aq #[0]⟩
     obtain⟨k,hk,ek⟩:=iR (q:=d) (n:=top) #[0]
     refine⟨k,by omega,?_⟩
     rw[<- ek]
     exact bu (bu kv (bu kv kv dX) (uV (pre_get (hst0.trans (hp.trans hz)) hd) hdd)) kv (jv pt)
   have ap:=mi (y:=gO r) (pre_get (s:=z++[.lst (r.map fun k:Nat=>W.int k)]) (be _ _) hcz) (by rw[aF];omega)
   apply aA
   ·exact d6 (ik kv (dv hcz) (aw er aZ) ap)
   apply dw
   ·exact a_ (bu kv kv dX)
   ·refine⟨_,_,rfl,zK++[r],a+n,_,rfl,r9 (zn hz) (az _),?_,by simp[hrl],?_,by omega⟩
    ·rw[d9 (pre_get (be _ _) hcz)];simp
    ·intro x hx
     rcases aX.mp hx with y|y
     ·exact hr x y
     ·simp at y;subst y
      refine⟨hrn,fun k hk=>?_⟩
      obtain⟨q,hq⟩:=List.getElem?_of_mem hk
      exact hrb q k hq
  ·rintro ρ z ⟨zK,a,o9,rfl,hz,hcz,hrl,hr,hal⟩
   have hrl:zK.length=n:=by rw[hrl];simp[fE]
   have hcp:=pre_get hz hc
   have ap:=mi (y:=w4 zK) hcp (by rw[aF,hl];omega)
   apply dw
   ·exact d6 (ik kv (dv hcp) (aw (cC kn (oM (b6 hcz))) aZ) ap)
   ·refine⟨_,_,rfl,tb++[zK],a,_,_,_,rfl,r9 (hp.trans hz) (az _),?_,by simp[hl],?_,by omega⟩
    ·rw[d9 hcp];simp
    ·intro x hx
     rcases aX.mp hx with y|y
     ·exact ht x y
     ·simp at y;subst y
      exact⟨hrl,hr⟩
 ·rintro ρ s ⟨tb,a,o7,o8,o9,rfl,hp,hc,hl,ht,hal⟩
  have hl:tb.length=N:=by rw[hl];simp[fE]
  obtain⟨x,rfl⟩:=hst0.trans hp
  apply bQ
  ·exact eX (aw kv (aw kv (aw (cC kn (oM (b6 hc))) aZ))) (ao rfl)
  ·exact⟨_,_,rfl,⟨_,rfl⟩,by simp only[undWs,dM];exact HH ⟨nm,gd,tb⟩ _,⟨nm,gd,tb⟩,rfl,rfl,hgl,by rw[hl,hN],ht⟩
inductive MT where
 |nil
 |nd (l r:MT) (m:List Nat)
namespace MT
noncomputable def one:MT->Nat
 |nil=>0
 |nd _ _ _=>1
noncomputable def size:MT->Nat
 |nil=>0
 |nd l r _=>l.size+r.size+1
noncomputable def po:MT->List Pl
 |nil=>[]
 |nd l r m=>l.po++r.po++[⟨l.one+2*r.one,m⟩]
noncomputable def tp:MT->Nat->Option Nat
 |nil,_=>none
 |nd l r _,o=>some (o+l.size+r.size)
noncomputable def lkT:MT->Nat->List #[7]
 |nil,_=>[]
 |nd l r _,o=>l.lkT o++r.lkT (o+l.size)++[(l.tp o,r.tp (o+l.size))]
noncomputable def szT:MT->List Nat
 |nil=>[]
 |nd l r _=>l.szT++r.szT++[l.size+r.size+1]
theorem po_len:∀t:MT,t.po.length=t.size
 |nil=>rfl
 |nd l r m=>by unfold po size;rw[ah,ah,po_len l,po_len r];rfl
theorem sz_len:∀t:MT,t.szT.length=t.size
 |nil=>rfl
 |nd l r m=>by unfold szT size;rw[ah,ah,sz_len l,sz_len r];rfl
theorem lk_len:∀(t:MT) (o:Nat),(t.lkT o).length=t.size
 |nil,_=>rfl
 |nd l r m,o=>by unfold lkT size;rw[ah,ah,lk_len l,lk_len r];rfl
theorem size_nd(l r:MT)(m:List Nat):(nd l r m).size=l.size+r.size+1:=rfl
theorem tp_nd(l r:MT)(m:List Nat)(o:Nat):(nd l r m).tp o=some (o+(nd l r m).size-1):=by
 show some (o+l.size+r.size)=_
 rw[size_nd];congr 1;omega
theorem T0(l r:MT)(m:List Nat)(o k:Nat):(nd l r m).tp o=some (o+(nd l r m).size+k-1-k):=by
 rw[tp_nd,size_nd];congr 1;omega
def cs(S:List Nat):MT->List Nat
 |nil=>S
 |nd l r m=>(nd l r m).size::S
theorem gr:∀(t:MT) {ps:List Pl} {S sz:List Nat} {lk:List #[7]},Gr ps S sz lk->Gr (ps++t.po) (t.cs S) (sz++t.szT) (lk++t.lkT ps.length)
 |nil,ps,S,sz,lk,h=>by
  show Gr (ps++[]) S (sz++[]) (lk++[])
  rw[bx,bx,bx];exact h
 |nd l r m,ps,S,sz,lk,h=>by
  have h1:=gr l h
  have h2:=gr r h1
  rw[ah,po_len]at h2
  unfold po szT lkT
  rw[<- ak,<- ak,<- ak,<- ak,<- ak,<- ak]
  refine .snoc h2 ?_
  rw[ah,ah,po_len,po_len]
  cases l with
  |nil=>
   cases r with
   |nil=>exact .z
   |nd r1 r2 rm=>
    have:=St.r (n:=ps.length+(nil:MT).size+(nd r1 r2 rm).size) (a:=(nd r1 r2 rm).size) (S:=S)
    have e:(none,(nd r1 r2 rm).tp (ps.length+(nil:MT).size))=((none:Option Nat),some (ps.length+(nil:MT).size+(nd r1 r2 rm).size-1)):=by rw[tp_nd]
    show St _ _ 2 _ _ (none,_)
    rw[e,show(nil:MT).size+(nd r1 r2 rm).size+1=1+(nd r1 r2 rm).size by simp only[size];omega]
    show St _ _ 2 ((nil.size+(nd r1 r2 rm).size+1)::S) _ _
    rw[show(nil:MT).size+(nd r1 r2 rm).size+1=1+(nd r1 r2 rm).size by simp only[size];omega]
    exact this
  |nd l1 l2 lm=>
   cases r with
   |nil=>
    have:=St.l (n:=ps.length+(nd l1 l2 lm).size+(nil:MT).size) (a:=(nd l1 l2 lm).size) (S:=S)
    have e:((nd l1 l2 lm).tp ps.length,(none:Option Nat))=(some (ps.length+(nd l1 l2 lm).size+(nil:MT).size-1),none):=by rw[tp_nd];rfl
    show St _ _ 1 ((_+1)::S) _ (_,none)
    rw[e,show(nd l1 l2 lm).size+(nil:MT).size+1=1+(nd l1 l2 lm).size by simp only[size];omega]
    exact this
   |nd r1 r2 rm=>
    have:=St.b (n:=ps.length+(nd l1 l2 lm).size+(nd r1 r2 rm).size) (c:=(nd r1 r2 rm).size) (a:=(nd l1 l2 lm).size) (S:=S)
    have e:((nd l1 l2 lm).tp ps.length,(nd r1 r2 rm).tp (ps.length+(nd l1 l2 lm).size))=(some (ps.length+(nd l1 l2 lm).size+(nd r1 r2 rm).size-1-(nd r1 r2 rm).size),some (ps.length+(nd l1 l2 lm).size+(nd r1 r2 rm).size-1)):=by rw[tp_nd r1,T0 l1 l2 lm _ (nd r1 r2 rm).size]
    show St _ _ 3 ((_+1)::S) _ _
    rw[e,show(nd l1 l2 lm).size+(nd r1 r2 rm).size+1=1+(nd r1 r2 rm).size+(nd l1 l2 lm).size by omega]
    exact this
theorem gr0(t:MT):Gr t.po (t.cs []) t.szT (t.lkT 0):=by
 have:=gr t Gr.nil
 simpa using this
def Bl:MT->Nat->Nat->Prop
 |nil,_,_=>False
 |nd l r _,q,j=>(q<l.size/\j<l.size/\l.Bl q j)\/(l.size<=q/\q<l.size+r.size/\l.size<=j/\j<l.size+r.size/\r.Bl (q-l.size) (j-l.size))\/(q=l.size+r.size/\j<l.size+r.size)
end MT
end P
namespace P
open PySem L2
def sv(M:Mc)(m:List Nat)(a b:Nat):Nat:=((M.tb.getD (ku m M.nm) []).getD a []).getD b 0
namespace MT
def tR(M:Mc):MT->Nat
 |nil=>0
 |nd l r m=>sv M m (l.tR M) (r.tR M)
def rT(M:Mc):MT->List Nat
 |nil=>[]
 |nd l r m=>l.rT M++r.rT M++[sv M m (l.tR M) (r.tR M)]
theorem rT_len(M:Mc):∀t:MT,(t.rT M).length=t.size
 |nil=>rfl
 |nd l r m=>by unfold rT size;rw[ah,ah,rT_len M l,rT_len M r];rfl
theorem H_(M:Mc)(u w:List Nat):∀t:MT,zq (u++t.rT M++w) (t.tp u.length)=t.tR M
 |nil=>rfl
 |nd l r m=>by
  show(u++(l.rT M++r.rT M++[_])++w).getD (u.length+l.size+r.size) 0=_
  rw[ak,ak,ak,aO,aY #[0],aY (by rw[rT_len];omega),aY (by rw[rT_len,rT_len];omega),rT_len,rT_len,show u.length+l.size+r.size-u.length-l.size-r.size=0 by omega]
  rfl
theorem stp_tp(M:Mc)(u w:List Nat)(l r:MT)(m:List Nat):uX M (u++(l.rT M++r.rT M)++w) m (l.tp u.length,r.tp (u.length+l.size))=sv M m (l.tR M) (r.tR M):=by
 unfold uX sv
 have e1:=H_ M u (r.rT M++w) l
 have e2:=H_ M (u++l.rT M) w r
 rw[ah,rT_len]at e2
 simp only[ak]at e1 e2 ⊢
 rw[e1,e2]
theorem zu(M:Mc):∀(a b:List Pl) (la lb:List #[7]) (r:List Nat),a.length=la.length->EV M (a++b) (la++lb) r=EV M b lb (EV M a la r)
 |[],b,[],lb,r,_=>rfl
 |p::a,b,x::la,lb,r,h=>by
  show EV M (a++b) (la++lb) _=_
  rw[zu M a b la lb _ (by simpa using h)];rfl
theorem CL(M:Mc):∀(t:MT) (r:List Nat),EV M t.po (t.lkT r.length) r=r++t.rT M
 |nil,r=>(bx r).symm
 |nd l r m,u=>by
  show EV M (l.po++r.po++[_]) (l.lkT u.length++r.lkT (u.length+l.size)++[(l.tp u.length,r.tp (u.length+l.size))]) u=_
  rw[zu M _ _ _ _ _ (by rw[ah,ah,po_len,po_len,lk_len,lk_len]),zu M _ _ _ _ _ (by rw[po_len,lk_len]),CL M l u]
  have e:=CL M r (u++l.rT M)
  rw[ah,rT_len]at e
  rw[e]
  show(u++l.rT M++r.rT M)++[uX M (u++l.rT M++r.rT M) m _]=_
  have e2:=stp_tp M u [] l r m
  rw[bx,<- ak]at e2
  rw[e2]
  show _=u++(l.rT M++r.rT M++[_])
  rw[ak,ak,ak]
theorem rooms_po(M:Mc)(t:MT):gP M t.po (t.lkT 0)=t.rT M:=CL M t []
end MT
inductive Fm where
 |lf (r:MT) (m:List Nat)
 |rg (l:MT) (m:List Nat)
noncomputable def Fm.ap:Fm->MT->MT
 |.lf r m,x=>.nd x r m
 |.rg l m,x=>.nd l x m
noncomputable def a8:List Fm->MT->MT
 |[],x=>x
 |f::C,x=>a8 C (f.ap x)
noncomputable def pA:List Fm->List Pl
 |[]=>[]
 |.lf _ _::C=>pA C
 |.rg l _::C=>pA C++l.po
noncomputable def pB:List Fm->List Pl
 |[]=>[]
 |.lf r m::C=>r.po++[⟨1+2*r.one,m⟩]++pB C
 |.rg l m::C=>[⟨l.one+2,m⟩]++pB C
noncomputable def rA(M:Mc):List Fm->List Nat
 |[]=>[]
 |.lf _ _::C=>rA M C
 |.rg l _::C=>rA M C++l.rT M
def rB(M:Mc):List Fm->Nat->List Nat
 |[],_=>[]
 |.lf r m::C,a=>r.rT M++[sv M m a (r.tR M)]++rB M C (sv M m a (r.tR M))
 |.rg l m::C,a=>[sv M m (l.tR M) a]++rB M C (sv M m (l.tR M) a)
theorem c8:∀(C:List Fm) (l r:MT) (m:List Nat),#[1].po=pA C++(MT.nd l r m).po++pB C
 |[],l,r,m=>by show _=[]++_++[];rw[eW,bx];rfl
 |.lf y w::C,l,r,m=>by
  show(a8 C (.nd (.nd l r m) y w)).po=_
  rw[c8 C]
  show pA C++((MT.nd l r m).po++y.po++[⟨1+2*y.one,w⟩])++pB C=pA C++_++(y.po++[⟨1+2*y.one,w⟩]++pB C)
  simp only[ak]
 |.rg y w::C,l,r,m=>by
  show(a8 C (.nd y (.nd l r m) w)).po=_
  rw[c8 C]
  show pA C++(y.po++(MT.nd l r m).po++[⟨y.one+2*1,w⟩])++pB C=(pA C++y.po)++_++([⟨y.one+2,w⟩]++pB C)
  simp only[ak]
theorem m_(M:Mc):∀(C:List Fm) (x:MT),(a8 C x).rT M=rA M C++x.rT M++rB M C (x.tR M)
 |[],x=>by show _=[]++_++[];rw[eW,bx];rfl
 |.lf y w::C,x=>by
  show(a8 C (.nd x y w)).rT M=_
  rw[m_ M C]
  show rA M C++(x.rT M++y.rT M++[_])++rB M C _=rA M C++_++(y.rT M++[_]++rB M C _)
  simp only[ak];rfl
 |.rg y w::C,x=>by
  show(a8 C (.nd y x w)).rT M=_
  rw[m_ M C]
  show rA M C++(y.rT M++x.rT M++[_])++rB M C _=(rA M C++y.rT M)++_++([_]++rB M C _)
  simp only[ak];rfl
theorem ng(M:Mc):∀C:List Fm,(rA M C).length=(pA C).length
 |[]=>rfl
 |.lf _ _::C=>ng M C
 |.rg l _::C=>by show(rA M C++l.rT M).length=(pA C++l.po).length;rw[ah,ah,ng M C,MT.rT_len,MT.po_len]
theorem zv:∀(C:List Fm) (x:MT),∃u w,(a8 C x).lkT 0=u++x.lkT (pA C).length++w/\u.length=(pA C).length
 |[],x=>⟨[],[],by rw[eW,bx];rfl,rfl⟩
 |.lf y w::C,x=>by
  obtain⟨u,v,e,h⟩:=zv C (.nd x y w)
  refine⟨u,y.lkT ((pA C).length+x.size)++[(x.tp (pA C).length,y.tp ((pA C).length+x.size))]++v,?_,h⟩
  show(a8 C (.nd x y w)).lkT 0=u++x.lkT (pA C).length++_
  rw[e]
  show u++(x.lkT (pA C).length++_++[_])++v=_
  simp only[ak]
 |.rg y w::C,x=>by
  obtain⟨u,v,e,h⟩:=zv C (.nd y x w)
  have hl:(pA (.rg y w::C)).length=(pA C).length+y.size:=by show(pA C++y.po).length=_;rw[ah,MT.po_len]
  refine⟨u++y.lkT (pA C).length,[(y.tp (pA C).length,x.tp ((pA C).length+y.size))]++v,?_,by rw[ah,MT.lk_len,h,hl]⟩
  show(a8 C (.nd y x w)).lkT 0=_
  rw[e,hl]
  show u++(y.lkT (pA C).length++x.lkT _++[_])++v=_
  simp only[ak]
theorem uY:∀(C:List Fm) (x:MT),∃u w,(a8 C x).szT=u++x.szT++w/\u.length=(pA C).length
 |[],x=>⟨[],[],by rw[eW,bx];rfl,rfl⟩
 |.lf y w::C,x=>by
  obtain⟨u,v,e,h⟩:=uY C (.nd x y w)
  refine⟨u,y.szT++[x.size+y.size+1]++v,?_,h⟩
  show(a8 C (.nd x y w)).szT=_
  rw[e]
  show u++(x.szT++y.szT++[_])++v=_
  simp only[ak]
 |.rg y w::C,x=>by
  obtain⟨u,v,e,h⟩:=uY C (.nd y x w)
  refine⟨u++y.szT,[y.size+x.size+1]++v,?_,by rw[ah,MT.sz_len,h];show _=(pA C++y.po).length;rw[ah,MT.po_len]⟩
  show(a8 C (.nd y x w)).szT=_
  rw[e]
  show u++(y.szT++x.szT++[_])++v=_
  simp only[ak]
theorem tJ(f:Fm):∀(C:List Fm) (x:MT),a8 (C++[f]) x=f.ap (a8 C x)
 |[],x=>rfl
 |g::C,x=>tJ f C (g.ap x)
theorem Ia(r:MT)(m:List Nat):∀C:List Fm,pA (C++[.lf r m])=pA C
 |[]=>rfl
 |.lf _ _::C=>Ia r m C
 |.rg l _::C=>by show pA (C++[.lf r m])++l.po=pA C++l.po;rw[Ia r m C]
theorem Ib(l:MT)(m:List Nat):∀C:List Fm,pA (C++[.rg l m])=l.po++pA C
 |[]=>by show[]++l.po=l.po++[];simp
 |.lf _ _::C=>Ib l m C
 |.rg y _::C=>by show pA (C++[.rg l m])++y.po=l.po++(pA C++y.po);rw[Ib l m C,ak]
theorem pV:∀(t:MT) (q:Nat),q<t.size->∃C l r m,t=a8 C (.nd l r m)/\q=(pA C).length+l.size+r.size
 |.nil,q,h=>absurd h (by simp[MT.size])
 |.nd l r m,q,h=>by
  rw[MT.size_nd]at h
  by_cases h1:q<l.size
  ·obtain⟨C,a,b,w,e1,e2⟩:=pV l q h1
   exact⟨C++[.lf r m],a,b,w,by rw[tJ,<- e1];rfl,by rw[Ia];exact e2⟩
  ·by_cases h2:q<l.size+r.size
   ·obtain⟨C,a,b,w,e1,e2⟩:=pV r (q-l.size) #[0]
    exact⟨C++[.rg l m],a,b,w,by rw[tJ,<- e1];rfl,by rw[Ib,ah,MT.po_len];omega⟩
   ·exact⟨[],l,r,m,rfl,by show q=0+_+_;omega⟩
end P
namespace P
open PySem L2
theorem Ic{a b:List α}{c x:α}{u:Nat}(h:(a++b++[c])[u]?=some x):(u<a.length/\a[u]?=some x)\/(a.length<=u/\u<a.length+b.length/\b[u-a.length]?=some x)\/(u=a.length+b.length/\x=c):=by
 by_cases h1:u<a.length
 ·rw[ak,aK h1]at h
  exact .inl ⟨h1,h⟩
 ·by_cases h2:u<a.length+b.length
  ·rw[ak,aY #[0],aK #[0]]at h
   exact .inr (.inl ⟨by omega,h2,h⟩)
  ·have hu:=(au.mp h).1
   rw[ah,ah,cf]at hu
   have e:u=a.length+b.length:=by omega
   subst e
   rw[aY (by rw[ah];omega),ah,Nat.sub_self]at h
   cases h
   exact .inr (.inr ⟨rfl,rfl⟩)
def KC(x:Option Nat×Option Nat)(j:Nat):Prop:=x.1=some j\/x.2=some j
namespace MT
theorem tp_some{t:MT}{o:Nat}(h:t.tp o=some j):0<t.size/\j+1=o+t.size:=by
 cases t with
 |nil=>cases h
 |nd l r m=>
  have:some (o+l.size+r.size)=some j:=h
  rw[size_nd]
  have:=bq this
  omega
theorem kid_lt:∀(t:MT) {o u j:Nat} {x:Option Nat×Option Nat},(t.lkT o)[u]?=some x->KC x j->o<=j/\j<o+u
 |nil,o,u,j,x,h,_=>by cases h
 |nd l r m,o,u,j,x,h,k=>by
  rcases Ic h with⟨h1,h2⟩|⟨h1,h2,h3⟩|⟨h1,h2⟩
  ·exact kid_lt l h2 k
  ·rw[lk_len]at h1 h2 h3
   have:=kid_lt r h3 k
   omega
  ·rw[lk_len,lk_len]at h1
   subst h2
   rcases k with k|k
   ·have:=tp_some k;omega
   ·have:=tp_some k;omega
theorem par_one:∀(t:MT) {o u v j:Nat} {x y:Option Nat×Option Nat},(t.lkT o)[u]?=some x->(t.lkT o)[v]?=some y->KC x j->KC y j->u=v
 |nil,o,u,v,j,x,y,h,_,_,_=>by cases h
 |nd l r m,o,u,v,j,x,y,h,h',k,k'=>by
  have hl:=lk_len l o
  have hr:=lk_len r (o+l.size)
  have rt:∀{z:Option Nat×Option Nat},z=(l.tp o,r.tp (o+l.size))->KC z j->(j+1=o+l.size/\0<l.size)\/(j+1=o+l.size+r.size/\0<r.size):=fun{z} e k=>by
   subst e
   rcases k with k|k
   ·have:=tp_some k;exact .inl ⟨by omega,by omega⟩
   ·have:=tp_some k;exact .inr ⟨by omega,by omega⟩
  rcases Ic h with⟨h1,h2⟩|⟨h1,h2,h3⟩|⟨h1,h2⟩
  ·have b:=kid_lt l h2 k
   rcases Ic h' with⟨g1,g2⟩|⟨g1,g2,g3⟩|⟨g1,g2⟩
   ·exact par_one l h2 g2 k k'
   ·have:=kid_lt r g3 k';omega
   ·have:=rt g2 k';omega
  ·have b:=kid_lt r h3 k
   rcases Ic h' with⟨g1,g2⟩|⟨g1,g2,g3⟩|⟨g1,g2⟩
   ·have:=kid_lt l g2 k';omega
   ·have:=par_one r h3 g3 k k';omega
   ·have:=rt g2 k';omega
  ·have b:=rt h2 k
   rcases Ic h' with⟨g1,g2⟩|⟨g1,g2,g3⟩|⟨g1,g2⟩
   ·have:=kid_lt l g2 k';omega
   ·have:=kid_lt r g3 k';omega
   ·omega
end MT
noncomputable def Fi(A B:List (Option Nat))(p:Nat):Option Nat:=match A.getD p none with
 |some u=>some u
 |none=>B.getD p none
theorem fS:∀(C:List Fm) (x:MT),0<x.size->(pA C).length+x.size<=(a8 C x).size
 |[],x,h=>by show 0+x.size<=x.size;omega
 |.lf y w::C,x,h=>by
  have:=fS C (.nd x y w) (by rw[MT.size_nd];omega)
  rw[MT.size_nd]at this
  show(pA C).length+x.size<=(a8 C (.nd x y w)).size
  omega
 |.rg y w::C,x,h=>by
  have:=fS C (.nd y x w) (by rw[MT.size_nd];omega)
  rw[MT.size_nd]at this
  show(pA C++y.po).length+x.size<=(a8 C (.nd y x w)).size
  rw[ah,MT.po_len]
  omega
theorem pW(C:List Fm)(l r:MT)(m:List Nat):(#[1].lkT 0)[(pA C).length+l.size+r.size]?=some (l.tp (pA C).length,r.tp ((pA C).length+l.size)):=by
 obtain⟨u,w,e,h⟩:=zv C (.nd l r m)
 rw[e,ak,aY #[0],h]
 show((l.lkT (pA C).length++r.lkT ((pA C).length+l.size)++[_])++w)[_]?=_
 rw[aK (by simp[MT.lk_len];omega),aY (by rw[ah,MT.lk_len,MT.lk_len];omega),ah,MT.lk_len,MT.lk_len,show(pA C).length+l.size+r.size-(pA C).length-(l.size+r.size)=0 by omega]
 rfl
theorem Up.is{t:MT}{A:List (Option Nat)}(hf:∀x j,f x=some j->KC x j)(h:Up (t.lkT 0) f t.size A){p:Nat}(hx:(t.lkT 0)[p]?=some x)(hk:f x=some j):A.getD j none=some p:=by
 have hp:p<t.size:=by have:=(au.mp hx).1;rwa[MT.lk_len]at this
 obtain⟨v,hv⟩:=h.2 p x j hp hx hk
 obtain⟨y,hy,hy2⟩:=h.1 j v hv
 rw[aO,hv,Option.getD_some,MT.par_one t hy hx (hf _ _ hy2) (hf _ _ hk)]
theorem Up.no{t:MT}{A:List (Option Nat)}(h:Up (t.lkT 0) f t.size A)(hn:∀(p:Nat) (x:Option Nat×Option Nat),(t.lkT 0)[p]?=some x->f x≠some j):A.getD j none=none:=by
 rw[aO]
 cases e:A[j]? with
 |none=>rfl
 |some o=>
  cases o with
  |none=>rfl
  |some u=>
   obtain⟨y,hy,hy2⟩:=h.1 j u e
   exact absurd hy2 (hn u y hy)
theorem OR{x:MT}{A:List (Option Nat)}(hA:Up (x.lkT 0) Prod.fst x.size A)(hB:Up (x.lkT 0) Prod.snd x.size B)(h0:0<x.size):Fi A B (x.size-1)=none:=by
 have key:∀(p:Nat) (y:Option Nat×Option Nat),(x.lkT 0)[p]?=some y->¬ KC y (x.size-1):=fun p y hy hk=>by
  have:=MT.kid_lt x hy hk
  have hp:=(au.mp hy).1
  rw[MT.lk_len]at hp
  omega
 unfold Fi
 rw[hA.no fun p y hy e=>key p y hy (.inl e)]
 exact hB.no fun p y hy e=>key p y hy (.inr e)
theorem RX{C:List Fm}{x y:MT}{w:List Nat}{A B:List (Option Nat)}{t:MT}(ht:t=a8 C (.nd x y w))(hA:Up (t.lkT 0) Prod.fst t.size A)(h0:0<x.size):Fi A B ((pA C).length+x.size-1)=some ((pA C).length+x.size+y.size):=by
 subst ht
 have e:=pW C x y w
 have hx:x.tp (pA C).length=some ((pA C).length+x.size-1):=by
  cases x with
  |nil=>exact absurd h0 (by decide)
  |nd a b c=>rw[MT.tp_nd]
 unfold Fi
 rw[hA.is (fun _ _ h=>.inl h) e hx]
theorem RY{C:List Fm}{x y:MT}{w:List Nat}{A:List (Option Nat)}{t:MT}(ht:t=a8 C (.nd y x w))(hA:Up (t.lkT 0) Prod.fst t.size A)(hB:Up (t.lkT 0) Prod.snd t.size B)(h0:0<x.size):Fi A B ((pA C).length+y.size+x.size-1)=some ((pA C).length+y.size+x.size):=by
 subst ht
 have e:=pW C y x w
 have hx:x.tp ((pA C).length+y.size)=some ((pA C).length+y.size+x.size-1):=by
  cases x with
  |nil=>exact absurd h0 (by decide)
  |nd a b c=>rw[MT.tp_nd]
 unfold Fi
 rw[hA.no (fun p z hz k=>by
  obtain rfl:=MT.par_one _ hz e (.inl k) (.inr hx)
  rw[e]at hz
  cases hz
  have:=MT.tp_some k
  omega)]
 exact hB.is (fun _ _ h=>.inr h) e hx
end P
namespace P
open PySem L2
section
variable{M:Mc}
theorem v8(hM:mz M n)(m:List Nat){a b:Nat}(ha:a<n)(hb:b<n):sv M m a b<n:=by
 have h1:ku m M.nm<M.tb.length:=by rw[hM.tb];exact DQ m M.nm
 have e1:=lh [] h1
 obtain⟨t1,t2⟩:=hM.t _ (cw e1)
 have e2:=lh (l:=M.tb.getD (ku m M.nm) []) [] (i:=a) #[0]
 obtain⟨t3,t4⟩:=t2 _ (cw e2)
 have e3:=lh (l:=(M.tb.getD (ku m M.nm) []).getD a []) 0 (i:=b) #[0]
 exact t4 _ (cw e3)
theorem MT.tR_lt(hM:mz M n)(hn:1<=n):∀t:MT,t.tR M<n
 |.nil=>hn
 |.nd l r m=>v8 hM m (tR_lt hM hn l) (tR_lt hM hn r)
theorem MT.rT_lt(hM:mz M n)(hn:1<=n):∀t:MT,∀k∈t.rT M,k<n
 |.nil,k,h=>by cases h
 |.nd l r m,k,h=>by
  rcases aX.mp h with h|h
  ·rcases aX.mp h with h|h
   ·exact rT_lt hM hn l k h
   ·exact rT_lt hM hn r k h
  ·rw[a9.mp h];exact v8 hM m (tR_lt hM hn l) (tR_lt hM hn r)
def Fm.rm(M:Mc):Fm->Nat->Nat
 |.lf r m,a=>sv M m a (r.tR M)
 |.rg l m,a=>sv M m (l.tR M) a
theorem Id(hM:mz M n)(hn:1<=n):∀C:List Fm,∀k∈rA M C,k<n
 |[],k,h=>by cases h
 |.lf _ _::C,k,h=>Id hM hn C k h
 |.rg l _::C,k,h=>by
  rcases aX.mp h with h|h
  ·exact Id hM hn C k h
  ·exact l.rT_lt hM hn k h
theorem Ie(hM:mz M n)(hn:1<=n):∀(C:List Fm) {a:Nat},a<n->∀k∈rB M C a,k<n
 |[],a,_,k,h=>by cases h
 |.lf r m::C,a,ha,k,h=>by
  have hv:=v8 hM m ha (r.tR_lt hM hn)
  rcases aX.mp h with h|h
  ·rcases aX.mp h with h|h
   ·exact r.rT_lt hM hn k h
   ·rw[a9.mp h];exact hv
  ·exact Ie hM hn C hv k h
 |.rg l m::C,a,ha,k,h=>by
  have hv:=v8 hM m (l.tR_lt hM hn) ha
  rcases aX.mp h with h|h
  ·rw[a9.mp h];exact hv
  ·exact Ie hM hn C hv k h
def fr(M:Mc)(C:List Fm)(l r:MT)(o:Nat):List Nat:=rA M C++(l.rT M++r.rT M++[o])++rB M C o
theorem RZ(hM:mz M n)(hn:1<=n)(C:List Fm)(l r:MT){o:Nat}(ho:o<n):∀k∈fr M C l r o,k<n:=fun k h=>by
 rcases aX.mp h with h|h
 ·rcases aX.mp h with h|h
  ·exact Id hM hn C k h
  ·rcases aX.mp h with h|h
   ·rcases aX.mp h with h|h
    ·exact l.rT_lt hM hn k h
    ·exact r.rT_lt hM hn k h
   ·rw[a9.mp h];exact ho
 ·exact Ie hM hn C ho k h
theorem v9(a b c d:List α)(o:α){p:Nat}(hp:p=a.length+b.length+c.length):(a++(b++c++[o])++d)[p]?=some o:=by
 subst hp
 rw[show a++(b++c++[o])++d=(a++b++c)++o::d by simp,aY (by simp[jX])]
 simp[jX]
theorem KD(a b c d:List α)(o v:α){p:Nat}(hp:p=a.length+b.length+c.length):(a++(b++c++[o])++d).set p v=a++(b++c++[v])++d:=by
 subst hp
 rw[show a++(b++c++[o])++d=(a++b++c)++o::d by simp,oh _ _ (by simp[jX]),show a.length+b.length+c.length-(a++b++c).length=0 by simp;omega]
 simp
theorem Ig(M:Mc)(C:List Fm)(l r:MT):(pA C).length+l.size+r.size=(rA M C).length+(l.rT M).length+(r.rT M).length:=by rw[ng,MT.rT_len,MT.rT_len]
noncomputable def v_(M:Mc):List Fm->Nat->Nat->Nat
 |[],_,_=>1
 |f::C,v,o=>if v=o then 1 else 1+v_ M C (f.rm M v) (f.rm M o)
theorem CM{A:List (Option Nat)}{ua ub p:Nat}(ha:st[ua]?=some (.lst (A.map oW)))(hb:st[ub]?=some (.lst (B.map oW)))(hp:p<A.length)(Ji:p<B.length):ET [.tup [.loc ua,.loc ub],.int p] st=.ok (oW (Fi A B p)) st:=by
 have ea:bj (.loc ua) (.int p) st=.ok (oW (A.getD p none)) st:=j6 (b6 ha) (gk (by rw[aJ,lh none hp];rfl))
 have eb:bj (.loc ub) (.int p) st=.ok (oW (B.getD p none)) st:=j6 (b6 hb) (gk (by rw[aJ,lh none Ji];rfl))
 unfold Fi
 cases e:A.getD p none with
 |some u=>
  rw[e]at ea
  apply dQ
  apply bQ
  ·exact t9 (a7 (dU (bu kx kv ea) rfl)) (bu kx kv ea)
  ·exact⟨_,_,rfl,rfl,rfl⟩
 |none=>
  rw[e]at ea
  apply dQ
  apply bQ
  ·exact t_ (a7 (dU (bu kx kv ea) rfl)) (bu kx kv eb)
  ·exact⟨_,_,rfl,rfl,rfl⟩
theorem OS{g g':FS}{ρ':cM}(h:g ρ st=.bk ρ' st1):aI g g' ρ st=.bk ρ' st1:=by unfold aI;rw[h]
abbrev cT:FT:=eF (gu (ag 8))
abbrev cB:FS:=(aI (ba 9 (cu 4 rQ (ai (ag 0) (ai (e2 bj (e2 bj (ag 1) (ag 8)) (eI 1)) (ai (e2 bj (ag 4) (ag 8)) (ai (ag 6) aD)))))) (aI (ba 7 (e2 cQ (ag 7) (eI 1))) (aI (fO (eF (e2 iN (ag 9) (e2 bj (ag 6) (ag 8)))) Ce bK) (aI (wO (ag 6) (ag 8) (ag 9) qi) (ba 8 (cu 2 ET (ai (ag 5) (ai (ag 8) aD))))))))
abbrev cR(M:Mc)(t:MT)(x2:W)(q ua ub pf c:Nat)(o8 o9:Option W):cM:=[some M.w,some (b_ t.po),some x2,iO (q:Nat),some (.tup ((t.lkT 0).map gE)),some (.tup [.loc ua,.loc ub]),lO pf,iO (c:Nat),o8,o9]
theorem Bf{g:FS}{k:Nat}{ρ':cM}(h:t ρ st=.ok true st)(e:g ρ st=.bk ρ' bn):dE t g (k+1) ρ st=.nx ρ' bn:=by unfold dE;rw[h];simp only[R.stmt_ok,f6,e]
theorem o_{t:FT}{g:FS}{k:Nat}{ρ':cM}{rs:RS}(h:t ρ st=.ok true st)(e:g ρ st=.nx ρ' bn)(e2:dE t g k ρ' bn=rs):dE t g (k+1) ρ st=rs:=by unfold dE;rw[h];simp only[R.stmt_ok,f6,e];exact e2
theorem yc{g:FS}{k:Nat}(h:t ρ st=.ok false st):dE t g (k+1) ρ st=.nx ρ st:=by unfold dE;rw[h];rfl
theorem nh(C:List Fm)(l r:MT)(m:List Nat):#[1].po[(pA C).length+l.size+r.size]?=some ⟨l.one+2*r.one,m⟩:=by
 rw[c8]
 exact v9 (pA C) l.po r.po (pB C) _ (by rw[MT.po_len,MT.po_len])
section
variable{t:MT}{A:List (Option Nat)}{ua ub pf:Nat}
theorem KF(M:Mc)(C:List Fm)(l r:MT)(m:List Nat)(o:Nat):uX M (fr M C l r o) m (l.tp (pA C).length,r.tp ((pA C).length+l.size))=sv M m (l.tR M) (r.tR M):=by
 have:=MT.stp_tp M (rA M C) ([o]++rB M C o) l r m
 rw[ng]at this
 rw[<- this]
 unfold fr
 simp only[ak]
theorem wa(hM:mz M n)(hn:1<=n)(x2:W)(q:Nat)(lA:A.length=t.size)(lB:B.length=t.size)(na:pf≠ua)(nb:pf≠ub){C:List Fm}{l r:MT}{o:Nat}(c:Nat)(o9:Option W)(ht:t=a8 C (.nd l r m))(ho:o<n)(ha:st[ua]?=some (.lst (A.map oW)))(hb:st[ub]?=some (.lst (B.map oW)))(hf:st[pf]?=some (.lst (nW (fr M C l r o)))) :
  (sv M m (l.tR M) (r.tR M)=o->cB (cR M t x2 q ua ub pf c (iO ((pA C).length+l.size+r.size:Nat)) o9) st=.bk (cR M t x2 q ua ub pf (c+1) (iO ((pA C).length+l.size+r.size:Nat)) (iO (o:Nat))) st) /\
  (sv M m (l.tR M) (r.tR M)≠o->cB (cR M t x2 q ua ub pf c (iO ((pA C).length+l.size+r.size:Nat)) o9) st=.nx (cR M t x2 q ua ub pf (c+1) (some (oW (Fi A B ((pA C).length+l.size+r.size)))) (iO (sv M m (l.tR M) (r.tR M):Nat))) (st.set pf (.lst (nW (rA M C++(l.rT M++r.rT M++[sv M m (l.tR M) (r.tR M)])++rB M C o))))):=by
 have hx:=pW C l r m
 have hp:=nh C l r m
 have hg:=MT.gr0 #[1]
 have hz:=fS C (.nd l r m) (by rw[MT.size_nd];omega)
 rw[<- ht]at hx hp hg hz
 rw[MT.size_nd]at hz
 have hs:=KF M C l r m o
 have hat:(fr M C l r o)[(pA C).length+l.size+r.size]?=some o:=v9 _ _ _ _ _ (Ig M C l r)
 have Ph:(fr M C l r o).set ((pA C).length+l.size+r.size) #[13]=rA M C++(l.rT M++r.rT M++[sv M m (l.tR M) (r.tR M)])++rB M C o:=KD _ _ _ _ _ _ (Ig M C l r)
 have hfl:=(au.mp hat).1
 have hlk:=hg.lk hx
 have hr:=L7 (m:=m) hM hn (RZ hM hn C l r ho) (x:=(l.tp (pA C).length,r.tp ((pA C).length+l.size))) ⟨fun k e=>nr (hlk.1 k e) hfl,fun k e=>nr (hlk.2 k e) hfl⟩ st hf
 rw[hs]at hr
 generalize hv:sv M m (l.tR M) (r.tR M)=v at *
 generalize hP:(pA C).length+l.size+r.size=p at *
 have e9:ba 9 (cu 4 rQ (ai (ag 0) (ai (e2 bj (e2 bj (ag 1) (ag 8)) (eI 1)) (ai (e2 bj (ag 4) (ag 8)) (ai (ag 6) aD))))) (cR M t x2 q ua ub pf c (iO (p:Nat)) o9) st=.nx (cR M t x2 q ua ub pf c (iO (p:Nat)) (iO (v:Nat))) st:=
  a_ (cy (aw kv (aw (bu (bu kv kv (r6 hp st)) bW (CB _ st)) (aw (bu kv kv (oJ (gk (by rw[aJ,hx];rfl)))) kn))) hr rfl)
 have e7:ba 7 (e2 cQ (ag 7) (eI 1)) (cR M t x2 q ua ub pf c (iO (p:Nat)) (iO (v:Nat))) st=.nx (cR M t x2 q ua ub pf (c+1) (iO (p:Nat)) (iO (v:Nat))) st:=a_ (bu kv bW dX)
 have eq:∀b,decide (v=o)=b->eF (e2 iN (ag 9) (e2 bj (ag 6) (ag 8))) (cR M t x2 q ua ub pf (c+1) (iO (p:Nat)) (iO (v:Nat))) st=.ok b st:=fun b hb=>a7 (bu kv (bu kv kv (xZ hf hat)) (gj (by rw[<- hb,iZ,dg,gI];omega)))
 refine⟨fun h=>?_,fun h=>?_⟩
 ·refine bN e9 (bN e7 (OS ?_))
  rw[cN (eq true (bw h)) rfl,h];rfl
 ·refine bN e9 (bN e7 (bN (cG (eq false (aW h)) rfl) (bN (AE kv kv kv (CD hf (by show _<(List.map _ _).length;rw[aF];exact hfl))) ?_)))
  rw[show(nW (fr M C l r o)).set p (W.int (v:Nat))=nW ((fr M C l r o).set p v) by unfold nW;rw[sD],Ph]
  exact a_ (cy (aw kv kn) (CM (by rw[bH na];exact ha) (by rw[bH nb];exact hb) #[0] #[0]) rfl)
theorem CN(hM:mz M n)(hn:1<=n)(x2:W)(q:Nat)(hA:Up (t.lkT 0) Prod.fst t.size A)(hB:Up (t.lkT 0) Prod.snd t.size B)(lA:A.length=t.size)(lB:B.length=t.size)(na:pf≠ua)(nb:pf≠ub) :
  ∀(C:List Fm) (l r:MT) (m:List Nat) (o c:Nat) (o9:Option W) (st:List al),t=a8 C (.nd l r m)->o<n->st[ua]?=some (.lst (A.map oW))->st[ub]?=some (.lst (B.map oW))->st[pf]?=some (.lst (nW (fr M C l r o))) ->
   ∃o8 o9' bn,dE cT cB (C.length+2) (cR M t x2 q ua ub pf c (iO ((pA C).length+l.size+r.size:Nat)) o9) st=.nx (cR M t x2 q ua ub pf (c+v_ M C #[13] o) o8 o9') bn/\bn[pf]?=some (.lst (nW (t.rT M)))/\∀i,i≠pf->bn[i]?=st[i]?:=by
 intro C
 induction C with
 |nil=>
  intro l r m o c o9 st ht ho ha hb hf
  obtain⟨s1,s2⟩:=wa hM hn x2 q lA lB na nb c o9 ht ho ha hb hf
  by_cases h:sv M m (l.tR M) (r.tR M)=o
  ·refine⟨_,_,st,Bf (a7 (dU kv rfl)) (s1 h),?_,fun _ _=>rfl⟩
   rw[hf,ht]
   unfold fr
   rw[show(a8 [] (.nd l r m)).rT M=rA M []++(l.rT M++r.rT M++[sv M m (l.tR M) (r.tR M)])++rB M [] #[13]from m_ M [] _,h]
  ·have e:=s2 h
   have hu:Fi A B ((pA []).length+l.size+r.size)=none:=by
    have:=OR hA hB (by rw[ht];show 0<l.size+r.size+1;omega)
    rw[show t.size=l.size+r.size+1 by rw[ht];rfl]at this
    rw[<- this];congr 1;show 0+_+_=_;omega
   rw[hu]at e
   refine⟨_,_,_,o_ (a7 (dU kv rfl)) e (yc (a7 (dU kv rfl))),?_,fun i hi=>bH (Ne.symm hi)⟩
   rw[d9 hf,ht]
   show some (al.lst (nW ([]++_++[])))=_
   rw[eW,bx];rfl
 |cons f C ih=>
  intro l r m o c o9 st ht ho ha hb hf
  obtain⟨s1,s2⟩:=wa hM hn x2 q lA lB na nb c o9 ht ho ha hb hf
  by_cases h:sv M m (l.tR M) (r.tR M)=o
  ·rw[show v_ M (f::C) #[13] o=1 from aE h]
   refine⟨_,_,st,Bf (a7 (dU kv rfl)) (s1 h),?_,fun _ _=>rfl⟩
   rw[hf,ht]
   unfold fr
   rw[m_ M (f::C),show(MT.nd l r m).tR M=o from h,show(MT.nd l r m).rT M=l.rT M++r.rT M++[sv M m (l.tR M) (r.tR M)]from rfl,h]
  ·have e:=s2 h
   rw[show v_ M (f::C) #[13] o=1+v_ M C (f.rm M #[13]) (f.rm M o)from aL h,<- jX]
   cases f with
   |lf y w=>
    have hu:Fi A B ((pA (.lf y w::C)).length+l.size+r.size)=some ((pA C).length+(MT.nd l r m).size+y.size):=by
     have:=RX (B:=B) (t:=t) (C:=C) (x:=.nd l r m) (y:=y) (w:=w) ht hA (by rw[MT.size_nd];omega)
     rw[<- this];congr 1;rw[MT.size_nd];show(pA C).length+_+_=_;omega
    rw[hu]at e
    obtain⟨o8,o9',bn,e2,e3,e4⟩:=ih (.nd l r m) y w (sv M w o (y.tR M)) (c+1) (iO (sv M m (l.tR M) (r.tR M):Nat)) (st.set pf (.lst (nW (rA M (.lf y w::C)++(l.rT M++r.rT M++[sv M m (l.tR M) (r.tR M)])++rB M (.lf y w::C) o)))) ht (v8 hM w ho (y.tR_lt hM hn)) (by rw[bH na];exact ha) (by rw[bH nb];exact hb) (by
     rw[d9 hf]
     unfold fr
     show some (al.lst (nW (rA M C++_++(y.rT M++[_]++rB M C _))))=some (al.lst (nW (rA M C++((l.rT M++r.rT M++[_])++y.rT M++[_])++rB M C _)))
     simp only[ak])
    exact⟨o8,o9',bn,o_ (a7 (dU kv rfl)) e e2,e3,fun i hi=>by rw[e4 i hi];exact bH (Ne.symm hi)⟩
   |rg y w=>
    have hu:Fi A B ((pA (.rg y w::C)).length+l.size+r.size)=some ((pA C).length+y.size+(MT.nd l r m).size):=by
     have:=RY (t:=t) (C:=C) (x:=.nd l r m) (y:=y) (w:=w) ht hA hB (by rw[MT.size_nd];omega)
     rw[<- this];congr 1;rw[MT.size_nd];show(pA C++y.po).length+_+_=_;rw[ah,MT.po_len];omega
    rw[hu]at e
    obtain⟨o8,o9',bn,e2,e3,e4⟩:=ih y (.nd l r m) w (sv M w (y.tR M) o) (c+1) (iO (sv M m (l.tR M) (r.tR M):Nat)) (st.set pf (.lst (nW (rA M (.rg y w::C)++(l.rT M++r.rT M++[sv M m (l.tR M) (r.tR M)])++rB M (.rg y w::C) o)))) ht (v8 hM w (y.tR_lt hM hn) ho) (by rw[bH na];exact ha) (by rw[bH nb];exact hb) (by
     rw[d9 hf]
     unfold fr
     show some (al.lst (nW ((rA M C++y.rT M)++_++([_]++rB M C _))))=some (al.lst (nW (rA M C++(y.rT M++(l.rT M++r.rT M++[_])++[_])++rB M C _)))
     simp only[ak])
    exact⟨o8,o9',bn,o_ (a7 (dU kv rfl)) e e2,e3,fun i hi=>by rw[e4 i hi];exact bH (Ne.symm hi)⟩
end
theorem CO(hM:mz M n)(hn:1<=n){C:List Fm}{l r t:MT}{o:Nat}(ht:t=a8 C (.nd l r m))(ho:o<n)(hs:t.size<=900)(st:List al) :
  A1 [M.w,b_ t.po,gO (fr M C l r o),.int ((pA C).length+l.size+r.size:Nat)] st=.ok (.tup [gO (t.rT M),.int (v_ M C #[13] o:Nat)]) st:=by
 have hg:=t.gr0
 have hl:=t.po_len
 obtain⟨A,B,x,lA,lB,uA,uB,cA,cB',e5⟩:=OO hg #[0] st
 rw[hl]at lA lB uA uB
 have e6:xB [gO (fr M C l r o)] (st++x)=.ok (.loc (st++x).length) (st++x++[.lst (nW (fr M C l r o))]):=OL
 have nA:(st++x).length≠st.length:=fun e=>by have:=fP cA;omega
 have nB:(st++x).length≠st.length+1:=fun e=>by have:=fP cB';omega
 obtain⟨o8,o9,bn,e8,e9,e10⟩:=CN hM hn (gO (fr M C l r o)) ((pA C).length+l.size+r.size) uA uB lA lB nA nB C l r m o 0 none (st++x++[.lst (nW (fr M C l r o))]) ht ho (cJ cA) (cJ cB') dz
 rw[iz]at e8
 refine f9 ?_ (by simp[undWs,uW,W.und])
 apply aA
 ·exact a_ (cy kn (rZ hg #[0] st) rfl)
 apply aA
 ·exact a_ (cy kn e5 rfl)
 apply aA
 ·exact a_ (cC kn e6)
 apply aA
 ·exact a_ bW
 apply aA
 ·exact a_ kv
 apply aA
 ·exact pL e8 #[15]
 apply bQ
 ·exact eX (aw (cC kn (oM (b6 e9))) kn) (ao rfl)
 ·refine⟨_,_,rfl,rfl,?_⟩
  have:st <+: bn:=List.prefix_iff_getElem?.mpr fun i hi=>by
   rw[e10 i (by rw[ah];omega),ak,aK hi,aq hi]
  exact this.imp fun x e=>e.symm
end
theorem MT.one_of:∀{t:MT},0<t.size->t.one=1
 |.nil,h=>absurd h (by decide)
 |.nd _ _ _,_=>rfl
theorem MT.one_bit:∀t:MT,pU t.po=t.one
 |.nil=>rfl
 |.nd l r m=>by unfold pU;rw[aE (by rw[MT.po_len,MT.size_nd];omega)];rfl
theorem MT.one_le:∀t:MT,t.one<=1/\(0<t.size↔t.one=1)
 |.nil=>⟨by decide,by decide⟩
 |.nd l r m=>⟨az 1,by rw[MT.size_nd];exact⟨fun _=>rfl,fun _=>by omega⟩⟩
theorem Gr.mts{ps:List Pl}{sz:List Nat}{lk:List #[7]}(h:Gr ps S sz lk):∃F:List MT,(∀t∈F,0<t.size)/\S=F.map MT.size/\ps=(F.reverse.map MT.po).flatten:=by
 induction h with
 |nil=>exact⟨[],by simp,rfl,rfl⟩
 |@snoc ps S S' sz lk b k m x h hs ih=>
  obtain⟨F,h1,rfl,rfl⟩:=ih
  have add:∀(t:MT) (G:List MT),0<t.size->(∀x∈G,0<x.size)->∀x∈t::G,0<x.size:=fun t G h g x hx=>by
   rcases aT.mp hx with rfl|hx
   ·exact h
   ·exact g x hx
  generalize hS:F.map MT.size=S0 at hs
  cases hs with
  |z=>
   refine⟨.nd .nil .nil m::F,add _ _ (Nat.succ_pos _) h1,by rw[<- hS];rfl,?_⟩
   rw[bA,bb,dF];rfl
  |l=>
   match F,hS with
   |t::F,hS=>
    rw[aU]at hS
    cases hS
    have ht:=h1 t bC
    refine⟨.nd t .nil m::F,add _ _ (by rw[MT.size_nd];omega) fun x hx=>h1 x (aS _ hx),?_,?_⟩
    ·rw[aU,MT.size_nd];congr 1;show _=_+0+1;omega
    ·rw[bA,bb,dF,bA,bb,dF,ak]
     congr 1
     show(t.po++[])++_=(t.po++[]++[⟨t.one+2*0,m⟩])++[]
     rw[MT.one_of ht];simp
  |r=>
   match F,hS with
   |t::F,hS=>
    rw[aU]at hS
    cases hS
    have ht:=h1 t bC
    refine⟨.nd .nil t m::F,add _ _ (by rw[MT.size_nd];omega) fun x hx=>h1 x (aS _ hx),?_,?_⟩
    ·rw[aU,MT.size_nd];congr 1;show _=0+_+1;omega
    ·rw[bA,bb,dF,bA,bb,dF,ak]
     congr 1
     show(t.po++[])++_=([]++t.po++[⟨0+2*t.one,m⟩])++[]
     rw[MT.one_of ht];simp
  |b=>
   match F,hS with
   |c::t::F,hS=>
    rw[aU,aU]at hS
    cases hS
    have hc:=h1 c bC
    have ht:=h1 t (aS _ bC)
    refine⟨.nd t c m::F,add _ _ (by rw[MT.size_nd];omega) fun x hx=>h1 x (aS _ (aS _ hx)),?_,?_⟩
    ·rw[aU,MT.size_nd];congr 1;omega
    ·rw[bA,bb,dF,bA,bA,bb,dF,bb,dF,ak,ak]
     congr 1
     show(t.po++[])++((c.po++[])++_)=(t.po++c.po++[⟨t.one+2*c.one,m⟩])++[]
     rw[MT.one_of ht,MT.one_of hc];simp
   |[_],hS=>simp at hS
theorem Gr.mt{ps:List Pl}{sz:List Nat}{lk:List #[7]}(h:Gr ps S sz lk)(h1:S.length<=1):∃t:MT,ps=t.po:=by
 obtain⟨F,_,rfl,rfl⟩:=h.mts
 match F,h1 with
 |[],_=>exact⟨.nil,rfl⟩
 |[t],_=>exact⟨t,by simp⟩
 |_::_::_,h=>simp at h
section
variable{M:Mc}
def pq(C:List Fm)(l r:MT):Nat:=(pA C).length+l.size+r.size
theorem Bg(C:List Fm)(l r:MT)(m:List Nat):HX #[1].po #[1].szT (pq C l r) ⟨l.one+2*r.one,m⟩ l.size r.size:=by
 obtain⟨u,w,e,hu⟩:=uY C (.nd l r m)
 have hl:=l.one_le
 have hr:=r.one_le
 refine⟨nh C l r m,?_,by unfold pq;omega,by show l.one+2*r.one<=3;omega,by show _↔(l.one+2*r.one)%2=1;omega,by show _↔2<=l.one+2*r.one;omega,fun h=>?_⟩
 ·rw[e,show 1+l.size+r.size=l.size+r.size+1 by omega]
  exact v9 u l.szT r.szT w _ (by rw[hu,MT.sz_len,MT.sz_len];rfl)
 ·have h2:2<=l.one+2*r.one:=h
  cases r with
  |nil=>exact absurd h2 (by show ¬ 2<=l.one+2*0;omega)
  |nd a b c=>
   rw[MT.size_nd]
   refine⟨by unfold pq;rw[MT.size_nd];omega,?_⟩
   rw[e,show(MT.nd l (.nd a b c) m).szT=l.szT++(a.szT++b.szT++[a.size+b.size+1])++[l.size+(MT.nd a b c).size+1]from rfl,<- ak,<- ak,ak]
   exact v9 (u++l.szT) a.szT b.szT _ _ (by rw[ah,hu,MT.sz_len,MT.sz_len,MT.sz_len];unfold pq;rw[MT.size_nd];omega)
theorem uZ{a b c d:List α}{p q k:Nat}(hp:p=a.length)(hk:k=b.length):((a++(b++c)++d).drop p).take k=b:=by
 subst hp;subst hk
 rw[ak,List.drop_left,ak,gs]
theorem Bh(C:List Fm)(l r:MT)(m:List Nat):CI #[1].po (pq C l r) l.size r.size=l.po:=by
 unfold CI pq
 rw[c8,show(MT.nd l r m).po=l.po++(r.po++[⟨l.one+2*r.one,m⟩])from ak _ _ _]
 exact uZ (q:=0) #[0] (MT.po_len l).symm
theorem Bi(C:List Fm)(l r:MT)(m:List Nat):CJ #[1].po (pq C l r) r.size=r.po:=by
 unfold CJ pq
 rw[c8,show pA C++(MT.nd l r m).po++pB C=(pA C++l.po)++(r.po++[⟨l.one+2*r.one,m⟩])++pB C by show pA C++(l.po++r.po++_)++_=_;simp only[ak]]
 exact uZ (q:=0) (by rw[ah,MT.po_len];omega) (MT.po_len r).symm
theorem Bj(C:List Fm)(l r x:MT)(m:List Nat)(sd:Bool):Pu #[1].po (pq C l r) l.size r.size m sd x.po=(a8 C (.nd (if sd then x else l) (if sd then r else x) m)).po:=by
 unfold Pu
 rw[Bh,Bi]
 have e1:#[1].po.take (pq C l r-l.size-r.size)=pA C:=by
  rw[c8,ak,show pq C l r-l.size-r.size=(pA C).length by unfold pq;omega,gs]
 have e2:#[1].po.drop (pq C l r+1)=pB C:=by
  rw[c8]
  exact gR (by rw[ah,MT.po_len,MT.size_nd];unfold pq;omega)
 rw[e1,e2,c8]
 cases sd
 ·show pA C++(l.po++x.po++[⟨pU l.po+2*pU x.po,m⟩])++pB C=_
  rw[MT.one_bit,MT.one_bit];rfl
 ·show pA C++(x.po++r.po++[⟨pU x.po+2*pU r.po,m⟩])++pB C=_
  rw[MT.one_bit,MT.one_bit];rfl
theorem Bk{a:List Nat}(h:q<=a.length)(st:List al):wF (gO a) none (some (q:Int)) st=.ok (gO (a.take q)) st:=by
 show R.ok (W.tup (jp _ _ _)) st=_
 rw[mV (by simpa using h),<- mw];rfl
theorem Bm{a:List Nat}(h:q<=a.length)(st:List al):wF (gO a) (some (q:Int)) none st=.ok (gO (a.drop q)) st:=by
 show R.ok (W.tup (jp _ _ _)) st=_
 rw[rK (by simpa using h),<- mx];rfl
theorem se(a b:List Nat)(h:(a++b).length<=100000)(st:List al):cQ (gO a) (gO b) st=.ok (gO (a++b)) st:=by
 unfold gO
 rw[bb]
 exact GM (by rw[<- bb,aF];show _<=1000000;omega)
theorem sf(hM:mz M n)(hn:1<=n)(t:MT)(h:t.size<=900)(st:List al):nN [M.w,b_ t.po] st=.ok (gO (t.rT M)) st:=by
 have:=HP t.gr0 (by rw[MT.po_len];omega) hM hn st
 rwa[MT.rooms_po]at this
theorem Ih(C:List Fm)(l r:MT)(m:List Nat)(h:#[1].size<=900)(st:List al):qm [b_ #[1].po,.int (pq C l r:Nat)] st=.ok (.tup [b_ l.po,b_ r.po]) st:=by
 have:=HZ #[1].gr0 (by rw[MT.po_len];exact h) (Bg C l r m) st
 rwa[show(List.drop (pq C l r-l.size-r.size) #[1].po).take l.size=l.po from Bh C l r m,show(List.drop (pq C l r-r.size) #[1].po).take r.size=r.po from Bi C l r m]at this
theorem DU(r:List Nat)(st:List al):dI [gO r] st=.ok (.int r.length) st:=by
 have:dI [gO r] st=.ok (.int (r.map fun k=>W.int (k:Nat)).length) st:=Cn
 rwa[aF]at this
theorem DV(M:Mc)(C:List Fm)(l r:MT)(o:Nat):fr M C l r o=rA M C++(l.rT M++(r.rT M++([o]++rB M C o))):=by unfold fr;simp only[ak]
theorem Ii(M:Mc)(C:List Fm)(l r:MT)(o:Nat):(fr M C l r o).take (pA C).length=rA M C:=by rw[DV];exact kH (ng M C)
theorem Ij(M:Mc)(C:List Fm)(l r:MT)(o:Nat):(fr M C l r o).drop ((pA C).length+l.size)=r.rT M++([o]++rB M C o):=by
 rw[DV,<- ak];exact gR (by rw[ah,ng,MT.rT_len])
theorem Ik(M:Mc)(C:List Fm)(l r:MT)(o:Nat):(fr M C l r o).take ((pA C).length+l.size)=rA M C++l.rT M:=by
 rw[DV,<- ak];exact kH (by rw[ah,ng,MT.rT_len])
theorem Il(M:Mc)(C:List Fm)(l r:MT)(o:Nat):(fr M C l r o).drop (pq C l r)=[o]++rB M C o:=by
 rw[DV,<- ak,<- ak];exact gR (by rw[ah,ah,ng,MT.rT_len,MT.rT_len];rfl)
theorem Im(M:Mc):∀(D:List Fm) (a b:Nat),(rB M D a).length=(rB M D b).length
 |[],a,b=>rfl
 |.lf y w::D,a,b=>by
  show(y.rT M++[_]++rB M D _).length=(y.rT M++[_]++rB M D _).length
  rw[ah,ah,ah,ah,Im M D _ (sv M w b (y.tR M))];rfl
 |.rg y w::D,a,b=>by
  show([_]++rB M D _).length=([_]++rB M D _).length
  rw[ah,ah,Im M D _ (sv M w (y.tR M) b)];rfl
theorem OT(M:Mc)(C:List Fm)(l r:MT)(o:Nat)(m:List Nat):(fr M C l r o).length=#[1].size:=by
 rw[<- MT.rT_len M,m_ M C (.nd l r m)]
 unfold fr
 simp only[ah,MT.rT_len,Im M C o ((MT.nd l r m).tR M),MT.size_nd,cf]
def dW(C C':List Fm)(l r:MT)(m:List Nat)(l' r':MT)(m':List Nat)(s:W):W:=.tup [b_ #[1].po,.int (pq C l r:Nat),b_ (a8 C' (.nd l' r' m')).po,.int (pq C' l' r':Nat),s]
theorem EZ(hM:mz M n)(hn:1<=n)(C:List Fm)(l r l' r':MT)(m m':List Nat)(sd:Bool)(h1:#[1].size<=900)(h2:(a8 C (.nd l' r' m')).size<=900)(hl:sd=false->l'=l)(hr:sd=true->r'=r)(o:Nat)(st:List al) :
  xQ [M.w,gO (fr M C l r o),dW C C l r m l' r' m' (ui sd)] st=.ok (.tup [gO (fr M C l' r' o),.int ((if sd then l'.size else r'.size:Nat))]) st:=by
 have z1:=fS C (.nd l r m) (by rw[MT.size_nd];omega)
 have z2:=fS C (.nd l' r' m') (by rw[MT.size_nd];omega)
 rw[MT.size_nd]at z1 z2
 have b1:=Ih C l r m h1 st
 have b2:=Ih C l' r' m' h2 st
 have n1:=gY l.po st
 have n2:=gY r.po st
 rw[MT.po_len]at n1 n2
 have hA:=ng M C
 have hfl:=OT M C l r o m
 have i3:∀ρ:cM,ρ[2]?=some (some (dW C C l r m l' r' m' (ui sd)))->e2 bj (ag 2) (eI 4) ρ st=.ok (ui sd) st:=fun ρ h=>bu (ju h) bW ox
 have eS:iN (ui sd) (.str [108,101,102,116]) st=.ok (.bl sd) st:=by cases sd<;>exact dD rfl
 have a5:(pq C l r:Int)-(l.size:Nat)-(r.size:Nat)=((pA C).length:Nat):=by unfold pq;omega
 have d3:ba 3 (cu 2 qm (ai (e2 bj (ag 2) (eI 0)) (ai (e2 bj (ag 2) (eI 1)) aD))) [some M.w,some (gO (fr M C l r o)),some (dW C C l r m l' r' m' (ui sd)),none,none,none,none,none] st=.nx [some M.w,some (gO (fr M C l r o)),some (dW C C l r m l' r' m' (ui sd)),some (.tup [b_ l.po,b_ r.po]),none,none,none,none] st:=
  a_ (cy (aw kx (aw kx aZ)) b1 rfl)
 refine f9 ?_ (by simp[undWs,uW,W.und])
 apply aA
 ·exact d3
 apply aA
 ·exact a_ (cy (aw kx (aw kx aZ)) b2 rfl)
 apply aA
 ·refine a_ (st1:=st) (w:=.int ((pA C).length:Nat)) ?_
  rw[<- a5]
  exact bu (bu kx (cC (aw kx aZ) n1) rfl) (cC (aw kx aZ) n2) rfl
 apply aA
 ·refine a_ (st1:=st) (w:=.int ((pA C).length+l.size:Nat)) ?_
  rw[eJ]
  exact bu kv (cC (aw kx aZ) n1) dX
 cases sd with
 |true=>
  obtain rfl:=hr rfl
  have rm:=sf hM hn l' #[0] st
  have nl:=DU (l'.rT M) st
  rw[MT.rT_len]at nl
  apply fy
  ·exact a7 (bu (i3 _ rfl) bW eS)
  apply pS
  apply aA
  ·exact a_ (cy (aw kv (aw kx aZ)) rm rfl)
  apply eG
  ·refine eX (aw (bu (bu (mG kv s9 (mF kv) (Bk #[0] st)) kv (se _ _ ?_ st)) (mG kv (mF kv) s9 (Bm #[0] st)) (se _ _ ?_ st)) (aw (cC kn nl) aZ)) (ao rfl)
   ·simp only[ah,aM,MT.rT_len];omega
   ·simp only[ah,aM,cx,MT.rT_len];omega
  ·refine⟨_,_,rfl,?_,[],by simp⟩
   rw[Ii,Ij]
   unfold fr
   simp only[ak];rfl
 |false=>
  obtain rfl:=hl rfl
  have rm:=sf hM hn r' #[0] st
  have nl:=DU (r'.rT M) st
  rw[MT.rT_len]at nl
  apply bO
  ·exact a7 (bu (i3 _ rfl) bW eS)
  apply cv
  apply aA
  ·exact a_ (cy (aw kv (aw kx aZ)) rm rfl)
  apply bQ
  ·refine eX (aw (bu (bu (mG kv s9 (mF kv) (Bk #[0] st)) kv (se _ _ ?_ st)) (mG kv (mF kx) s9 (Bm (by unfold pq;omega) st)) (se _ _ ?_ st)) (aw (cC kn nl) aZ)) (ao rfl)
   ·simp only[ah,aM,MT.rT_len];omega
   ·simp only[ah,aM,cx,MT.rT_len];omega
  ·refine⟨_,_,rfl,?_,[],by simp⟩
   rw[Ik,Il]
   unfold fr
   simp only[ak];rfl
end
inductive Dd where
 |mk (C:List Fm) (l r:MT) (m:List Nat) (l' r':MT) (m':List Nat) (sd:Option Bool)
 |wh (t t':MT)
namespace Dd
def a:Dd->MT
 |mk C l r m _ _ _ _=>a8 C (.nd l r m)
 |wh t _=>t
def b:Dd->MT
 |mk C _ _ _ l' r' m' _=>a8 C (.nd l' r' m')
 |wh _ t'=>t'
def sW:Option Bool->W
 |none=>.non
 |some s=>ui s
def w:Dd->W
 |mk C l r m l' r' m' sd=>dW C C l r m l' r' m' (sW sd)
 |wh t t'=>.tup [b_ t.po,.non,b_ t'.po,.non,.non]
noncomputable def tn:Dd->Dd
 |mk C l r m l' r' m' sd=>mk C l' r' m' l r m sd
 |wh t t'=>wh t' t
def ok:Dd->Prop
 |mk C l r m l' r' m' sd=>(a8 C (.nd l r m)).size<=100/\(a8 C (.nd l' r' m')).size<=100/\(sd≠some true->l'=l)/\(sd≠some false->r'=r)
 |wh t t'=>t.size<=100/\t'.size<=100
noncomputable def bc:Option Bool->MT->MT->Nat
 |none,_,_=>0
 |some sd,l,r=>if sd then l.size else r.size
def ct(M:Mc):Dd->Nat
 |mk C l r m l' r' m' sd=>bc sd l' r'+v_ M C (sv M m' (l'.tR M) (r'.tR M)) (sv M m (l.tR M) (r.tR M))
 |wh _ t'=>t'.size
theorem tn_a(d:Dd):d.tn.a=d.b:=by cases d<;>rfl
theorem tn_b(d:Dd):d.tn.b=d.a:=by cases d<;>rfl
theorem tn_ok{d:Dd}(h:d.ok):d.tn.ok:=by
 cases d with
 |mk C l r m l' r' m' sd=>exact⟨h.2.1,h.1,fun e=>(h.2.2.1 e).symm,fun e=>(h.2.2.2 e).symm⟩
 |wh t t'=>exact⟨h.2,h.1⟩
theorem ok_a{d:Dd}(h:d.ok):d.a.size<=100:=by
 cases d with
 |mk C l r m l' r' m' sd=>exact h.1
 |wh t t'=>exact h.1
theorem ok_b{d:Dd}(h:d.ok):d.b.size<=100:=by rw[<- tn_a];exact ok_a (tn_ok h)
end Dd
section
variable{c f m:Str}{fs:FA}{z1 z2 z3:List al}{k L:Nat}{fl U8:List (Str×W)}{y w:W}{P:RS->Prop}{iJ:FS}
theorem pc(h1:fe ρ z=.ok y z1)(h2:fo ρ z1=.ok (.loc n) z2)(h3:z2[n]?=some (.obj c fl))(hl:fl.length<900):oH c f fo fe ρ z=.nx ρ (z2.set n (.obj c (wQ f y fl))):=by
 unfold oH
 rw[h1];simp only[R.stmt_ok];rw[h2];simp only[R.stmt_ok,nG,h3]
 rw[aE ⟨trivial,hl⟩]
theorem fj(h:fa ρ z=.ok (.loc n) z1)(h3:z1[n]?=some (.obj c fl))(hk:fl.lookup f=some w):ji c f fa ρ z=.ok w z1:=by
 unfold ji
 rw[h];simp only[R.bind_ok,nG,h3,f6,hk,eU]
theorem ia(h:fo ρ z=.ok (.loc n) z1)(h3:z1[n]?=some (.obj c fl))(hm:fl.lookup m=none)(ha:fs ρ z1=.ok ws z2)(hn:ws.length+1=k)(hF:F (.loc n::ws) z2=.ok w z3):iP c m k F fo fs ρ z=.ok w z3:=by
 unfold iP
 rw[h];simp only[R.bind_ok,nG,h3]
 rw[aE ⟨trivial,hm⟩,ha];simp only[R.bind_ok]
 rw[aE hn,hF]
theorem OU(ha:fs ρ z=.ok ws z1)(hn:ws.length+1=k)(hF:F (.loc z1.length::ws) (z1++[.obj c []])=.ok .non z2):DF c k F fs ρ z=.ok (.loc z1.length) z2:=by
 unfold DF
 rw[ha];simp only[R.bind_ok]
 rw[aE hn,hF]
theorem mK(h:bn.length=st.length):hX st bn ws=bn:=by
 unfold hX
 split
 ·rw[bB #[0]]
 ·rfl
theorem wb(ws:List W)(hL:L<st.length)(h:bn[L]?=some (.obj c fl))(hu:undWs st.length (fl.map fun p=>p.2)=false)(hz:st[L]?≠some (.obj c fl)):hX st bn ws=bn:=by
 unfold hX
 rw[aL]
 rintro⟨_,_,k⟩
 rcases k L hL with e|⟨c,e,hc⟩
 ·rw[h]at e;exact hz e.symm
 ·rw[h]at e
  cases e
  have hc:undWs st.length (fl.map fun p=>p.2)=true:=hc
  rw[hu]at hc;cases hc
theorem jW{N:Nat}(h:body #[14] st=.nx ρ bn):de N body ws st=.ok .non (hX st bn []):=by
 unfold de;rw[h]
end
section
variable{M:Mc}{L a b:Nat}
def kF(M:Mc)(t:MT)(k:Nat)(a b:Nat):List (Str×W):=[("machine",M.w),("tree",b_ t.po),("rooms",gO (t.rT M)),("many",.int (k:Nat)),("standing",.loc a),("taken_back",.loc b)]
theorem wc(hM:mz M n)(hn:1<=n){d:Dd}(hd:d.ok){k:Nat}(hz:z[L]?=some (.obj "Kept" (kF M d.a k a b))):dy [.loc L,d.w] z=.ok .non (z.set L (.obj "Kept" (kF M d.b (d.ct M) a b))):=by
 suffices hh:∃ρ,jN ([.loc L,d.w].map some++List.replicate (4-2) none) z=.nx ρ (z.set L (.obj "Kept" (kF M d.b (d.ct M) a b))) by
  obtain⟨ρ,e⟩:=hh
  show de 4 jN _ _=_
  rw[jW e,mK #[15]]
 cases d with
 |wh t t'=>
  have hd2:t'.size<=100:=hd.2
  refine⟨[lO L,some (Dd.wh t t').w,none,none],?_⟩
  have e1:oH "Kept" "rooms" (ag 0) (cu 2 nN (ai (ji "Kept" "machine" (ag 0)) (ai (e2 bj (ag 1) (eI 2)) aD))) [lO L,some (Dd.wh t t').w,none,none] z=.nx [lO L,some (Dd.wh t t').w,none,none] (z.set L (.obj "Kept" [("machine",M.w),("tree",b_ t.po),("rooms",gO (t'.rT M)),("many",.int (k:Nat)),("standing",.loc a),("taken_back",.loc b)])):=
   pc (cy (aw (fj kv hz rfl) (aw kx aZ)) (sf hM hn t' #[0] z) rfl) kv hz (ao rfl)
  have l1:=gY t'.po (z.set L (.obj "Kept" [("machine",M.w),("tree",b_ t.po),("rooms",gO (t'.rT M)),("many",.int (k:Nat)),("standing",.loc a),("taken_back",.loc b)]))
  rw[MT.po_len]at l1
  refine bN (cN (a7 (AD kx rfl)) (bN e1 (pc (cC (aw kx aZ) l1) kv (d9 hz) (ao rfl)))) ?_
  rw[nD]
  rw[pc (f:="tree") kx kv (d9 hz) (ao rfl),nD]
  rfl
 |mk C l r m l' r' m' sd=>
  obtain⟨h1,h2,h3,h4⟩:=hd
  have z0:z[L]?=some (.obj "Kept" (kF M #[1] k a b)):=hz
  have hrm:#[1].rT M=fr M C l r #[13]:=by rw[m_];rfl
  have ho:=v8 hM m (l.tR_lt hM hn) (r.tR_lt hM hn)
  generalize hov:sv M m (l.tR M) (r.tR M)=o at *
  obtain⟨k1,hk1,e2⟩:∃k1,k1=Dd.bc sd l' r'/\fO (eF (gu (e2 bj (ag 1) (eI 4)))) (ba 2 (cu 3 xQ (ai (ji "Kept" "machine" (ag 0)) (ai (ji "Kept" "rooms" (ag 0)) (ai (ag 1) aD))))) bK [lO L,some (Dd.mk C l r m l' r' m' sd).w,some (.tup [gO (fr M C l r o),.int 0]),none] z=.nx [lO L,some (Dd.mk C l r m l' r' m' sd).w,some (.tup [gO (fr M C l' r' o),.int (k1:Nat)]),none] z:=by
   cases sd with
   |none=>
    obtain rfl:=h3 #[12]
    obtain rfl:=h4 #[12]
    exact⟨_,rfl,cG (a7 (dU kx rfl)) d7⟩
   |some s=>
    have bo:=EZ hM hn C l r l' r' m m' s #[0] #[0] (fun e=>h3 (by rw[e];decide)) (fun e=>h4 (by rw[e];decide)) o z
    refine⟨_,rfl,cN (a7 (dU kx (by cases s<;>rfl))) (a_ (cy (aw (fj kv z0 rfl) (aw (fj kv z0 ?_) kn)) bo rfl))⟩
    show some (gO (#[1].rT M))=_
    rw[hrm]
  have cl:=CO hM hn (C:=C) (l:=l') (r:=r') (m:=m') (o:=o) rfl ho #[0] z
  refine⟨[lO L,some (Dd.mk C l r m l' r' m' sd).w,some (.tup [gO (fr M C l' r' o),.int (k1:Nat)]),some (.tup [gO ((a8 C (.nd l' r' m')).rT M),.int (v_ M C (sv M m' (l'.tR M) (r'.tR M)) o:Nat)])],?_⟩
  refine bN (cG (a7 (AD kx rfl)) (bN (a_ (w:=.tup [gO (fr M C l r o),.int 0]) (eX (aw (fj (w:=gO (fr M C l r o)) kv z0 ?_) (aw bW aZ)) (ao rfl))) (bN e2 (bN (a_ (cy (aw (fj kv z0 rfl) (aw kx (aw kx (aw kx aZ)))) cl rfl)) (bN (pc kx kv z0 (ao rfl)) (pc (bu kx kx dX) kv (d9 z0) (ao rfl))))))) ?_
  ·show some (gO (#[1].rT M))=_
   rw[hrm]
  ·rw[nD]
   rw[pc (f:="tree") kx kv (d9 z0) (ao rfl),nD]
   have hct:(Dd.mk C l r m l' r' m' sd).ct M=k1+v_ M C (sv M m' (l'.tR M) (r'.tR M)) o:=by rw[hk1,<- hov];rfl
   rw[hct]
   rfl
end
end P
namespace P
open PySem L2
structure nZ(M:Mc)(L a b:Nat)(t:MT)(k:Nat)(sd tk:List Dd)(z:List al):Prop where
 ob:z[L]?=some (.obj "Kept" (kF M t k a b))
 s:z[a]?=some (.lst (sd.reverse.map Dd.w))
 u:z[b]?=some (.lst (tk.reverse.map Dd.w))
 la:L≠a
 lb:L≠b
 ab:a≠b
 ls:sd.length<=1000
 lu:tk.length<=1000
def K3(L a b:Nat)(z z':List al):Prop:=z.length<=z'.length/\∀i,i<z.length->i≠L->i≠a->i≠b->z'[i]?=z[i]?
section
variable{M:Mc}{L a b k:Nat}{t:MT}{sd tk:List Dd}{d:Dd}
theorem Io(hM:mz M n)(hn:1<=n)(hd:d.ok)(hz:nZ M L a b d.a k sd tk z)(hs:sd.length<1000):∃z',d8 [.loc L,d.w] z=.ok .non z'/\nZ M L a z.length d.b (d.ct M) (d::sd) [] z'/\K3 L a b z z':=by
 have c1:=wc hM hn hd hz.ob
 have lL:=fP hz.ob
 have lA:=fP hz.s
 have lB:=fP hz.u
 have g1:(z.set L (.obj "Kept" (kF M d.b (d.ct M) a b)))[a]?=some (.lst (sd.reverse.map Dd.w)):=by rw[bH hz.la];exact hz.s
 have g2:((z.set L (.obj "Kept" (kF M d.b (d.ct M) a b))).set a (.lst (sd.reverse.map Dd.w++[d.w])))[L]?=some (.obj "Kept" (kF M d.b (d.ct M) a b)):=by rw[bH (Ne.symm hz.la)];exact d9 hz.ob
 have hl:((z.set L (.obj "Kept" (kF M d.b (d.ct M) a b))).set a (.lst (sd.reverse.map Dd.w++[d.w]))).length=z.length:=by simp
 have e:oV ([.loc L,d.w].map some++List.replicate (2-2) none) z=.nx [lO L,some d.w] ((((z.set L (.obj "Kept" (kF M d.b (d.ct M) a b))).set a (.lst (sd.reverse.map Dd.w++[d.w])))++[al.lst []]).set L (.obj "Kept" (kF M d.b (d.ct M) a z.length))):=by
  refine bN (d6 (ia kv hz.ob rfl kn rfl c1)) (bN (d6 (ik (fj kv (d9 hz.ob) rfl) (dv g1) kn (mi g1 (by simp;omega)))) ?_)
  rw[pc (f:="taken_back") (nH aZ (ao rfl)) kv (cJ g2) (ao rfl),hl]
  rfl
 have e2:=jW (N:=2) e
 generalize hz':(((z.set L (.obj "Kept" (kF M d.b (d.ct M) a b))).set a (.lst (sd.reverse.map Dd.w++[d.w])))++[al.lst []]).set L (.obj "Kept" (kF M d.b (d.ct M) a z.length))=z' at *
 have oL:z'[L]?=some (.obj "Kept" (kF M d.b (d.ct M) a z.length)):=by rw[<- hz'];exact d9 (cJ g2)
 have oA:z'[a]?=some (.lst ((d::sd).reverse.map Dd.w)):=by
  rw[<- hz',bH hz.la]
  refine cJ ?_
  rw[d9 g1,bA,bb];rfl
 have oB:z'[z.length]?=some (.lst (([]:List Dd).reverse.map Dd.w)):=by
  rw[<- hz',bH #[0],<- hl]
  exact dz
 rw[wb [] lL oL (by simp[kF,undWs,W.und]) (by rw[hz.ob];intro e;injection e with e;injection e with _ e;simp[kF]at e;omega)]at e2
 refine⟨z',e2,⟨oL,oA,oB,hz.la,by omega,by omega,by rw[bg];omega,by simp⟩,by rw[<- hz'];simp,fun i hi h1 h2 h3=>?_⟩
 rw[<- hz',bH (Ne.symm h1),aK (by simpa using hi),bH (Ne.symm h2),bH (Ne.symm h1)]
theorem gl{z':List al}{t':MT}{k':Nat}{U3 Pf:List Dd}(ws:List W)(hz:nZ M L a b t k sd tk z)(h:nZ M L a z.length t' k' U3 Pf z'):hX z z' ws=z':=
 wb ws (fP hz.ob) h.ob (by simp[kF,undWs,W.und]) (by
  have:=fP hz.u
  rw[hz.ob];intro e;injection e with e;injection e with _ e;simp[kF]at e;omega)
theorem zw(C:List Fm)(l r:MT)(m m':List Nat)(h:#[1].size<=900)(st:List al):AZ [b_ #[1].po,.int (pq C l r:Nat),.str m'] st=.ok (b_ (a8 C (.nd l r m')).po) st:=by
 have z1:=fS C (.nd l r m) (by rw[MT.size_nd];omega)
 rw[MT.size_nd]at z1
 have hl:=MT.po_len #[1]
 have hq:pq C l r+1<=#[1].po.length:=by unfold pq;omega
 have e1:#[1].po.take (pq C l r)=pA C++(l.po++r.po):=by
  rw[c8,show pA C++(MT.nd l r m).po++pB C=(pA C++(l.po++r.po))++(⟨l.one+2*r.one,m⟩::pB C) by show pA C++(l.po++r.po++[_])++pB C=_;simp only[ak];rfl]
  exact kH (by rw[ah,ah,MT.po_len,MT.po_len];unfold pq;omega)
 have e2:#[1].po.drop (pq C l r+1)=pB C:=by
  rw[c8]
  exact gR (by rw[ah,MT.po_len,MT.size_nd];unfold pq;omega)
 have e3:(a8 C (.nd l r m')).po=(pA C++(l.po++r.po))++[⟨l.one+2*r.one,m'⟩]++pB C:=by
  rw[c8];show pA C++(l.po++r.po++[_])++pB C=_;simp only[ak]
 have hs:(a8 C (.nd l r m')).po.length=#[1].po.length:=by rw[c8,c8];simp only[ah,MT.po_len,MT.size_nd]
 rw[e3]at hs
 have s1:=v5 (a:=#[1].po) (q:=pq C l r) #[0] st
 have s2:=v6 (a:=#[1].po) (q:=pq C l r+1) #[0] st
 rw[e1]at s1
 rw[e2]at s2
 rw[ah]at hs
 refine f9 ?_ (by simp only[undWs,lg,dM])
 apply bQ
 ·exact bu (bu (mG kv s9 (mF kv) s1) (eX (aw (eX (aw (bu (bu kv kv (r6 (nh C l r m) st)) bW (OJ _ st)) kn) (ao rfl)) aZ) (ao rfl)) (jx _ [⟨l.one+2*r.one,m'⟩] #[0] st)) (mG kv (mF (bu kv bW dX)) s9 s2) (jx _ _ (by rw[ah];omega) st)
 ·exact⟨_,_,rfl,by rw[e3],[],by simp⟩
theorem DW(hM:mz M n)(hn:1<=n){C:List Fm}{l r:MT}{m':List Nat}(hd:(Dd.mk C l r m l r m' none).ok)(hz:nZ M L a b #[1] k sd tk z)(hs:sd.length<1000):∃z',eN [.loc L,.int (pq C l r:Nat),.str m'] z=.ok .non z'/\nZ M L a z.length (a8 C (.nd l r m')) ((Dd.mk C l r m l r m' none).ct M) (Dd.mk C l r m l r m' none::sd) [] z'/\K3 L a b z z':=by
 obtain⟨z',e,h,h3⟩:=Io hM hn (d:=Dd.mk C l r m l r m' none) hd hz hs
 refine⟨z',?_,h,h3⟩
 rw[<- gl [] hz h]
 refine jW (N:=3) (ρ:=[lO L,iO (pq C l r:Nat),some (.str m')]) (d6 (ia kv hz.ob rfl (aw (eX (aw (fj kv hz.ob rfl) (aw kv (aw (cy (aw (fj kv hz.ob rfl) (aw kv kn)) (zw C l r m m' (by have:=hd.1;omega) z) rfl) (aw kv (aw bW aZ))))) (ao rfl)) aZ) rfl e))
def pZ(m:List Nat):Prop:=m.Pairwise (· < ·)/\∀c∈m,c∈LL
theorem we(hM:mz M n)(hn:1<=n){C:List Fm}{l r:MT}{c:Nat}(h1:#[1].size<=100)(h2:(a8 C (.nd l r (gi (m++[c])))).size<=100)(hm:∀d∈m,d∈LL)(UG:m.length<=60)(hc:c∈LL)(hz:nZ M L a b #[1] k sd tk z)(hs:sd.length<1000) :
  ∃z',jO [.loc L,.int (pq C l r:Nat),.str [c]] z=.ok .non z'/\nZ M L a z.length (a8 C (.nd l r (gi (m++[c])))) ((Dd.mk C l r m l r (gi (m++[c])) none).ct M) (Dd.mk C l r m l r (gi (m++[c])) none::sd) [] z'/\K3 L a b z z':=by
 obtain⟨z',e,h,h3⟩:=DW hM hn (C:=C) (l:=l) (r:=r) (m:=m) (m':=gi (m++[c])) ⟨h1,h2,fun _=>rfl,fun _=>rfl⟩ hz hs
 refine⟨z',?_,h,h3⟩
 have z1:=fS C (.nd l r m) (by rw[MT.size_nd];omega)
 rw[MT.size_nd]at z1
 have hl:=MT.po_len #[1]
 have hml2:m.length<=my:=by show _<=1000000;omega
 have hcp:=v7 (ps:=#[1].po) (q:=pq C l r) (by unfold pq;omega) z
 have io:=HU (l:=m++[c]) (by rw[ah,cf];omega) (fun d hd=>by
  rcases aX.mp hd with hd|hd
  ·exact hm d hd
  ·rw[a9.mp hd];exact hc) z
 rw[<- gl [] hz h]
 refine jW (N:=3) (ρ:=[lO L,iO (pq C l r:Nat),some (.str [c])]) (bN (d6 (cy (aw (fj kv hz.ob rfl) kn) hcp rfl)) (d6 (ia kv hz.ob rfl (aw kv (aw (cy (aw (bu (bu (bu (fj kv hz.ob rfl) kv (r6 (nh C l r m) z)) bW (CB _ z)) kv (Cm (by show _<=1000000;simp;omega))) aZ) io rfl) aZ)) rfl e)))
theorem uj(hM:mz M n)(hn:1<=n){C:List Fm}{l r:MT}{c:Nat}(h1:#[1].size<=100)(h2:(a8 C (.nd l r (m.filter fun d=>d != c))).size<=100)(UG:m.length<=60)(hz:nZ M L a b #[1] k sd tk z)(hs:sd.length<1000) :
  ∃z',jd [.loc L,.int (pq C l r:Nat),.str [c]] z=.ok .non z'/\nZ M L a z.length (a8 C (.nd l r (m.filter fun d=>d != c))) ((Dd.mk C l r m l r (m.filter fun d=>d != c) none).ct M) (Dd.mk C l r m l r (m.filter fun d=>d != c) none::sd) [] z'/\K3 L a b z z':=by
 obtain⟨z',e,h,h3⟩:=DW hM hn (C:=C) (l:=l) (r:=r) (m:=m) (m':=m.filter fun d=>d != c) ⟨h1,h2,fun _=>rfl,fun _=>rfl⟩ hz hs
 refine⟨z',?_,h,h3⟩
 have z1:=fS C (.nd l r m) (by rw[MT.size_nd];omega)
 rw[MT.size_nd]at z1
 have hl:=MT.po_len #[1]
 have hml2:m.length<=my:=by show _<=1000000;omega
 have hcp:=v7 (ps:=#[1].po) (q:=pq C l r) (by unfold pq;omega) z
 rw[<- gl [] hz h]
 refine jW (N:=3) (ρ:=[lO L,iO (pq C l r:Nat),some (.str [c])]) (bN (d6 (cy (aw (fj kv hz.ob rfl) kn) hcp rfl)) (d6 (ia kv hz.ob rfl (aw kv (aw (NO (bu (bu (fj kv hz.ob rfl) kv (r6 (nh C l r m) z)) bW (CB _ z)) kv hml2) aZ)) rfl e)))
theorem yd(hM:mz M n)(hn:1<=n){C:List Fm}{l r x:MT}{s:Bool}(h1:#[1].size<=100)(hx:x.size<=100)(h2:(a8 C #[4]).size<=100)(hz:nZ M L a b #[1] k sd tk z)(hs:sd.length<1000) :
  ∃z',gU [.loc L,.int (pq C l r:Nat),ui s,b_ x.po] z=.ok .non z'/\nZ M L a z.length (a8 C #[4]) ((Dd.mk C l r m (if s then x else l) (if s then r else x) m (some s)).ct M) (Dd.mk C l r m (if s then x else l) (if s then r else x) m (some s)::sd) [] z'/\K3 L a b z z':=by
 obtain⟨z',e,h,h3⟩:=Io hM hn (d:=Dd.mk C l r m (if s then x else l) (if s then r else x) m (some s)) ⟨h1,h2,fun e=>by cases s<;>first|rfl|exact absurd rfl e,fun e=>by cases s<;>first|rfl|exact absurd rfl e⟩ hz hs
 refine⟨z',?_,h,h3⟩
 have z1:=fS C (.nd l r m) (by rw[MT.size_nd];omega)
 have z2:=fS C #[4] (by rw[MT.size_nd];omega)
 rw[MT.size_nd]at z1 z2
 have hl:=MT.po_len #[1]
 have hl2:=MT.po_len (a8 C #[4])
 have hxl:=MT.po_len x
 have pb:=OQ (oth:=x.po) #[1].gr0 #[0] #[0] (Bg C l r m) s z (by rw[Bj];omega)
 rw[Bj]at pb
 have n1:=gY (a8 C #[4]).po z
 have n2:=gY #[1].po z
 have hq:(pq C l r:Int)+((a8 C #[4]).po.length:Nat)-(#[1].po.length:Nat)=(pq C (if s then x else l) (if s then r else x):Nat):=by
  rw[c8,c8]
  simp only[ah,MT.po_len,MT.size_nd]
  unfold pq
  omega
 rw[<- gl [] hz h]
 refine jW (N:=5) (ρ:=[lO L,iO (pq C l r:Nat),some (ui s),some (b_ x.po),some (b_ (a8 C #[4]).po)]) (bN (a_ (cy (aw (fj kv hz.ob rfl) (aw kv (aw kv kn))) pb rfl)) (d6 (ia (ws:=[(Dd.mk C l r m (if s then x else l) (if s then r else x) m (some s)).w]) kv hz.ob rfl (aw ?_ aZ) rfl e)))
 show _=R.ok (W.tup [b_ #[1].po,.int (pq C l r:Nat),b_ (a8 C #[4]).po,.int (pq C (if s then x else l) (if s then r else x):Nat),ui s]) z
 rw[<- hq]
 exact eX (aw (fj kv hz.ob rfl) (aw kv (aw kv (aw (bu (bu kv (cC kn n1) dX) (cC (aw (fj kv hz.ob rfl) aZ) n2) rfl) kn)))) (ao rfl)
theorem Bn(hM:mz M n)(hn:1<=n){x:MT}(h1:t.size<=100)(hx:x.size<=100)(hz:nZ M L a b t k sd tk z)(hs:sd.length<1000) :
  ∃z',il [.loc L,b_ x.po] z=.ok .non z'/\nZ M L a z.length x x.size (Dd.wh t x::sd) [] z'/\K3 L a b z z':=by
 obtain⟨z',e,h,h3⟩:=Io hM hn (d:=Dd.wh t x) ⟨h1,hx⟩ hz hs
 refine⟨z',?_,h,h3⟩
 rw[<- gl [] hz h]
 exact jW (N:=2) (ρ:=[lO L,some (b_ x.po)]) (d6 (ia kv hz.ob rfl (aw (eX (aw (fj kv hz.ob rfl) (aw bW (aw kv (aw bW (aw bW aZ))))) (ao rfl)) aZ) rfl e))
end
section
variable{M:Mc}{L a b k:Nat}{t:MT}{sd tk:List Dd}{d:Dd}
theorem E0(d:Dd)(st:List al):AY [d.w] st=.ok d.tn.w st:=by
 cases d with
 |mk C l r m l' r' m' s=>
  apply dQ
  apply bQ
  ·exact eX (aw kx (aw kx (aw kx (aw kx (aw kx aZ))))) (ao rfl)
  ·exact⟨_,_,rfl,rfl,rfl⟩
 |wh t t'=>
  apply dQ
  apply bQ
  ·exact eX (aw kx (aw kx (aw kx (aw kx (aw kx aZ))))) (ao rfl)
  ·exact⟨_,_,rfl,rfl,rfl⟩
theorem KG(hM:mz M n)(hn:1<=n)(hd:d.ok)(hz:nZ M L a b d.b k (d::sd) tk z)(hs:tk.length<1000):∃z',je [.loc L] z=.ok .non z'/\nZ M L a b d.a (d.tn.ct M) sd (d::tk) z'/\K3 L a b z z'/\z'.length=z.length:=by
 have hsr:z[a]?=some (.lst (sd.reverse.map Dd.w++[d.w])):=by rw[hz.s,bA,bb];rfl
 have oL:(z.set a (.lst (sd.reverse.map Dd.w)))[L]?=some (.obj "Kept" (kF M d.tn.a k a b)):=by rw[bH (Ne.symm hz.la),Dd.tn_a];exact hz.ob
 have c1:=wc hM hn (Dd.tn_ok hd) oL
 rw[Dd.tn_b]at c1
 have oB:((z.set a (.lst (sd.reverse.map Dd.w))).set L (.obj "Kept" (kF M d.a (d.tn.ct M) a b)))[b]?=some (.lst (tk.reverse.map Dd.w)):=by rw[bH hz.lb,bH hz.ab];exact hz.u
 have e:ug ([.loc L].map some++List.replicate (2-1) none) z=.nx [lO L,some d.w] (((z.set a (.lst (sd.reverse.map Dd.w))).set L (.obj "Kept" (kF M d.a (d.tn.ct M) a b))).set b (.lst (tk.reverse.map Dd.w++[d.w]))):=
  bN (cG (a7 (bu (cC (aw (fj kv hz.ob rfl) aZ) (k_ (b6 hsr))) bW (gj (by simp;omega)))) d7)
   (bN (a_ (ik (fj kv hz.ob rfl) (dv hsr) aZ (vG hsr))) (bN (d6 (ia kv oL rfl (aw (cy kn (E0 d _) rfl) aZ) rfl c1))
    (d6 (ik (fj kv (d9 oL) rfl) (dv oB) kn (mi oB (by simp;omega))))))
 have e2:=jW (N:=2) e
 rw[mK #[15]]at e2
 refine⟨_,e2,⟨?_,?_,?_,hz.la,hz.lb,hz.ab,by have:=hz.ls;rw[bg]at this;omega,by rw[bg];omega⟩,⟨by simp,fun i hi h1 h2 h3=>?_⟩,by simp⟩
 ·rw[bH (Ne.symm hz.lb)];exact d9 oL
 ·rw[bH (Ne.symm hz.ab),bH hz.la];exact d9 hsr
 ·rw[d9 oB,bA,bb];rfl
 ·rw[bH (Ne.symm h3),bH (Ne.symm h1),bH (Ne.symm h2)]
theorem Ip(hM:mz M n)(hn:1<=n)(hd:d.ok)(hz:nZ M L a b d.a k sd (d::tk) z)(hs:sd.length<1000):∃z',im [.loc L] z=.ok .non z'/\nZ M L a b d.b (d.ct M) (d::sd) tk z'/\K3 L a b z z'/\z'.length=z.length:=by
 have hsr:z[b]?=some (.lst (tk.reverse.map Dd.w++[d.w])):=by rw[hz.u,bA,bb];rfl
 have oL:(z.set b (.lst (tk.reverse.map Dd.w)))[L]?=some (.obj "Kept" (kF M d.a k a b)):=by rw[bH (Ne.symm hz.lb)];exact hz.ob
 have c1:=wc hM hn hd oL
 have oA:((z.set b (.lst (tk.reverse.map Dd.w))).set L (.obj "Kept" (kF M d.b (d.ct M) a b)))[a]?=some (.lst (sd.reverse.map Dd.w)):=by rw[bH hz.la,bH (Ne.symm hz.ab)];exact hz.s
 have e:rV ([.loc L].map some++List.replicate (2-1) none) z=.nx [lO L,some d.w] (((z.set b (.lst (tk.reverse.map Dd.w))).set L (.obj "Kept" (kF M d.b (d.ct M) a b))).set a (.lst (sd.reverse.map Dd.w++[d.w]))):=
  bN (cG (a7 (bu (cC (aw (fj kv hz.ob rfl) aZ) (k_ (b6 hsr))) bW (gj (by simp;omega)))) d7)
   (bN (a_ (ik (fj kv hz.ob rfl) (dv hsr) aZ (vG hsr))) (bN (d6 (ia kv oL rfl kn rfl c1))
    (d6 (ik (fj kv (d9 oL) rfl) (dv oA) kn (mi oA (by simp;omega))))))
 have e2:=jW (N:=2) e
 rw[mK #[15]]at e2
 refine⟨_,e2,⟨?_,?_,?_,hz.la,hz.lb,hz.ab,by rw[bg];omega,by have:=hz.lu;rw[bg]at this;omega⟩,⟨by simp,fun i hi h1 h2 h3=>?_⟩,by simp⟩
 ·rw[bH (Ne.symm hz.la)];exact d9 oL
 ·rw[d9 oA,bA,bb];rfl
 ·rw[bH hz.ab,bH hz.lb];exact d9 hsr
 ·rw[bH (Ne.symm h2),bH (Ne.symm h1),bH (Ne.symm h3)]
theorem nZ.app{x:List al}(h:nZ M L a b t k sd tk z):nZ M L a b t k sd tk (z++x):=⟨cJ h.ob,cJ h.s,cJ h.u,h.la,h.lb,h.ab,h.ls,h.lu⟩
theorem KH(hM:mz M n)(hn:1<=n)(ht:t.size<=900)(z:List al):∃z',gM [.loc z.length,M.w,b_ t.po] (z++[.obj "Kept" []])=.ok .non z'/\nZ M z.length (z.length+1) (z.length+2) t t.size [] [] z'/\z <+: z':=by
 have rm:=sf hM hn t ht
 have ln:=gY t.po
 rw[MT.po_len]at ln
 have sx:∀(c:al) (y:List al),(z++c::y)[z.length]?=some c:=fun c y=>by rw[dC];rfl
 have ss:∀(c d:al) (y:List al),(z++c::y).set z.length d=z++d::y:=fun c d y=>by rw[fx];rfl
 have e:nO ([.loc z.length,M.w,b_ t.po].map some++List.replicate (3-3) none) (z++[.obj "Kept" []])=.nx [lO z.length,some M.w,some (b_ t.po)] (z++[.obj "Kept" (kF M t t.size (z.length+1) (z.length+2)),.lst [],.lst []]):=by
  have F:∀{f:Str} {fe:FE} {ρ:cM} {fl:List (Str×W)} {y:List al} {w:W} {y':List al},ρ[0]?=some (lO z.length)->fl.length<900->fe ρ (z++.obj "Kept" fl::y)=.ok w (z++.obj "Kept" fl::y')->oH "Kept" f (ag 0) fe ρ (z++.obj "Kept" fl::y)=.nx ρ (z++.obj "Kept" (wQ f w fl)::y'):=fun h hl h1=>by
   rw[pc h1 (ju h) (sx _ _) hl,ss]
  refine bN (F rfl (ao rfl) kv) (bN (F rfl (ao rfl) kv) (bN (F rfl (ao rfl) (cy (aw kv kn) (rm _) rfl)) (bN (F rfl (ao rfl) (cC kn (ln _))) (bN (F (w:=.loc (z.length+1)) (y':=[.lst []]) rfl (ao rfl) ?_) ?_))))
  ·rw[nH aZ (ao rfl),ak];simp
  ·rw[F (w:=.loc (z.length+2)) (y':=[.lst [],.lst []]) rfl (ao rfl) (by rw[nH aZ (ao rfl),ak];simp)]
   rfl
 have e2:=jW (N:=3) e
 have oL:(z++[.obj "Kept" (kF M t t.size (z.length+1) (z.length+2)),.lst [],.lst []])[z.length]?=some (.obj "Kept" (kF M t t.size (z.length+1) (z.length+2))):=sx _ _
 rw[wb (L:=z.length) [] #[15] oL (by simp[kF,undWs,W.und]) (by rw[sx];intro e;injection e with e;injection e with _ e;simp[kF]at e)]at e2
 exact⟨_,e2,⟨oL,by rw[ij];rfl,by rw[ij];rfl,by omega,by omega,by omega,by simp,by simp⟩,be _ _⟩
theorem CP(hz:nZ M L a b t k sd tk z):gN [.loc L] z=.ok (b_ t.po) z:=by
 apply dQ
 apply bQ
 ·exact fj kv hz.ob rfl
 ·exact⟨_,_,rfl,rfl,rfl⟩
theorem R0(t:MT)(h:t.size<=1000):Sm (b_ t.po):=fun st=>Bb (k:=39) (by rw[aF,MT.po_len];exact h) fun w hw=>by
 obtain⟨p,_,rfl⟩:=c9.mp hw
 refine Bb (k:=38) #[15] fun w hw=>?_
 simp only[aT,gq,pE]at hw
 rcases hw with rfl|rfl
 ·exact Bc _ 37 _
 ·exact HQ _ 37 _
end
noncomputable def Jh(sz:List Nat):Option Nat->Nat
 |none=>0
 |some j=>sz.getD j 0
section
variable{ps:List Pl}{sz:List Nat}{lk:List #[7]}
theorem Gr.szl(h:Gr ps S sz lk)(hi:i<ps.length):∃x,lk[i]?=some x/\HL i x/\sz[i]?=some (1+Jh (sz.take i) x.1+Jh (sz.take i) x.2):=by
 obtain⟨S1,S2,p,k,x,g1,q1,q2,q3,hs,g2⟩:=h.step i hi
 obtain⟨lz,ll,ha⟩:=g1.ok
 rw[show(ps.take i).length=i by rw[aM];omega]at ha
 refine⟨x,q3,h.lk q3,?_⟩
 rw[q2]
 congr 1
 have g:∀{j a:Nat},(sz.take i)[j]?=some a->Jh (sz.take i) (some j)=a:=fun e=>by show List.getD _ _ _=_;rw[aO,e];rfl
 obtain⟨b,m⟩:=p
 cases hs with
 |z=>rfl
 |l=>rw[g ha.1];rfl
 |r=>rw[g ha.1];show _=1+0+_;omega
 |b=>
  have:=ha.2.2.2.1
  rw[g ha.1,show ∀c,i-1-c=i-c-1 by omega,g this];omega
theorem E1(h:Gr ps S sz lk)(hn:ps.length<=900){p:Nat}(hp:st[p]?=some (.lst (lk.map gE))):A6 [.loc p] st=.ok #[5] (st++[.lst (cV sz)]):=by
 obtain⟨l1,l2,_⟩:=h.ok
 have hh:kI (zO fun w bn=>∃j x,w=.loc (st.length+j)/\bn=st++x/\j=0/\x=[.lst (cV sz)]) (L1 ([W.loc p].map some++List.replicate (5-1) none) st):=by
  apply aA
  ·exact a_ (nH aZ (ao rfl))
  refine gb (fun i ρ bn=>∃(o2 o3 o4:Option W),ρ=[lO p,lO st.length,o2,o3,o4]/\bn=st++[.lst (cV (sz.take i))]) (yU kv (b6 (cJ hp))) ⟨none,none,none,rfl,rfl⟩ (fun i ρ bn hI=>?_) ?_ ?_
  ·obtain⟨o2,o3,o4,rfl,rfl⟩:=hI
   exact b6 (cJ hp)
  ·rintro i w ρ bn hw ⟨o2,o3,o4,rfl,rfl⟩
   have hw:(lk.map gE)[i]?=some w:=hw
   obtain⟨x0,hx0,rfl⟩:=by rw[aJ]at hw;exact fm.mp hw
   have hil:i<lk.length:=(au.mp hx0).1
   obtain⟨x,hx,lkx,hz⟩:=h.szl (show i<ps.length by omega)
   rw[hx0]at hx;cases hx
   have ht:(sz.take i).length=i:=by rw[aM];omega
   have get:∀k:Nat,k<i->bj #[5] (.int k) #[18]=.ok (.int ((sz.take i).getD k 0:Nat)) #[18]:=fun k hk=>ya [] (lh 0 #[0])
   have ap:=HW (st:=st) (z:=sz.take i) (1+Jh (sz.take i) x0.1+Jh (sz.take i) x0.2) #[0]
   rw[<- UA hz]at ap
   have isl:k6 #[18] #[5]=true:=dv dz
   refine⟨[lO p,lO st.length,some (oW x0.1),some (oW x0.2),o4],rfl,?_⟩
   apply aA
   ·exact a_ bW
   have e1:fO (eF (gu (ag 2))) (ba 4 (e2 cQ (ag 4) (e2 bj (ag 1) (ag 2)))) bK [lO p,lO st.length,some (oW x0.1),some (oW x0.2),iO 1] #[18]=.nx [lO p,lO st.length,some (oW x0.1),some (oW x0.2),iO (1+Jh (sz.take i) x0.1:Nat)] #[18]:=by
    obtain⟨a,b⟩:=x0
    cases a with
    |none=>exact cG (a7 (dU kv rfl)) rfl
    |some j=>rw[eJ];exact cN (a7 (dU kv rfl)) (a_ (bu kv (bu kv kv (get j (lkx.1 j rfl))) dX))
   apply aA
   ·exact e1
   have e2:fO (eF (gu (ag 3))) (ba 4 (e2 cQ (ag 4) (e2 bj (ag 1) (ag 3)))) bK [lO p,lO st.length,some (oW x0.1),some (oW x0.2),iO (1+Jh (sz.take i) x0.1:Nat)] #[18]=.nx [lO p,lO st.length,some (oW x0.1),some (oW x0.2),iO (1+Jh (sz.take i) x0.1+Jh (sz.take i) x0.2:Nat)] #[18]:=by
    obtain⟨a,b⟩:=x0
    cases b with
    |none=>exact cG (a7 (dU kv rfl)) rfl
    |some j=>rw[eJ _ (Jh _ _)];exact cN (a7 (dU kv rfl)) (a_ (bu kv (bu kv kv (get j (lkx.2 j rfl))) dX))
   apply aA
   ·exact e2
   apply dw
   ·exact d6 (ik kv isl kn ap)
   ·exact⟨_,_,rfl,_,_,_,rfl,rfl⟩
  ·rintro ρ bn ⟨o2,o3,o4,rfl,rfl⟩
   apply bQ
   ·exact ju rfl
   ·refine⟨_,_,rfl,0,_,rfl,rfl,rfl,?_⟩
    rw[show((lk.map gE,some (p,lk.map gE)):List W×Option (Nat×List W)).1.length=sz.length by show(lk.map gE).length=_;rw[aF];omega,bB (az _)]
 obtain⟨j,x,⟨rfl,rfl⟩,e⟩:=rJ hh
 exact e
end
theorem MT.sz_top:∀t:MT,0<t.size->t.szT[t.size-1]?=some t.size
 |.nil,h=>absurd h (by decide)
 |.nd l r m,_=>by
  rw[MT.size_nd]
  show(l.szT++r.szT++[_])[_]?=_
  rw[aY (by rw[ah,MT.sz_len,MT.sz_len];omega),ah,MT.sz_len,MT.sz_len,show l.size+r.size+1-1-(l.size+r.size)=0 by omega];rfl
section
theorem OV{C:List Fm}{l r:MT}{m:List Nat}:(0<l.size->#[1].szT[(pA C).length+l.size-1]?=some l.size)/\(0<r.size->#[1].szT[(pA C).length+l.size+r.size-1]?=some r.size):=by
 obtain⟨u,w,e,hu⟩:=uY C (.nd l r m)
 have e2:#[1].szT=u++(l.szT++(r.szT++([l.size+r.size+1]++w))):=by rw[e];show u++(l.szT++r.szT++[_])++w=_;simp only[ak]
 rw[e2]
 refine⟨fun h=>?_,fun h=>?_⟩
 ·rw[aY #[0],aK (by rw[MT.sz_len];omega),hu,show(pA C).length+l.size-1-(pA C).length=l.size-1 by omega,MT.sz_top l h]
 ·rw[aY #[0],aY (by rw[MT.sz_len];omega),aK (by rw[MT.sz_len,MT.sz_len];omega),hu,MT.sz_len,show(pA C).length+l.size+r.size-1-(pA C).length-l.size=r.size-1 by omega,MT.sz_top r h]
theorem yf(C:List Fm)(l r:MT)(m:List Nat)(h:#[1].size<=900)(st:List al):vZ [b_ #[1].po,.int (pq C l r:Nat)] st=.ok (.tup [.int ((pA C).length:Nat),.int ((pA C).length+l.size:Nat)]) st:=by
 have hg:=#[1].gr0
 have hl:=MT.po_len #[1]
 obtain⟨x,⟨A,rfl⟩,el⟩:=xY hg #[0] st
 have c1:(st++[al.lst A,.lst ((#[1].lkT 0).map gE)])[st.length+1]?=some (.lst ((#[1].lkT 0).map gE)):=by rw[ij];rfl
 have es:=E1 hg #[0] c1
 generalize hs1:st++[al.lst A,.lst ((#[1].lkT 0).map gE)]=s1 at *
 have hx:=pW C l r m
 obtain⟨zl,zr⟩:=OV (C:=C) (l:=l) (r:=r) (m:=m)
 have lx:∀(s:List al),s[st.length+1]?=some (.lst ((#[1].lkT 0).map gE))->bj (.loc (st.length+1)) (.int (pq C l r:Nat)) s=.ok (gE (l.tp (pA C).length,r.tp ((pA C).length+l.size))) s:=fun s hs=>j6 (b6 hs) (gk (by rw[aJ];unfold pq;rw[hx];rfl))
 have c2:(s1++[.lst (cV #[1].szT)])[st.length+1]?=some (.lst ((#[1].lkT 0).map gE)):=cJ c1
 have lx2:=lx _ c2
 have sx:∀{j a:Nat},#[1].szT[j]?=some a->bj (.loc s1.length) (.int j) (s1++[.lst (cV #[1].szT)])=.ok (.int a) (s1++[.lst (cV #[1].szT)]):=fun e=>ya [] e
 have x0:bj (gE (l.tp (pA C).length,r.tp ((pA C).length+l.size))) (.int 0) (s1++[.lst (cV #[1].szT)])=.ok (oW (l.tp (pA C).length)) (s1++[.lst (cV #[1].szT)]):=rfl
 have x1:bj (gE (l.tp (pA C).length,r.tp ((pA C).length+l.size))) (.int 1) (s1++[.lst (cV #[1].szT)])=.ok (oW (r.tp ((pA C).length+l.size))) (s1++[.lst (cV #[1].szT)]):=rfl
 generalize tN:s1++[al.lst (cV #[1].szT)]=s2 at *
 generalize hT:b_ #[1].po=T at *
 have tpn:∀(t:MT) (o:Nat),(t.size=0/\t.tp o=none)\/(0<t.size/\t.tp o=some (o+t.size-1)):=fun t o=>by
  cases t with
  |nil=>exact .inl ⟨rfl,rfl⟩
  |nd a b c=>exact .inr ⟨by rw[MT.size_nd];omega,MT.tp_nd a b c o⟩
 have e4:fO (eF (gu (e2 bj (e2 bj (ag 2) (ag 1)) (eI 1)))) (ba 4 (e2 kO (ag 1) (e2 bj (ag 3) (e2 bj (e2 bj (ag 2) (ag 1)) (eI 1))))) bK [some T,iO (pq C l r:Nat),lO (st.length+1),lO s1.length,iO (pq C l r:Nat),none] s2=.nx [some T,iO (pq C l r:Nat),lO (st.length+1),lO s1.length,iO ((pA C).length+l.size:Nat),none] s2:=by
  rcases tpn r ((pA C).length+l.size)with⟨h0,e⟩|⟨h0,e⟩
  ·rw[e]at x1 lx2
   rw[show pq C l r=(pA C).length+l.size by unfold pq;omega]at lx2 ⊢
   exact cG (a7 (dU (bu (bu kv kv lx2) bW x1) rfl)) rfl
  ·rw[e]at x1 lx2
   have:((pA C).length+l.size:Nat)=((pq C l r:Nat):Int)-(r.size:Nat):=by unfold pq;omega
   rw[this]
   exact cN (a7 (dU (bu (bu kv kv lx2) bW x1) rfl)) (a_ (bu kv (bu kv (bu (bu kv kv lx2) bW x1) (sx (zr h0))) rfl))
 have e5:fO (eF (gu (e2 bj (e2 bj (ag 2) (ag 1)) (eI 0)))) (ba 5 (e2 kO (ag 4) (e2 bj (ag 3) (e2 bj (e2 bj (ag 2) (ag 1)) (eI 0))))) bK [some T,iO (pq C l r:Nat),lO (st.length+1),lO s1.length,iO ((pA C).length+l.size:Nat),iO ((pA C).length+l.size:Nat)] s2=.nx [some T,iO (pq C l r:Nat),lO (st.length+1),lO s1.length,iO ((pA C).length+l.size:Nat),iO ((pA C).length:Nat)] s2:=by
  rcases tpn l (pA C).length with⟨h0,e⟩|⟨h0,e⟩
  ·rw[e]at x0 lx2
   rw[show(pA C).length+l.size=(pA C).length by omega]at lx2 x0 ⊢
   exact cG (a7 (dU (bu (bu kv kv lx2) bW x0) rfl)) rfl
  ·rw[e]at x0 lx2
   have:((pA C).length:Nat)=(((pA C).length+l.size:Nat):Int)-(l.size:Nat):=by omega
   refine(cN (a7 (dU (bu (bu kv kv lx2) bW x0) rfl)) (a_ (bu kv (bu kv (bu (bu kv kv lx2) bW x0) (sx (zl h0))) rfl))).trans ?_
   rw[this];rfl
 refine f9 ?_ rfl
 apply aA
 ·exact a_ (cy kn el rfl)
 apply aA
 ·exact a_ (cy kn es rfl)
 apply aA
 ·exact a_ kv
 apply aA
 ·exact e4
 apply aA
 ·exact a_ kv
 apply aA
 ·exact e5
 apply bQ
 ·exact eX (aw kv kn) (ao rfl)
 ·exact⟨_,_,rfl,rfl,_,by rw[<- tN,<- hs1,ak]⟩
theorem R1(a:List Pl)(st:List al):EI [.bl (decide ((0:Int)<(a.length:Int)))] st=.ok (.int (pU a:Nat)) st:=by
 by_cases h:0<a.length
 ·rw[bw #[0]];unfold pU;rw[aE h];rfl
 ·rw[aW #[0]];unfold pU;rw[aL h];rfl
theorem Bo(C:List Fm)(l r x:MT)(m:List Nat)(s:Bool)(h:#[1].size<=900)(hx:x.size<=900)(st:List al):A7 [b_ #[1].po,.int (pq C l r:Nat),ui s,b_ x.po] st=.ok (b_ (a8 C #[4]).po) st:=by
 have z1:=fS C (.nd l r m) (by rw[MT.size_nd];omega)
 rw[MT.size_nd]at z1
 have hl:=MT.po_len #[1]
 have hxl:=MT.po_len x
 have b:=yf C l r m h st
 have c1:=CH (a:=#[1].po) (i:=(pA C).length) (j:=(pA C).length+l.size) #[0] #[0] st
 have c2:=CH (a:=#[1].po) (i:=(pA C).length+l.size) (j:=pq C l r) (by unfold pq;omega) (by unfold pq;omega) st
 have d1:(#[1].po.drop (pA C).length).take ((pA C).length+l.size-(pA C).length)=l.po:=by
  rw[c8,show(MT.nd l r m).po=l.po++(r.po++[⟨l.one+2*r.one,m⟩])from ak _ _ _]
  exact uZ (q:=0) rfl (by rw[MT.po_len];omega)
 have d2:(#[1].po.drop ((pA C).length+l.size)).take (pq C l r-((pA C).length+l.size))=r.po:=by
  rw[c8,show pA C++(MT.nd l r m).po++pB C=(pA C++l.po)++(r.po++[⟨l.one+2*r.one,m⟩])++pB C by show pA C++(l.po++r.po++_)++_=_;simp only[ak]]
  exact uZ (q:=0) (by rw[ah,MT.po_len]) (by rw[MT.po_len];unfold pq;omega)
 rw[d1]at c1
 rw[d2]at c2
 have w1:#[1].po.take (pA C).length=pA C:=by rw[c8,ak,gs]
 have w2:#[1].po.drop (pq C l r+1)=pB C:=by
  rw[c8]
  exact gR (by rw[ah,MT.po_len,MT.size_nd];unfold pq;omega)
 have s1:=v5 (a:=#[1].po) (q:=(pA C).length) #[0] st
 have s2:=v6 (a:=#[1].po) (q:=pq C l r+1) (by unfold pq;omega) st
 rw[w1]at s1
 rw[w2]at s2
 have s2:wF (b_ #[1].po) (some ((pq C l r:Int)+1)) none st=.ok (b_ (pB C)) st:=s2
 have hB:(pB C).length<=900:=by rw[<- w2,cx];omega
 have hA:(pA C).length<=900:=by omega
 have eS:iN (ui s) (.str [108,101,102,116]) st=.ok (.bl s) st:=by cases s<;>exact dD rfl
 have e7:fO (eF (e2 iN (ag 2) (eC (.str [108,101,102,116])))) (ba 6 (ag 3)) (ba 7 (ag 3)) [some (b_ #[1].po),iO (pq C l r:Nat),some (ui s),some (b_ x.po),iO ((pA C).length:Nat),iO ((pA C).length+l.size:Nat),some (b_ l.po),some (b_ r.po),none] st=.nx [some (b_ #[1].po),iO (pq C l r:Nat),some (ui s),some (b_ x.po),iO ((pA C).length:Nat),iO ((pA C).length+l.size:Nat),some (b_ (MT.po (if s then x else l))),some (b_ (MT.po (if s then r else x))),none] st:=by
  cases s
  ·exact cG (a7 (bu kv bW eS)) (a_ kv)
  ·exact cN (a7 (bu kv bW eS)) (a_ kv)
 have hl2:(MT.po (if s then x else l)).length<=900:=by cases s<;>simp only[f6,fJ,j_,MT.po_len]<;>omega
 have hr2:(MT.po (if s then r else x)).length<=900:=by cases s<;>simp only[f6,fJ,j_,MT.po_len]<;>omega
 generalize (if s then x else l)=l' at *
 generalize (if s then r else x)=r' at *
 have t1:=R1 l'.po st
 have t2:=R1 r'.po st
 rw[MT.one_bit]at t1 t2
 refine f9 ?_ (by simp only[undWs,lg,dM])
 apply aA
 ·exact v3 (cy (aw kv kn) b rfl) rfl
 apply aA
 ·exact a_ (mG kv (mF kv) (mF kv) c1)
 apply aA
 ·exact a_ (mG kv (mF kv) (mF kv) c2)
 apply aA
 ·exact e7
 apply aA
 ·refine a_ (w:=.tup [.int (l'.one+2*r'.one:Nat),.str m]) (eX (aw ?_ (aw (bu (bu kv kv (r6 (nh C l r m) st)) bW (CB _ st)) aZ)) (ao rfl))
  rw[show((l'.one+2*r'.one:Nat):Int)=(l'.one:Int)+2*(r'.one:Int) by omega]
  exact bu (cC (aw (bu (cC kn (gY l'.po st)) bW (nI rfl)) aZ) t1) (bu bW (cC (aw (bu (cC kn (gY r'.po st)) bW (nI rfl)) aZ) t2) (qF (.inl #[12]))) dX
 apply bQ
 ·refine bu (bu (bu (bu (mG kv s9 (mF kv) s1) kv (jx _ _ ?_ st)) kv (jx _ _ ?_ st)) (eX kn (ao rfl)) (jx _ [⟨l'.one+2*r'.one,m⟩] ?_ st)) (mG kv (mF (bu kv bW dX)) s9 s2) (jx _ _ ?_ st)
  ·rw[ah];omega
  ·rw[ah,ah];omega
  ·rw[ah,ah,ah,cf];omega
  ·rw[ah,ah,ah,ah,cf];omega
 ·refine⟨_,_,rfl,?_,[],by simp⟩
  rw[c8]
  show _=b_ (pA C++(l'.po++r'.po++[⟨l'.one+2*r'.one,m⟩])++pB C)
  simp only[ak]
end
theorem CQ(h:l.Pairwise (· < ·)):gi l=l:=yM (jr l) h fun _=>jb
def w5(t:MT):Prop:=∀p∈t.po,pZ p.m
theorem w5.plg{C:List Fm}{l r l' r':MT}{m':List Nat}(h:w5 #[1])(hl:w5 l')(hr:w5 r')(hm:pZ m'):w5 (a8 C (.nd l' r' m')):=fun p hp=>by
 rw[c8]at hp
 rcases aX.mp hp with hp|hp
 ·rcases aX.mp hp with hp|hp
  ·exact h p (by rw[c8];exact bZ _ (bZ _ hp))
  ·rcases aX.mp hp with hp|hp
   ·rcases aX.mp hp with hp|hp
    ·exact hl p hp
    ·exact hr p hp
   ·rw[a9.mp hp];exact hm
 ·exact h p (by rw[c8];exact aR _ hp)
theorem w5.at{C:List Fm}{l r:MT}(h:w5 #[1]):w5 l/\w5 r/\pZ m:=
  ⟨fun p hp=>h p (by rw[c8];exact bZ _ (aR _ (bZ _ (bZ _ hp)))),
   fun p hp=>h p (by rw[c8];exact bZ _ (aR _ (bZ _ (aR _ hp)))),
   h ⟨_,m⟩ (by rw[c8];exact bZ _ (aR _ (aR _ (a9.mpr rfl))))⟩
theorem pZ.ln(h:pZ m):m.length<=52:=ma (h.1.imp fun h=>bd h) h.2
theorem pZ.take(h:pZ m)(c:Nat):pZ (m.filter fun d=>d != c):=⟨h.1.sublist List.filter_sublist,fun d hd=>h.2 d (iU.mp hd).1⟩
theorem pZ.put(h:pZ m){c:Nat}(hc:c∈LL):pZ (gi (m++[c])):=⟨jr _,fun d hd=>by
 rcases aX.mp (jb.mp hd)with hd|hd
 ·exact h.2 d hd
 ·rw[a9.mp hd];exact hc⟩
theorem pZ.srt_take(h:pZ m)(c:Nat):CC (m.filter fun d=>d != c)=m.filter fun d=>d != c:=by
 rw[tI ((h.take c).1.imp fun h=>bd h),CQ (h.take c).1]
theorem pZ.srt_put(h:pZ m)(c:Nat):CC ((m.filter fun d=>d != c)++[c])=gi (m++[c]):=by
 rw[tI]
 ·refine yM (jr _) (jr _) fun d=>?_
  rw[jb,jb,aX,aX,iU,a9,bne_iff_ne]
  by_cases e:d=c
  ·simp[e]
  ·simp[e]
 ·refine lZ.mpr ⟨(h.take c).1.imp fun h=>bd h,by simp,fun d hd e he=>?_⟩
  rw[a9.mp he]
  exact bne_iff_ne.mp (iU.mp hd).2
theorem Iq{p q:List Nat}{k:Bool}(h:(!(p==q))=k):J9 (.str p) (.str q) st=.ok (.bl k) st:=by rw[<- h];rfl
theorem KI{fe:FE}(T:Nat->Bool)(h:fe ρ st=.ok (.str l) st1)(hl:l.length<=10000)(h0:0<cap.length)
  (ht:∀c∈l,t ((sX cap ρ).set 0 (some (.str [c]))) st1=.ok (T c) st1) :
  j3 cap (gy fe) (jD 0) t (ag 0) ρ st=.ok (.loc st1.length) (st1++[.lst (((l.filter T).map fun c=>[c]).map W.str)]):=by
 have cg:=Cp (cap:=cap) (ρ:=ρ) (st:=st) (st1:=st1) (f:=jD 0) (t:=t) (el:=ag 0) (fun w=>match w with|.str [c]=>T c|_=>false) id (zp h) (by rw[tH];show _<=1000000;omega) trivial fun w hw=>by
  obtain⟨c,hc,rfl⟩:=c9.mp hw
  exact⟨_,rfl,ht c hc,fun _=>ju (by rw[cr (by simp[sX];exact h0)];rfl)⟩
 have e:((iE l).filter (fun w=>match w with|.str [c]=>T c|_=>false)).map id=((l.filter T).map fun c=>[c]).map W.str:=by
  rw[jh]
  unfold iE
  rw[List.filter_map,b9];rfl
 rwa[e]at cg
inductive Pn where
 |back|again
 |wh (x:MT)
 |mk (b:Bool) (q c:Nat)
 |br (q:Nat) (s:Bool) (x:MT)
def UB(b:Bool):W:=.str (if b then[112,117,116]else[116,97,107,101])
def Pn.w:Pn->W
 |back=>.tup [.str [98,97,99,107]]
 |again=>.tup [.str [97,103,97,105,110]]
 |wh x=>.tup [.str [119,104,111,108,101],b_ x.po]
 |mk b q c=>.tup [UB b,.int (q:Nat),.str [c]]
 |br q s x=>.tup [.str [98,114,97,110,99,104],.int (q:Nat),ui s,b_ x.po]
def Pn.ok(n:Nat):Pn->Prop
 |back=>True
 |again=>True
 |wh x=>x.size<=10/\w5 x
 |mk _ q c=>q<n/\c∈LL
 |br q _ x=>q<n/\x.size<=10/\w5 x
theorem wf(T:W)(x:MT)(st:List al):oX [T,(Pn.wh x).w] st=.ok (b_ x.po) st:=by
 apply dQ
 apply fy
 ·exact a7 (bu kx bW (dD rfl))
 apply eG
 ·exact bu kv bW ox
 ·exact⟨_,_,rfl,rfl,rfl⟩
theorem wg(C:List Fm)(l r x:MT)(m:List Nat)(s:Bool)(h:#[1].size<=900)(hx:x.size<=900)(st:List al):oX [b_ #[1].po,(Pn.br (pq C l r) s x).w] st=.ok (b_ (a8 C #[4]).po) st:=by
 apply dQ
 apply bO
 ·exact a7 (bu kx bW (dD rfl))
 apply cv
 apply fy
 ·exact a7 (bu kx bW (dD rfl))
 apply eG
 ·exact cy (aw kv (aw kx (aw kx (aw kx aZ)))) (Bo C l r x m s h hx st) rfl
 ·exact⟨_,_,rfl,rfl,rfl⟩
def OW(b:Bool)(m:List Nat)(c:Nat):List Nat:=if b then gi (m++[c])else m.filter fun d=>d != c
theorem wj(C:List Fm)(l r:MT)(m:List Nat)(b:Bool)(c:Nat)(h:#[1].size<=900)(hm:pZ m)(st:List al):oX [b_ #[1].po,(Pn.mk b (pq C l r) c).w] st=.ok (b_ (a8 C (.nd l r (OW b m c))).po) st:=by
 have UG:=hm.ln
 have z1:=fS C (.nd l r m) (by rw[MT.size_nd];omega)
 rw[MT.size_nd]at z1
 have hl:=MT.po_len #[1]
 have w1:#[1].po.take (pq C l r)=pA C++(l.po++r.po):=by
  rw[c8,show pA C++(MT.nd l r m).po++pB C=(pA C++(l.po++r.po))++(⟨l.one+2*r.one,m⟩::pB C) by show pA C++(l.po++r.po++[_])++pB C=_;simp only[ak];rfl]
  exact kH (by rw[ah,ah,MT.po_len,MT.po_len];unfold pq;omega)
 have w2:#[1].po.drop (pq C l r+1)=pB C:=by
  rw[c8]
  exact gR (by rw[ah,MT.po_len,MT.size_nd];unfold pq;omega)
 have w3:∀m',(a8 C (.nd l r m')).po=(pA C++(l.po++r.po))++[⟨l.one+2*r.one,m'⟩]++pB C:=fun m'=>by
  rw[c8];show pA C++(l.po++r.po++[_])++pB C=_;simp only[ak]
 have hs:=ib List.length (w3 m)
 rw[ah,ah,cf]at hs
 have s1:∀st,wF (b_ #[1].po) none (some (pq C l r:Int)) st=.ok (b_ (pA C++(l.po++r.po))) st:=fun st=>by
  have:=v5 (a:=#[1].po) (q:=pq C l r) (by unfold pq;omega) st
  rwa[w1]at this
 have s2:∀st,wF (b_ #[1].po) (some ((pq C l r:Int)+1)) none st=.ok (b_ (pB C)) st:=fun st=>by
  have:=v6 (a:=#[1].po) (q:=pq C l r+1) (by unfold pq;omega) st
  rwa[w2]at this
 have pk:=KI (fe:=ag 3) (t:=eF (e2 J9 (ag 0) (e2 bj (ag 1) (eI 2)))) (cap:=[none,some 1]) (ρ:=[some (b_ #[1].po),some (Pn.mk b (pq C l r) c).w,iO (l.one+2*r.one:Nat),some (.str m)]) (st:=st) (st1:=st) (l:=m) (fun d=>d != c) kv #[0] #[12] fun d _=>a7 (bu kv kx (Iq (by simp[bne])))
 have c1:(st++[al.lst (((m.filter fun d=>d != c).map fun c=>[c]).map W.str)])[st.length]?=some (.lst (((m.filter fun d=>d != c).map fun c=>[c]).map W.str)):=dz
 have hfl:=jI (fun d=>d != c) m
 have ap:=mi (y:=.str [c]) c1 (by rw[aF,aF];omega)
 have kJ:∀(l2:List Nat) (s:List al) (x:List al),s=st++x->CC l2=OW b m c->l2.length<64->s[st.length]?=some (.lst ((l2.map fun c=>[c]).map W.str)) ->
   kI (zO fun w' bn=>w'=b_ (a8 C (.nd l r (OW b m c))).po/\∃x,bn=st++x) (cW (e2 cQ (e2 cQ (qX (ag 0) gK (eV (e2 bj (ag 1) (eI 1)))) (ga (ai (ga (ai (ag 2) (ai (Jg nF (eC (.str [])) (ai (bE kh (ai (ag 3) aD)) aD)) aD))) aD))) (qX (ag 0) (eV (e2 cQ (e2 bj (ag 1) (eI 1)) (eI 1))) gK)) [some (b_ #[1].po),some (Pn.mk b (pq C l r) c).w,iO (l.one+2*r.one:Nat),lO st.length] s):=fun l2 s x tN hsr hl2 hc=>by
  have sj:=DP (fe:=ag 3) (ρ:=[some (b_ #[1].po),some (Pn.mk b (pq C l r) c).w,iO (l.one+2*r.one:Nat),lO st.length]) (st:=s) kv (b6 hc) hl2
  rw[hsr]at sj
  apply bQ
  ·exact bu (bu (mG kv s9 (mF kx) (s1 _)) (eX (aw (eX (aw kv (aw sj aZ)) (ao rfl)) aZ) (ao rfl)) (jx _ [⟨l.one+2*r.one,OW b m c⟩] (by rw[ah,cf];omega) _)) (mG kv (mF (bu kx bW dX)) s9 (s2 _)) (jx _ _ (by rw[ah,ah,cf];omega) _)
  ·exact⟨_,_,rfl,by rw[w3],_,by rw[tN,ak]⟩
 refine f9 ?_ (by simp only[undWs,lg,dM])
 apply bO
 ·exact a7 (bu kx bW (dD (by cases b<;>rfl)))
 apply cv
 apply bO
 ·exact a7 (bu kx bW (dD (by cases b<;>rfl)))
 apply cv
 apply aA
 ·exact v3 (bu kv kx (r6 (nh C l r m) st)) rfl
 apply aA
 ·exact v3 pk rfl
 cases b with
 |true=>
  apply fy
  ·exact a7 (bu kx bW (dD rfl))
  apply aA
  ·exact d6 (ik kv (dv c1) (aw kx aZ) ap)
  ·rw[fx]
   refine kJ ((m.filter fun d=>d != c)++[c]) _ _ rfl (hm.srt_put c) (by rw[ah,cf];omega) ?_
   rw[dC,bb,bb];rfl
 |false=>
  apply bO
  ·exact a7 (bu kx bW (dD rfl))
  apply cv
  exact kJ (m.filter fun d=>d != c) _ _ rfl (hm.srt_take c) #[0] c1
theorem L9{ps:List Pl}{sz:List Nat}{lk:List #[7]}(hp:pool.Nodup)(hL:∀d∈pool,d∈LL)(h:Gr ps S sz lk)(h1:S.length<=1)(hm:∀p∈ps,EY pool p.m):∃t:MT,ps=t.po/\w5 t:=by
 obtain⟨t,rfl⟩:=h.mt h1
 exact⟨t,rfl,fun p Ji=>⟨(hm p Ji).2.2 hp,fun d hd=>hL d ((hm p Ji).2.1 d hd)⟩⟩
theorem KJ(h:l.length<64):kh [.str l] st=.ok #[5] (st++[.lst ((jc (l.map fun c=>[c])).map W.str)]):=by
 unfold kh;simp only;rw[aE h]
theorem KK{s1:List al}(h:fe ρ st=.ok (.str l) s1)(hl:l.length<64) :
  Jg nF (eC (.str [])) (ai (bE kh (ai fe aD)) aD) ρ st=.ok (.str (CC l)) (s1++[.lst ((jc (l.map fun c=>[c])).map W.str)]):=by
 have hcell2:lstOf (s1++[al.lst ((jc (l.map fun c=>[c])).map W.str)]) s1.length=some ((jc (l.map fun c=>[c])).map W.str):=b6 dz
 have hj:=Co (sep:=[]) hcell2 (by rw[v0 (gD _),r_];show _<=1000000;simp;omega)
 exact Kq bW rfl (aw (cC (aw h aZ) (KJ hl)) aZ) hj
theorem Ir{a b:Nat}(h:a<1000000):iB (.int (a:Nat)) (.int (b:Nat)) st=.ok (.int ((a*b:Nat):Int)) st:=by
 rw[qF (.inl ⟨by omega,by omega⟩),iX]
theorem Iu(h0:st[n]?=some (.ro (ns.map W.int))):∃(M:Mc) (r:Nat) (t:MT) (pool:List Nat),mz M r/\1<=r/\t.size<=80/\w5 t/\pool.length=4/\(∀d∈pool,d∈LL)/\pool.Nodup/\A8 [.loc n] st=.ok (.tup [M.w,b_ t.po,.str pool]) st:=by
 suffices hh:kI (zO fun w bn=>(∃x,bn=st++x)/\undWs st.length [w]=true/\∃(M:Mc) (r:Nat) (t:MT) (pool:List Nat),w=.tup [M.w,b_ t.po,.str pool]/\mz M r/\1<=r/\t.size<=80/\w5 t/\pool.length=4/\(∀d∈pool,d∈LL)/\pool.Nodup) (L3 ([W.loc n].map some++List.replicate (8-1) none) st) by
  obtain⟨w,⟨M,r,t,pool,rfl,h1,h2,h3,h4,h5,h6,h7⟩,e⟩:=rH hh
  exact⟨M,r,t,pool,h1,h2,h3,h4,h5,h6,h7,e⟩
 obtain⟨c0,e0⟩:=rY h0 0
 obtain⟨ds,UH,hdp,e1⟩:=oY c0 100003 4 #[0] st
 have e1:ld [.int c0,.int 4,.int 100003] st=_:=e1
 have hsh:(st++[al.lst (ds.map W.int)])[st.length]?=some (.lst (zo ds)):=dz
 have ish:∀(i:Nat),i<4->∃d:Int,∀x:List al,bj #[5] (.int (i:Nat)) (st++[al.lst (ds.map W.int)]++x)=.ok (.int d) (st++[al.lst (ds.map W.int)]++x):=fun i hi=>by
  obtain⟨d,hd⟩:∃d,ds[i]?=some d:=⟨_,aq #[0]⟩
  exact⟨d,fun x=>uV (cJ hsh) hd⟩
 obtain⟨d0,i0⟩:=ish 0 #[0]
 obtain⟨d1,i1⟩:=ish 1 #[0]
 obtain⟨d2,i2⟩:=ish 2 #[0]
 obtain⟨d3,i3⟩:=ish 3 #[0]
 have h1:∀x:List al,(st++[al.lst (ds.map W.int)]++x)[n]?=some (.ro (ns.map W.int)):=fun x=>cJ (cJ h0)
 generalize hs1:st++[al.lst (ds.map W.int)]=s1 at *
 have j0:bj #[5] (.int 0) s1=.ok (.int d0) s1:=by have:=i0 [];rwa[bx]at this
 have j1:bj #[5] (.int 1) s1=.ok (.int d1) s1:=by have:=i1 [];rwa[bx]at this
 have g1:s1[n]?=some (.ro (ns.map W.int)):=by have:=h1 [];rwa[bx]at this
 obtain⟨c1,e2'⟩:=rY g1 1
 obtain⟨pool,p_,Mf,zR,ep⟩:=Ku c1 200017 4 #[0] s1
 have ep:xS [.int c1,.int 4,.int 200017] s1=_:=ep
 obtain⟨a,ha,ea⟩:=iR (q:=d0) (n:=4) #[0]
 have ea:d0%4=(a:Int):=ea
 obtain⟨b,hb,eb⟩:=iR (q:=d1) (n:=3) #[0]
 have eb:d1%3=(b:Int):=eb
 apply aA
 ·exact a_ (cy (aw (cy (aw kv (aw bW aZ)) e0 rfl) (aw bW (aw bW aZ))) e1 rfl)
 apply aA
 ·exact a_ (cy (aw (cy (aw kv (aw bW aZ)) e2' rfl) (aw bW (aw bW aZ))) ep rfl)
 apply aA
 ·exact a_ (bu bW (bu (bu kv bW j0) bW (jv #[12])) dX)
 rw[show(1:Int)+d0%4=((1+a:Nat):Int) by rw[ea,eJ];rfl]
 have hpt:(pool.take b).length<=2:=by rw[aM];omega
 have esl:qX (ag 2) gK (eV (e2 i7 (e2 bj (ag 1) (eI 1)) (eI 3))) [lO n,lO st.length,some (.str pool),iO (1+a:Nat),none,none,none,none] s1=.ok (.str (pool.take b)) s1:=by
  have c:jp pool none (some (b:Int))=pool.take b:=mV #[0]
  rw[<- c,<- eb]
  exact mG kv s9 (mF (bu (bu kv bW j1) bW (jv #[12]))) (GJ (by show _<=1000000;omega))
 apply aA
 ·exact a_ (KK esl #[0])
 generalize hN:CC (pool.take b)=nm
 have hnl:nm.length<=2:=by rw[<- hN,DO];exact hpt
 generalize tN:s1++[al.lst ((jc ((pool.take b).map fun c=>[c])).map W.str)]=s2
 have i2':∀x,bj #[5] (.int 2) (s2++x)=.ok (.int d2) (s2++x):=fun x=>by rw[<- tN,ak];exact i2 _
 have i3':∀x,bj #[5] (.int 3) (s2++x)=.ok (.int d3) (s2++x):=fun x=>by rw[<- tN,ak];exact i3 _
 have g2:s2[n]?=some (.ro (ns.map W.int)):=by rw[<- tN];exact cJ g1
 obtain⟨nm2,Sd,e4⟩:∃nm2:List Nat,((1+a)*(1+a)*2^nm2.length+(1+a)<=68/\nm2.length<=2)/\fO (eF (e2 iN (ag 3) (eI 4))) (ba 4 (qX (ag 4) gK (eV (eI 1)))) bK [lO n,lO st.length,some (.str pool),iO (1+a:Nat),some (.str nm),none,none,none] s2=.nx [lO n,lO st.length,some (.str pool),iO (1+a:Nat),some (.str nm2),none,none,none] s2:=by
  by_cases h:a=3
  ·subst h
   refine⟨jp nm none (some 1),?_,cN (a7 (bu kv bW (gj rfl))) (a_ (mG kv s9 (mF bW) (GJ (by show _<=1000000;omega))))⟩
   have hc:(jp nm none (some 1)).length<=1:=by
    by_cases h1:1<=nm.length
    ·rw[show jp nm none (some 1)=nm.take 1 from mV (q:=1) h1,aM];omega
    ·match nm,h1 with
     |[],_=>exact cn 1
     |_::_,h=>simp at h
   have h1:(jp nm none (some 1)).length=0\/(jp nm none (some 1)).length=1:=by omega
   rcases h1 with e|e<;>rw[e]<;>decide
  ·refine⟨nm,?_,cG (a7 (bu kv bW (gj (by rw[bz];omega)))) rfl⟩
   have h1:nm.length=0\/nm.length=1\/nm.length=2:=by omega
   have h2:a=0\/a=1\/a=2:=by omega
   rcases h1 with e|e|e<;>rw[e]<;>rcases h2 with rfl|rfl|rfl<;>decide
 apply aA
 ·exact e4
 have sh:Aq (.int 1) (.int nm2.length) s2=.ok (.int (2^nm2.length:Nat)) s2:=F3 #[0]
 have x2:(1+a)*(1+a)<=4*4:=Nat.mul_le_mul #[0] #[0]
 have eE:e2 cQ (ag 3) (e2 iB (e2 iB (ag 3) (ag 3)) (e2 Aq (eI 1) (bE dI (ai (ag 4) aD)))) [lO n,lO st.length,some (.str pool),iO (1+a:Nat),some (.str nm2),none,none,none] s2=.ok (.int (((1+a)+(1+a)*(1+a)*2^nm2.length:Nat):Int)) s2:=by
  rw[show(((1+a)+(1+a)*(1+a)*2^nm2.length:Nat):Int)=((1+a:Nat):Int)+(((1+a)*(1+a)*2^nm2.length:Nat):Int) by omega]
  exact bu kv (bu (bu kv kv (Ir #[0])) (bu bW (cC kn (yT (by show _<=1000000;omega))) sh) (Ir #[0])) dX
 apply aA
 ·exact a_ eE
 generalize hE:(1+a)+(1+a)*(1+a)*2^nm2.length=E
 obtain⟨c2,e5⟩:=rY g2 2
 obtain⟨ds2,hdl2,_,e6⟩:=oY c2 300007 E #[0] s2
 have hd2:(s2++[al.lst (ds2.map W.int)])[s2.length]?=some (.lst (zo ds2)):=dz
 obtain⟨M,hMn,hM,e7⟩:=CK nm2 (1+a) (1+a) s2.length ds2 _ #[0] #[0] #[0] #[0] (az _) hd2 (by rw[hdl2,<- hE,Nat.mul_comm (2^_)];omega)
 have e5:nR [.loc n,.int 2] s2=_:=e5
 have e6:ld [.int c2,.int E,.int 300007] s2=_:=e6
 apply aA
 ·exact a_ (cy (aw kv (aw kv (aw kv (aw (cy (aw (cy (aw kv (aw bW aZ)) e5 rfl) (aw kv (aw bW aZ))) e6 rfl) aZ)))) e7 rfl)
 generalize hs3:s2++[al.lst (ds2.map W.int)]=s3
 have i2'':bj #[5] (.int 2) s3=.ok (.int d2) s3:=by rw[<- hs3];exact i2' _
 have i3'':bj #[5] (.int 3) s3=.ok (.int d3) s3:=by rw[<- hs3];exact i3' _
 have g3:s3[n]?=some (.ro (ns.map W.int)):=by rw[<- hs3];exact cJ g2
 obtain⟨q,hq,eq⟩:=iR (q:=d2) (n:=8) #[0]
 have eq:d2%8=(q:Int):=eq
 apply aA
 ·exact a_ (bu (bu kv bW i2'') bW (jv #[12]))
 rw[eq]
 obtain⟨hi,hh,e8⟩:∃hi:Nat,hi<=40/\fO (eF (e2 iN (e2 i7 (e2 bj (ag 1) (eI 3)) (eI 4)) (eI 1))) (ba 7 (e2 i7 (e2 bj (ag 1) (eI 2)) (eI 41))) bK [lO n,lO st.length,some (.str pool),iO (1+a:Nat),some (.str nm2),iO E,some M.w,iO q] s3=.nx [lO n,lO st.length,some (.str pool),iO (1+a:Nat),some (.str nm2),iO E,some M.w,iO hi] s3:=by
  by_cases h:d3%4=1
  ·obtain⟨q2,hq2,eq2⟩:=iR (q:=d2) (n:=41) #[0]
   have eq2:d2%41=(q2:Int):=eq2
   refine⟨q2,by omega,?_⟩
   rw[<- eq2]
   exact cN (a7 (bu (bu (bu kv bW i3'') bW (jv #[12])) bW (gj (by rw[dg];exact h)))) (a_ (bu (bu kv bW i2'') bW (jv #[12])))
  ·exact⟨q,by omega,cG (a7 (bu (bu (bu kv bW i3'') bW (jv #[12])) bW (gj (by rw[bz];exact h)))) rfl⟩
 apply aA
 ·exact e8
 obtain⟨c3,e9⟩:=rY g3 3
 obtain⟨ds3,hdl3,_,e10⟩:=oY c3 400009 hi #[0] s3
 have hd3:(s3++[al.lst (ds3.map W.int)])[s3.length]?=some (.lst (zo ds3)):=dz
 obtain⟨ps,S,sz,lk,hg,hS,hpsl,hpm,e11⟩:=DS (pool:=pool) hd3 #[0] #[0]
 obtain⟨t,rfl,ht⟩:=L9 Mf zR hg hS hpm
 have e9:nR [.loc n,.int 3] s3=_:=e9
 have e10:ld [.int c3,.int hi,.int 400009] s3=_:=e10
 rw[MT.po_len]at hpsl
 apply bQ
 ·exact eX (aw kv (aw (cy (aw (cy (aw (cy (aw kv (aw bW aZ)) e9 rfl) (aw kv (aw bW aZ))) e10 rfl) kn) e11 rfl) kn)) (ao rfl)
 ·exact⟨_,_,rfl,⟨_,by rw[<- hs3,<- tN,<- hs1,ak,ak,ak]⟩,by simp[undWs,HH,lg,W.und],M,1+a,t,pool,rfl,hM,by omega,by omega,ht,p_,zR,Mf⟩
theorem CS(h0:st[n]?=some (.ro (ns.map W.int)))(k:Int){t:MT}(p_:pool.length=4)(zR:∀d∈pool,d∈LL)(Mf:pool.Nodup)(mo:Nat)(UZ:0<mo) :
  ∃p:Pn,p.ok t.size/\(p=.back\/p=.again->8<mo)/\mJ [.loc n,.int k,.int (mo:Nat),b_ t.po,.str pool] st=.ok p.w st:=by
 suffices hh:kI (zO fun w bn=>(∃x,bn=st++x)/\undWs st.length [w]=true/\∃p:Pn,w=p.w/\p.ok t.size/\(p=.back\/p=.again->8<mo)) (L4 ([W.loc n,.int k,.int (mo:Nat),b_ t.po,.str pool].map some++List.replicate (9-5) none) st) by
  obtain⟨w,⟨p,rfl,h1,h2⟩,e⟩:=rH hh
  exact⟨p,h1,h2,e⟩
 obtain⟨c0,e0⟩:=rY h0 (4+k)
 obtain⟨ds,UH,hdp,e1⟩:=oY c0 (500009+101*k) 12 #[0] st
 have e1:ld [.int c0,.int 12,.int (500009+101*k)] st=_:=e1
 have hsh:(st++[al.lst (ds.map W.int)])[st.length]?=some (.lst (zo ds)):=dz
 have ish:∀(i:Nat),i<12->∃d:Int,∀x:List al,bj #[5] (.int (i:Nat)) (st++[al.lst (ds.map W.int)]++x)=.ok (.int d) (st++[al.lst (ds.map W.int)]++x):=fun i hi=>by
  obtain⟨d,hd⟩:∃d,ds[i]?=some d:=⟨_,aq #[0]⟩
  exact⟨d,fun x=>uV (cJ hsh) hd⟩
 obtain⟨d0,i0⟩:=ish 0 #[0]
 obtain⟨d1,i1⟩:=ish 1 #[0]
 obtain⟨d2,i2⟩:=ish 2 #[0]
 obtain⟨d3,i3⟩:=ish 3 #[0]
 obtain⟨d4,i4⟩:=ish 4 #[0]
 obtain⟨d5,i5⟩:=ish 5 #[0]
 generalize hs1:st++[al.lst (ds.map W.int)]=s1 at *
 have j5:bj #[5] (.int 5) s1=.ok (.int d5) s1:=by have:=i5 [];rwa[bx]at this
 obtain⟨m,hm,em⟩:=iR (q:=d5) (n:=6) #[0]
 have em:d5%6=(m:Int):=em
 apply aA
 ·exact a_ (cy (aw (cy (aw kv (aw (bu bW kv dX) aZ)) e0 rfl) (aw bW (aw (bu bW (bu bW kv (qF (.inl #[12]))) dX) aZ))) e1 rfl)
 have hsl:wF #[5] (some 6) (some ((6:Int)+d5%6)) s1=.ok (.loc s1.length) (s1++[.lst (zo ((ds.drop 6).take m))]):=by
  rw[Q5 (b6 hsh),em,show((6:Int)+(m:Int))=((6+m:Nat):Int)from rfl,show(6:Int)=((6:Nat):Int)from rfl,GN (by unfold zo;rw[aF];omega) #[0]]
  unfold zo
  rw[<- mx,<- mw,show 6+m-6=m by omega]
 obtain⟨ps,S,sz,lk,hg,hS,hpsl,hpm,e2'⟩:=DS (st:=s1++[.lst (zo ((ds.drop 6).take m))]) (nd:=s1.length) (ds:=(ds.drop 6).take m) (pool:=pool) dz (by rw[aM,cx];omega) #[0]
 obtain⟨x,rfl,hx⟩:=L9 Mf zR hg hS hpm
 have hxs:x.size<=10:=by rw[MT.po_len,aM,cx]at hpsl;omega
 generalize tN:s1++[al.lst (zo ((ds.drop 6).take m))]=s2 at *
 have i0':bj #[5] (.int 0) s2=.ok (.int d0) s2:=by rw[<- tN];exact i0 _
 have i1':bj #[5] (.int 1) s2=.ok (.int d1) s2:=by rw[<- tN];exact i1 _
 have i2':bj #[5] (.int 2) s2=.ok (.int d2) s2:=by rw[<- tN];exact i2 _
 have i3':∀y,bj #[5] (.int 3) (s2++y)=.ok (.int d3) (s2++y):=fun y=>by rw[<- tN,ak];exact i3 _
 have i4':∀y,bj #[5] (.int 4) (s2++y)=.ok (.int d4) (s2++y):=fun y=>by rw[<- tN,ak];exact i4 _
 have hs:s2=st++([al.lst (ds.map W.int)]++[.lst (zo ((ds.drop 6).take m))]):=by rw[<- tN,<- hs1,ak]
 apply aA
 ·exact a_ (cy (aw (mG kv (mF bW) (mF (bu bW (bu (bu kv bW j5) bW (jv #[12])) dX)) hsl) kn) e2' rfl)
 obtain⟨kd,hkd,ek⟩:=iR (q:=d0) (n:=mo) UZ
 apply aA
 ·exact a_ (bu (bu kv bW i0') kv (jv #[0]))
 rw[ek]
 have hln:dI [b_ t.po] s2=.ok (.int (t.size:Nat)) s2:=by have:=gY t.po s2;rwa[MT.po_len]at this
 by_cases h8:kd=8
 ·subst h8
  apply fy
  ·exact a7 (bu kv bW (gj rfl))
  apply eG
  ·exact eX (aw bW aZ) (ao rfl)
  ·exact⟨_,_,rfl,⟨_,hs⟩,rfl,.back,rfl,trivial,fun _=>by omega⟩
 apply bO
 ·exact a7 (bu kv bW (gj (by rw[bz];omega)))
 apply cv
 by_cases h9:kd=9
 ·subst h9
  apply fy
  ·exact a7 (bu kv bW (gj rfl))
  apply eG
  ·exact eX (aw bW aZ) (ao rfl)
  ·exact⟨_,_,rfl,⟨_,hs⟩,rfl,.again,rfl,trivial,fun _=>by omega⟩
 apply bO
 ·exact a7 (bu kv bW (gj (by rw[bz];omega)))
 apply cv
 by_cases h7:kd=7\/t.size=0
 ·apply fy
  ·refine GL (a:=decide (kd=7)) (b:=decide (t.size=0)) (a7 (bu kv bW (gj ?_))) (a7 (bu (cC kn hln) bW (gj ?_)))|>.trans ?_
   ·rw[iZ,dg,gI];omega
   ·rw[iZ,dg,gI];omega
   ·rcases h7 with h|h
    ·rw[bw h];rfl
    ·rw[bw h,Bool.or_true]
  apply eG
  ·exact eX (aw bW kn) (ao rfl)
  ·exact⟨_,_,rfl,⟨_,hs⟩,by simp[undWs,lg,W.und],.wh x,rfl,⟨hxs,hx⟩,fun e=>by rcases e with e|e<;>cases e⟩
 apply bO
 ·refine pR (a7 (bu kv bW (gj ?_))) (a7 (bu (cC kn hln) bW (gj ?_)))
  ·rw[bz];omega
  ·rw[bz];omega
 apply cv
 have ht0:0<t.size:=by omega
 obtain⟨q,hq,eq⟩:=iR (q:=64*d1+d2) (n:=t.size) ht0
 apply aA
 ·exact a_ (bu (bu (bu bW (bu kv bW i1') (qF (.inl #[12]))) (bu kv bW i2') dX) (cC kn hln) (jv #[0]))
 rw[eq]
 by_cases h4:kd<4
 ·obtain⟨m3,hm3,em3⟩:=iR (q:=d3) (n:=4) #[0]
  have em3:d3%4=(m3:Int):=em3
  obtain⟨c,hc⟩:∃c,pool[m3]?=some c:=⟨_,aq #[0]⟩
  have hcL:=zR c (cw hc)
  have hix:∀s,bj (.str pool) (.int (d3%4)) s=.ok (.str [c]) s:=fun s=>by rw[em3];exact GI (by show _<=1000000;omega) (gk hc)
  have hk2:∃b:Bool,∀s:List al,s[s2.length]?=some (.lst [.str [112,117,116],.str [116,97,107,101]])->bj (.loc s2.length) (.int ((kd:Int)/2)) s=.ok (UB b) s:=by
   obtain rfl|rfl|rfl|rfl:kd=0\/kd=1\/kd=2\/kd=3:=by omega
   ·exact⟨true,fun s hs=>j6 (b6 hs) rfl⟩
   ·exact⟨true,fun s hs=>j6 (b6 hs) rfl⟩
   ·exact⟨false,fun s hs=>j6 (b6 hs) rfl⟩
   ·exact⟨false,fun s hs=>j6 (b6 hs) rfl⟩
  obtain⟨b,hb⟩:=hk2
  apply fy
  ·exact a7 (bu kv bW (nI (bw #[0])))
  apply eG
  ·exact eX (aw (bu (nH (aw bW (aw bW aZ)) (ao rfl)) (bu kv bW (jv #[12])) (hb _ dz)) (aw kv (aw (bu kv (bu (bu kv bW (i3' _)) bW (jv #[12])) (hix _)) aZ))) (ao rfl)
  ·exact⟨_,_,rfl,⟨_,by rw[hs,ak]⟩,by cases b<;>rfl,.mk b q c,rfl,⟨hq,hcL⟩,fun e=>by rcases e with e|e<;>cases e⟩
 apply bO
 ·exact a7 (bu kv bW (nI (aW #[0])))
 apply cv
 have hk2:∃b:Bool,∀s:List al,s[s2.length]?=some (.lst [.str [108,101,102,116],.str [114,105,103,104,116]])->bj (.loc s2.length) (.int (d4%2)) s=.ok (ui b) s:=by
  obtain⟨m4,hm4,em4⟩:=iR (q:=d4) (n:=2) #[0]
  have em4:d4%2=(m4:Int):=em4
  rw[em4]
  obtain rfl|rfl:m4=0\/m4=1:=by omega
  ·exact⟨true,fun s hs=>j6 (b6 hs) rfl⟩
  ·exact⟨false,fun s hs=>j6 (b6 hs) rfl⟩
 obtain⟨b,hb⟩:=hk2
 apply bQ
 ·exact eX (aw bW (aw kv (aw (bu (nH (aw bW (aw bW aZ)) (ao rfl)) (bu (bu kv bW (i4' _)) bW (jv #[12])) (hb _ dz)) kn))) (ao rfl)
 ·exact⟨_,_,rfl,⟨_,by rw[hs,ak]⟩,by cases b<;>simp[undWs,lg,W.und,ui],.br q b x,rfl,⟨hq,hxs,hx⟩,fun e=>by rcases e with e|e<;>cases e⟩
section
variable{M:Mc}{z':List al}{L a b k:Nat}{t:MT}{sd tk:List Dd}{d:Dd}
theorem DY{c:Nat}{B:Bool}(hm:(if B then jO else jd) [.loc L,.int (q:Nat),.str [c]] z=.ok .non z')(hz:z[L]?=some (.obj "Kept" (kF M t k a b)))(ht:hX z z' [.non]=z'):lV [.loc L,(Pn.mk B q c).w] z=.ok .non z':=by
 rw[<- ht]
 cases B with
 |true=>exact jt (md (cN (a7 (bu kx bW (dD rfl))) (oI (ia kv hz rfl (aw kx (aw kx aZ)) rfl hm))))
 |false=>exact jt (bN (cG (a7 (bu kx bW (dD rfl))) d7) (md (cN (a7 (bu kx bW (dD rfl))) (oI (ia kv hz rfl (aw kx (aw kx aZ)) rfl hm)))))
theorem L_{s:Bool}{x:MT}(hm:gU [.loc L,.int (q:Nat),ui s,b_ x.po] z=.ok .non z')(hz:z[L]?=some (.obj "Kept" (kF M t k a b)))(ht:hX z z' [.non]=z'):lV [.loc L,(Pn.br q s x).w] z=.ok .non z':=by
 rw[<- ht]
 exact jt (bN (cG #[17] d7) (bN (cG #[17] d7) (md (cN #[17] (oI (ia kv hz rfl (aw kx (aw kx (aw kx aZ))) rfl hm))))))
theorem L'{x:MT}(hm:il [.loc L,b_ x.po] z=.ok .non z')(hz:z[L]?=some (.obj "Kept" (kF M t k a b)))(ht:hX z z' [.non]=z'):lV [.loc L,(Pn.wh x).w] z=.ok .non z':=by
 rw[<- ht]
 exact jt (bN (cG #[17] d7) (bN (cG #[17] d7) (bN (cG #[17] d7) (md (cN #[17] (oI (ia kv hz rfl (aw kx aZ) rfl hm)))))))
theorem KL(hm:je [.loc L] z=.ok .non z')(hz:z[L]?=some (.obj "Kept" (kF M t k a b)))(ht:hX z z' [.non]=z'):lV [.loc L,Pn.back.w] z=.ok .non z':=by
 rw[<- ht]
 exact jt (bN (cG #[17] d7) (bN (cG #[17] d7) (bN (cG #[17] d7) (bN (cG #[17] d7) (md (cN #[17] (oI (ia kv hz rfl aZ rfl hm))))))))
theorem Iv(hm:im [.loc L] z=.ok .non z')(hz:z[L]?=some (.obj "Kept" (kF M t k a b)))(ht:hX z z' [.non]=z'):lV [.loc L,Pn.again.w] z=.ok .non z':=by
 rw[<- ht]
 exact jt (bN (cG #[17] d7) (bN (cG #[17] d7) (bN (cG #[17] d7) (bN (cG #[17] d7) (bN (cG #[17] d7) (oI (ia kv hz rfl aZ rfl hm)))))))
theorem nZ.fr(h:nZ M L a b t k sd tk z)(hL:z'[L]?=z[L]?)(ha:z'[a]?=z[a]?)(hb:z'[b]?=z[b]?):nZ M L a b t k sd tk z':=⟨hL.trans h.ob,ha.trans h.s,hb.trans h.u,h.la,h.lb,h.ab,h.ls,h.lu⟩
theorem UC(hM:mz M n)(hn:1<=n){p:Pn}(hp:p.ok t.size)(hb:p≠.back)(hA:p≠.again)(hsz:t.size<=100)(KR:w5 t):∃(t2:MT) (s:List Nat) (ws:List W),w5 t2/\p.w=.tup (.str s::ws)/\0<ws.length/\(s==[98,97,99,107])=false/\(s==[97,103,97,105,110])=false/\(∀z,oX [b_ t.po,p.w] z=.ok (b_ t2.po) z) /\
  (t2.size<=100->∃d:Dd,d.ok/\d.a=t/\d.b=t2/\∀{L a b k:Nat} {sd tk:List Dd} {z1:List al},nZ M L a b t k sd tk z1->sd.length<1000->∃z2,lV [.loc L,p.w] z1=.ok .non z2/\nZ M L a z1.length t2 (d.ct M) (d::sd) [] z2/\K3 L a b z1 z2):=by
 cases p with
 |back=>exact absurd rfl hb
 |again=>exact absurd rfl hA
 |wh x=>
  exact⟨x,[119,104,111,108,101],_,hp.2,rfl,mQ 0,rfl,rfl,fun z=>wf _ x z,fun h=>⟨.wh t x,⟨hsz,h⟩,rfl,rfl,fun hk1 hl=>by
   obtain⟨z2,e2',hk2,h3⟩:=Bn hM hn hsz h hk1 hl
   exact⟨z2,L' e2' hk1.ob (gl _ hk1 hk2),hk2,h3⟩⟩⟩
 |mk B q c=>
  obtain⟨hq,hcL⟩:=hp
  obtain⟨C,l,r,m,rfl,rfl⟩:=pV t q hq
  obtain⟨g1,g2,gm⟩:=KR.at
  refine⟨a8 C (.nd l r (OW B m c)),if B then[112,117,116]else[116,97,107,101],_,KR.plg g1 g2 (by cases B;exact gm.take c;exact gm.put hcL),rfl,mQ 1,by cases B<;>rfl,by cases B<;>rfl,fun z=>wj C l r m B c #[0] gm z,fun h=>?_⟩
  cases B with
  |true=>
   exact⟨.mk C l r m l r (gi (m++[c])) none,⟨hsz,h,fun _=>rfl,fun _=>rfl⟩,rfl,rfl,fun hk1 hl=>by
    obtain⟨z2,e2',hk2,h3⟩:=we hM hn hsz h gm.2 (by have:=gm.ln;omega) hcL hk1 hl
    exact⟨z2,DY (B:=true) e2' hk1.ob (gl _ hk1 hk2),hk2,h3⟩⟩
  |false=>
   exact⟨.mk C l r m l r (m.filter fun d=>d != c) none,⟨hsz,h,fun _=>rfl,fun _=>rfl⟩,rfl,rfl,fun hk1 hl=>by
    obtain⟨z2,e2',hk2,h3⟩:=uj hM hn hsz h (by have:=gm.ln;omega) hk1 hl
    exact⟨z2,DY (B:=false) e2' hk1.ob (gl _ hk1 hk2),hk2,h3⟩⟩
 |br q s x=>
  obtain⟨hq,hx,I_⟩:=hp
  obtain⟨C,l,r,m,rfl,rfl⟩:=pV t q hq
  obtain⟨g1,g2,gm⟩:=KR.at
  exact⟨a8 C #[4],[98,114,97,110,99,104],_,KR.plg (by cases s;exact g1;exact I_) (by cases s;exact I_;exact g2) gm,rfl,mQ 2,rfl,rfl,fun z=>wg C l r x m s #[0] #[0] z,fun h=>⟨.mk C l r m (if s then x else l) (if s then r else x) m (some s),⟨hsz,h,fun e=>by cases s<;>first|rfl|exact absurd rfl e,fun e=>by cases s<;>first|rfl|exact absurd rfl e⟩,rfl,rfl,fun hk1 hl=>by
   obtain⟨z2,e2',hk2,h3⟩:=yd hM hn hsz #[0] h hk1 hl
   exact⟨z2,L_ e2' hk1.ob (gl _ hk1 hk2),hk2,h3⟩⟩⟩
end
theorem Iw{k k':DK}{v:W}(h:k'≠k):j4 (kvs.map fun p=>if p.1=k then(p.1,v)else p) k'=j4 kvs k':=by
 unfold j4
 induction kvs with
 |nil=>rfl
 |cons p r ih=>
  rw[aU,dr,dr]
  by_cases e:p.1=k
  ·rw[aE e,aW (fun z=>h (by rw[<- z,e]))]
   exact ih
  ·rw[aL e]
   by_cases e2:p.1=k'
   ·rw[bw e2]
   ·rw[aW e2];exact ih
theorem Iy{k k':DK}{v:W}:j4 (uv kvs k v) k'=if k'=k then some v else j4 kvs k':=by
 by_cases e:k'=k
 ·subst e
  rw[aE rfl]
  unfold uv
  by_cases h:(kvs.any fun p=>decide (p.1=k'))=true
  ·rw[aE h]
   unfold j4
   induction kvs with
   |nil=>simp at h
   |cons p r ih=>
    rw[aU,dr]
    by_cases e:p.1=k'
    ·rw[aE e,bw e];rfl
    ·rw[aL e,aW e]
     refine ih ?_
     rw[ms,aW e,Bool.false_or]at h
     exact h
  ·rw[aL h]
   unfold j4
   rw[List.find?_append]
   have:kvs.find? (fun p=>decide (p.1=k'))=none:=by
    rw[List.find?_eq_none]
    intro p hp z
    exact h (List.any_eq_true.mpr ⟨p,hp,z⟩)
   rw[this]
   simp
 ·rw[aL e]
  unfold uv
  split
  ·exact Iw e
  ·unfold j4
   rw[List.find?_append]
   cases hf:kvs.find? (fun p=>decide (p.1=k'))with
   |some p=>rfl
   |none=>simp[Ne.symm e]
section
theorem DZ(h:st[n]?=some (.dct kvs)):t8 st (.loc n)=some (n,kvs):=by simp only[t8,h]
theorem OX(h:st[n]?=some (.dct kvs)):EL st (.loc n)=some (n,kvs):=by simp only[EL,h]
theorem OY{v:W}(h:st[n]?=some (.dct kvs))(hl:kvs.length<my):xI (.loc n) (.int q) v st=some (st.set n (.dct (uv kvs (.i q) v))):=by
 simp only[xI,OX h,vF];rw[aE hl]
end
theorem Bp(kvs:List (DK×W))(k:DK)(v:W):(uv kvs k v).length<=kvs.length+1:=by
 unfold uv
 split
 ·rw[aF];omega
 ·rw[ah];exact az _
def pO(kvs:List (DK×W))(k:Nat):Option Nat->List (DK×W)
 |none=>kvs
 |some j=>uv kvs (.i (j:Nat)) (.int (k:Nat))
theorem zx(kvs:List (DK×W))(k:Nat)(o:Option Nat)(j:Nat):j4 (pO kvs k o) (.i (j:Nat))=if o=some j then some (.int (k:Nat))else j4 kvs (.i (j:Nat)):=by
 cases o with
 |none=>rfl
 |some q=>
  show j4 (uv _ _ _) _=_
  rw[Iy]
  by_cases h:j=q
  ·subst h;rw[aE rfl,aE rfl]
  ·rw[aL (fun e=>h (by injection e with e;omega)),aL (fun e=>h (bq e).symm)]
structure Od(lk:List #[7])(i:Nat)(kvs:List (DK×W)):Prop where
 a:∀(j:Nat) (w:W),j4 kvs (.i (j:Nat))=some w->∃(u:Nat) (x:Option Nat×Option Nat),w=.int (u:Nat)/\lk[u]?=some x/\KC x j
 b:∀(u:Nat) (x:Option Nat×Option Nat) (j:Nat),u<i->lk[u]?=some x->KC x j->∃w,j4 kvs (.i (j:Nat))=some w
 l:kvs.length<=2*i
theorem Od.step{lk:List #[7]}(h:Od lk i kvs)(hx:lk[i]?=some x):Od lk (i+1) (pO (pO kvs i x.1) i x.2):=by
 refine⟨fun j w e=>?_,fun u y j hu hy hk=>?_,?_⟩
 ·rw[zx,zx]at e
  by_cases h1:x.2=some j
  ·rw[aE h1]at e;cases e;exact⟨i,x,rfl,hx,.inr h1⟩
  ·rw[aL h1]at e
   by_cases h2:x.1=some j
   ·rw[aE h2]at e;cases e;exact⟨i,x,rfl,hx,.inl h2⟩
   ·rw[aL h2]at e;exact h.a j w e
 ·rw[zx,zx]
  by_cases h1:x.2=some j
  ·exact⟨_,aE h1⟩
  ·rw[aL h1]
   by_cases h2:x.1=some j
   ·exact⟨_,aE h2⟩
   ·rw[aL h2]
    by_cases hu2:u=i
    ·subst hu2;rw[hx]at hy;cases hy
     rcases hk with hk|hk
     ·exact absurd hk h2
     ·exact absurd hk h1
    ·exact h.b u y j #[0] hy hk
 ·have hl:=h.l
  have p1:∀(kvs:List (DK×W)) (k:Nat) (o:Option Nat),(pO kvs k o).length<=kvs.length+1:=fun kvs k o=>by
   cases o with
   |none=>show kvs.length<=_;omega
   |some q=>exact Bp _ _ _
  have:=p1 kvs i x.1
  have:=p1 (pO kvs i x.1) i x.2
  omega
theorem Od.is{t:MT}(h:Od (t.lkT 0) t.size kvs){p:Nat}(hx:(t.lkT 0)[p]?=some x)(hk:KC x j):j4 kvs (.i (j:Nat))=some (.int (p:Nat)):=by
 have hp:p<t.size:=by have:=(au.mp hx).1;rwa[MT.lk_len]at this
 obtain⟨w,hw⟩:=h.b p x j hp hx hk
 obtain⟨u,y,rfl,hy,hk2⟩:=h.a j w hw
 rw[hw,MT.par_one t hy hx hk2 hk]
theorem Od.top{t:MT}(h:Od (t.lkT 0) t.size kvs)(h0:0<t.size):j4 kvs (.i ((t.size-1:Nat):Int))=none:=by
 cases e:j4 kvs (.i ((t.size-1:Nat):Int))with
 |none=>rfl
 |some w=>
  obtain⟨u,y,rfl,hy,hk⟩:=h.a _ w e
  have:=MT.kid_lt t hy hk
  have hp:=(au.mp hy).1
  rw[MT.lk_len]at hp
  omega
theorem T3{f:FG}{w1 w2:W}{ρ1 ρ2 ρ3 ρ4:cM}{c5:List al}(a1:f w1 ρ=some ρ1)(b1:body ρ1 st=.nx ρ2 st1)(a2:f w2 ρ2=some ρ3)(b2:body ρ3 st1=.nx ρ4 c5):nY f body none [w1,w2] ρ st=.nx ρ4 c5:=by
 unfold nY
 rw[aE (show jq st none from trivial),a1]
 simp only[b1]
 unfold nY
 rw[aE (show jq st1 none from trivial),a2]
 simp only[b2]
 unfold nY
 rw[aE (show jq c5 none from trivial)]
theorem D0(t:MT)(ht:t.size<=900)(st:List al):∃(kvs:List (DK×W)) (x:List al),Od (t.lkT 0) t.size kvs/\x[0]?=some (.dct kvs)/\xW [b_ t.po] st=.ok #[5] (st++x):=by
 suffices hh:kI (zO fun w bn=>∃j x,w=.loc (st.length+j)/\bn=st++x/\j=0/\∃kvs,Od (t.lkT 0) t.size kvs/\x[0]?=some (.dct kvs)) (L5 ([b_ t.po].map some++List.replicate (5-1) none) st) by
  obtain⟨j,x,⟨rfl,kvs,h1,h2⟩,e⟩:=rJ hh
  exact⟨kvs,x,h1,h2,e⟩
 obtain⟨y,⟨A,rfl⟩,el⟩:=xY t.gr0 (by rw[MT.po_len];omega) (st++[al.dct []])
 have hl:(st++[al.dct []]).length+1=st.length+2:=by simp
 rw[hl,ak]at el
 apply aA
 ·exact a_ (w:=.loc st.length) rfl
 apply aA
 ·exact a_ (cy kn el rfl)
 have cl:∀c:al,(st++([c]++[al.lst A,.lst ((t.lkT 0).map gE)]))[st.length+2]?=some (.lst ((t.lkT 0).map gE)):=fun c=>by rw[ij];rfl
 have c0:∀c:al,(st++([c]++[al.lst A,.lst ((t.lkT 0).map gE)]))[st.length]?=some c:=fun c=>by rw[dC];rfl
 have cs:∀c d:al,(st++([c]++[al.lst A,.lst ((t.lkT 0).map gE)])).set st.length d=st++([d]++[al.lst A,.lst ((t.lkT 0).map gE)]):=fun c d=>by rw[fx];rfl
 have fX:dI [.loc (st.length+2)] (st++([al.dct []]++[al.lst A,.lst ((t.lkT 0).map gE)]))=.ok (.int (t.size:Nat)) (st++([al.dct []]++[al.lst A,.lst ((t.lkT 0).map gE)])):=by
  have:=k_ (b6 (cl (.dct [])))
  rwa[aF,MT.lk_len]at this
 refine gb (fun i ρ bn=>∃(o3 o4:Option W) (kvs:List (DK×W)),ρ=[some (b_ t.po),lO st.length,lO (st.length+2),o3,o4]/\bn=st++([al.dct kvs]++[al.lst A,.lst ((t.lkT 0).map gE)])/\Od (t.lkT 0) i kvs) (jw (aw (cC kn fX) aZ) #[0]) ⟨none,none,[],rfl,rfl,⟨fun j w e=>(by cases e),fun u x j h=>absurd h (iW _),az _⟩⟩ (fun _ _ _ _=>trivial) ?_ ?_
 ·rintro i w ρ bn hw ⟨o3,o4,kvs,rfl,rfl,hO⟩
  obtain⟨hi,rfl⟩:=jK hw
  rw[bV]at hi
  obtain⟨x,hx⟩:∃x,(t.lkT 0)[i]?=some x:=⟨_,aq (by rw[MT.lk_len];exact hi)⟩
  have ix:∀c,bj (.loc (st.length+2)) (.int (0+(i:Int))) (st++([c]++[al.lst A,.lst ((t.lkT 0).map gE)]))=.ok (gE x) (st++([c]++[al.lst A,.lst ((t.lkT 0).map gE)])):=fun c=>by
   rw[kT];exact j6 (b6 (cl c)) (gk (by rw[aJ,hx];rfl))
  have one:∀(o:Option Nat) (s:Int) (kw:List (DK×W)) ,bj (gE x) (.int s) (st++([al.dct kw]++[al.lst A,.lst ((t.lkT 0).map gE)]))=.ok (oW o) (st++([al.dct kw]++[al.lst A,.lst ((t.lkT 0).map gE)]))->kw.length<=10000 ->
    fO (eF (gu (e2 bj (e2 bj (ag 2) (ag 3)) (ag 4)))) (wO (ag 1) (e2 bj (e2 bj (ag 2) (ag 3)) (ag 4)) (ag 3) xI) bK [some (b_ t.po),lO st.length,lO (st.length+2),some (.int (0+(i:Int))),iO s] (st++([al.dct kw]++[al.lst A,.lst ((t.lkT 0).map gE)]))=.nx [some (b_ t.po),lO st.length,lO (st.length+2),some (.int (0+(i:Int))),iO s] (st++([al.dct (pO kw i o)]++[al.lst A,.lst ((t.lkT 0).map gE)])):=fun o s kw hs hkl=>by
   cases o with
   |none=>exact cG (a7 (dU (bu (bu kv kv (ix _)) kv hs) rfl)) d7
   |some j=>
    refine cN (a7 (dU (bu (bu kv kv (ix _)) kv hs) rfl)) ((AE kv kv (bu (bu kv kv (ix _)) kv hs) (OY (c0 _) (by show _<1000000;omega))).trans ?_)
    rw[cs,kT];rfl
  have hl1:=hO.l
  have hl2:(pO kvs i x.1).length<=kvs.length+1:=by
   cases x.1 with
   |none=>show kvs.length<=_;omega
   |some q=>exact Bp _ _ _
  refine⟨_,rfl,_,_,(yR (uT (eX (aw bW (aw bW aZ)) (ao rfl)))).trans (T3 (ρ1:=[some (b_ t.po),lO st.length,lO (st.length+2),some (.int (0+(i:Int))),iO 0]) rfl (one x.1 0 kvs rfl #[0]) rfl (one x.2 1 _ rfl #[0])),_,_,_,rfl,rfl,hO.step hx⟩
 ·rintro ρ bn ⟨o3,o4,kvs,rfl,rfl,hO⟩
  apply bQ
  ·exact ju rfl
  ·exact⟨_,_,rfl,0,_,rfl,rfl,rfl,kvs,by rw[fE,bV]at hO;exact hO,rfl⟩
section
variable{M:Mc}
theorem u0{fo fk:FE}(h1:fo ρ st=.ok (.loc n) st)(h2:fk ρ st=.ok (.int (q:Nat)) st)(h:st[n]?=some (.dct kvs)):qE fo fk ρ st=.ok ((j4 kvs (.i (q:Nat))).getD .non) st:=by
 unfold qE
 rw[h1];simp only[R.bind_ok,DZ h]
 rw[h2];simp only[R.bind_ok,vF,DZ h]
theorem Bq{g:FS}{k:Nat}{w:W}(h:t ρ st=.ok true st)(e:g ρ st=.rt w bn):dE t g (k+1) ρ st=.rt w bn:=by unfold dE;rw[h];simp only[R.stmt_ok,f6,e]
theorem wl(M:Mc):∀(C:List Fm) (v o:Nat),v_ M C v o=v_ M C o v
 |[],_,_=>rfl
 |f::C,v,o=>by
  show(if v=o then 1 else 1+_)=(if o=v then 1 else 1+_)
  by_cases h:v=o
  ·rw[aE h,aE h.symm]
  ·rw[aL h,aL (Ne.symm h),wl M C]
abbrev SN:FT:=eF (gu (ag 2))
abbrev SQ:FS:=(aI (ba 9 (e2 cQ (ag 9) (eI 1))) (aI (fO (eF (e2 iN (e2 bj (ag 5) (ag 2)) (e2 bj (ag 6) (ag 4)))) (cW (ag 9)) bK) (aI (ba 2 (qE (ag 7) (ag 2))) (ba 4 (qE (ag 8) (ag 4))))))
abbrev CT(M:Mc)(t t':MT)(ra rb da db:Nat)(o2 o4:Option W)(c:Nat):cM:=[some M.w,some (b_ t.po),o2,some (b_ t'.po),o4,lO ra,lO rb,lO da,lO db,iO (c:Nat)]
theorem sg(C:List Fm)(l r:MT)(m:List Nat):(#[1].rT M)[pq C l r]?=some #[13]:=by
 rw[m_]
 exact v9 (rA M C) (l.rT M) (r.rT M) (rB M C _) _ (Ig M C l r)
theorem Od.par{t:MT}(h:Od (t.lkT 0) t.size kvs){f:Fm}{C:List Fm}{l r:MT}(ht:t=a8 (f::C) (.nd l r m)):∃(l2 r2:MT) (m2:List Nat),f.ap (.nd l r m)=.nd l2 r2 m2/\j4 kvs (.i ((pq (f::C) l r:Nat):Int))=some (.int (pq C l2 r2:Nat))/\sv M m2 (l2.tR M) (r2.tR M)=f.rm M #[13]:=by
 cases f with
 |lf y w=>
  refine⟨.nd l r m,y,w,rfl,?_,rfl⟩
  have hx:=pW C (.nd l r m) y w
  rw[show a8 C (.nd (.nd l r m) y w)=t from ht.symm]at hx
  exact h.is hx (.inl (by rw[MT.tp_nd,MT.size_nd];show some _=some ((pA C).length+_+_);congr 1;omega))
 |rg y w=>
  refine⟨y,.nd l r m,w,rfl,?_,rfl⟩
  have hx:=pW C y (.nd l r m) w
  rw[show a8 C (.nd y (.nd l r m) w)=t from ht.symm]at hx
  exact h.is hx (.inr (by rw[MT.tp_nd,MT.size_nd];show some _=some ((pA C++y.po).length+_+_);rw[ah,MT.po_len];congr 1;omega))
theorem Od.end{t:MT}(h:Od (t.lkT 0) t.size kvs){l r:MT}(ht:t=a8 [] (.nd l r m)):j4 kvs (.i ((pq [] l r:Nat):Int))=none:=by
 have e:pq [] l r=t.size-1:=by rw[ht];show 0+_+_=(MT.nd l r m).size-1;rw[MT.size_nd];omega
 rw[e]
 exact h.top (by rw[ht];show 0<(MT.nd l r m).size;rw[MT.size_nd];omega)
theorem Br{t t':MT}{kw S6:List (DK×W)}{ra rb da db:Nat}(hO:Od (t.lkT 0) t.size kw)(SY:Od (t'.lkT 0) t'.size S6)(ca:st[ra]?=some (.lst (nW (t.rT M))))(cb:st[rb]?=some (.lst (nW (t'.rT M))))(cd:st[da]?=some (.dct kw))(ce:st[db]?=some (.dct S6)) :
  ∀(C:List Fm) (l r l' r':MT) (m m':List Nat) (c:Nat),t=a8 C (.nd l r m)->t'=a8 C (.nd l' r' m') ->
   dE SN SQ (C.length+2) (CT M t t' ra rb da db (iO (pq C l r:Nat)) (iO (pq C l' r':Nat)) c) st=.rt (.int ((c+v_ M C (sv M m' (l'.tR M) (r'.tR M)) #[13]:Nat):Int)) st \/
   ∃o2 o4,dE SN SQ (C.length+2) (CT M t t' ra rb da db (iO (pq C l r:Nat)) (iO (pq C l' r':Nat)) c) st=.nx (CT M t t' ra rb da db o2 o4 (c+v_ M C (sv M m' (l'.tR M) (r'.tR M)) #[13])) st:=by
 intro C
 induction C with
 |nil=>
  intro l r l' r' m m' c ht ht'
  have a1:=sg (M:=M) [] l r m
  have a2:=sg (M:=M) [] l' r' m'
  rw[<- ht]at a1
  rw[<- ht']at a2
  have e9:ba 9 (e2 cQ (ag 9) (eI 1)) (CT M t t' ra rb da db (iO (pq [] l r:Nat)) (iO (pq [] l' r':Nat)) c) st=.nx (CT M t t' ra rb da db (iO (pq [] l r:Nat)) (iO (pq [] l' r':Nat)) (c+1)) st:=a_ (bu kv bW dX)
  have eq:∀b,decide (sv M m (l.tR M) (r.tR M)=sv M m' (l'.tR M) (r'.tR M))=b->eF (e2 iN (e2 bj (ag 5) (ag 2)) (e2 bj (ag 6) (ag 4))) (CT M t t' ra rb da db (iO (pq [] l r:Nat)) (iO (pq [] l' r':Nat)) (c+1)) st=.ok b st:=fun b hb=>a7 (bu (bu kv kv (xZ ca a1)) (bu kv kv (xZ cb a2)) (gj (by rw[<- hb,iZ,dg,gI];omega)))
  by_cases h:sv M m (l.tR M) (r.tR M)=sv M m' (l'.tR M) (r'.tR M)
  ·exact .inl (Bq (a7 (dU kv rfl)) (bN e9 (md (cN (eq true (bw h)) (oI kv)))))
  ·have g1:=u0 (fo:=ag 7) (fk:=ag 2) (ρ:=CT M t t' ra rb da db (iO (pq [] l r:Nat)) (iO (pq [] l' r':Nat)) (c+1)) kv kv cd
   rw[hO.end ht]at g1
   have g2:=u0 (fo:=ag 8) (fk:=ag 4) (ρ:=CT M t t' ra rb da db (some .non) (iO (pq [] l' r':Nat)) (c+1)) kv kv ce
   rw[SY.end ht']at g2
   exact .inr ⟨some .non,some .non,o_ (a7 (dU kv rfl)) (bN e9 (bN (cG (eq false (aW h)) d7) (bN (a_ g1) (a_ g2)))) (yc (a7 (dU kv rfl)))⟩
 |cons f C ih=>
  intro l r l' r' m m' c ht ht'
  have a1:=sg (M:=M) (f::C) l r m
  have a2:=sg (M:=M) (f::C) l' r' m'
  rw[<- ht]at a1
  rw[<- ht']at a2
  have e9:ba 9 (e2 cQ (ag 9) (eI 1)) (CT M t t' ra rb da db (iO (pq (f::C) l r:Nat)) (iO (pq (f::C) l' r':Nat)) c) st=.nx (CT M t t' ra rb da db (iO (pq (f::C) l r:Nat)) (iO (pq (f::C) l' r':Nat)) (c+1)) st:=a_ (bu kv bW dX)
  have eq:∀b,decide (sv M m (l.tR M) (r.tR M)=sv M m' (l'.tR M) (r'.tR M))=b->eF (e2 iN (e2 bj (ag 5) (ag 2)) (e2 bj (ag 6) (ag 4))) (CT M t t' ra rb da db (iO (pq (f::C) l r:Nat)) (iO (pq (f::C) l' r':Nat)) (c+1)) st=.ok b st:=fun b hb=>a7 (bu (bu kv kv (xZ ca a1)) (bu kv kv (xZ cb a2)) (gj (by rw[<- hb,iZ,dg,gI];omega)))
  by_cases h:sv M m (l.tR M) (r.tR M)=sv M m' (l'.tR M) (r'.tR M)
  ·rw[show v_ M (f::C) (sv M m' (l'.tR M) (r'.tR M)) #[13]=1 from aE h.symm]
   exact .inl (Bq (a7 (dU kv rfl)) (bN e9 (md (cN (eq true (bw h)) (oI kv)))))
  ·rw[show v_ M (f::C) (sv M m' (l'.tR M) (r'.tR M)) #[13]=1+v_ M C (f.rm M (sv M m' (l'.tR M) (r'.tR M))) (f.rm M #[13])from aL (Ne.symm h),<- jX]
   obtain⟨l2,r2,m2,p1,p2,p3⟩:=hO.par (M:=M) ht
   obtain⟨l3,r3,m3,p4,p5,p6⟩:=SY.par (M:=M) ht'
   have g1:=u0 (fo:=ag 7) (fk:=ag 2) (ρ:=CT M t t' ra rb da db (iO (pq (f::C) l r:Nat)) (iO (pq (f::C) l' r':Nat)) (c+1)) kv kv cd
   rw[p2]at g1
   have g2:=u0 (fo:=ag 8) (fk:=ag 4) (ρ:=CT M t t' ra rb da db (iO (pq C l2 r2:Nat)) (iO (pq (f::C) l' r':Nat)) (c+1)) kv kv ce
   rw[p5]at g2
   have c5:=fun{rs:RS} (e:dE SN SQ (C.length+2) (CT M t t' ra rb da db (iO (pq C l2 r2:Nat)) (iO (pq C l3 r3:Nat)) (c+1)) st=rs)=>o_ (k:=C.length+2) (t:=SN) (g:=SQ) (ρ:=CT M t t' ra rb da db (iO (pq (f::C) l r:Nat)) (iO (pq (f::C) l' r':Nat)) c) (a7 (dU kv rfl)) (bN e9 (bN (cG (eq false (aW h)) d7) (bN (a_ g1) (a_ g2)))) e
   have hi:=ih l2 r2 l3 r3 m2 m3 (c+1) (by rw[<- p1];exact ht) (by rw[<- p4];exact ht')
   rw[p3,p6]at hi
   rcases hi with hi|⟨o2,o4,hi⟩
   ·exact .inl (c5 hi)
   ·exact .inr ⟨o2,o4,c5 hi⟩
theorem uk(hM:mz M n)(hn:1<=n)(C:List Fm)(l r l' r':MT)(m m':List Nat)(h1:#[1].size<=900)(h2:(a8 C (.nd l' r' m')).size<=900)(st:List al) :
  xX [M.w,b_ #[1].po,.int (pq C l r:Nat),b_ (a8 C (.nd l' r' m')).po,.int (pq C l' r':Nat)] st=.ok (.int (v_ M C (sv M m' (l'.tR M) (r'.tR M)) #[13]:Nat)) st:=by
 obtain⟨t,ht⟩:∃t,t=a8 C (.nd l r m):=⟨_,rfl⟩
 obtain⟨t',ht'⟩:∃t',t'=a8 C (.nd l' r' m'):=⟨_,rfl⟩
 rw[<- ht]at h1 ⊢
 rw[<- ht']at h2 ⊢
 obtain⟨x1,e1,y1⟩:=DT t.gr0 (by rw[MT.po_len];omega) hM hn st
 obtain⟨x2,e2',y2⟩:=DT t'.gr0 (by rw[MT.po_len];omega) hM hn (st++x1)
 obtain⟨kw,x3,hO,y3,e3⟩:=D0 t h1 (st++x1++x2)
 obtain⟨S6,x4,SY,y4,e4⟩:=D0 t' h2 (st++x1++x2++x3)
 rw[MT.rooms_po]at y1 y2
 have ca:(st++x1++x2++x3++x4)[st.length+1]?=some (.lst (nW (t.rT M))):=cJ (cJ (cJ (by rw[ij];exact y1)))
 have cb:(st++x1++x2++x3++x4)[(st++x1).length+1]?=some (.lst (nW (t'.rT M))):=cJ (cJ (by rw[ij];exact y2))
 have cd:(st++x1++x2++x3++x4)[(st++x1++x2).length]?=some (.dct kw):=cJ (by rw[dC];exact y3)
 have ce:(st++x1++x2++x3++x4)[(st++x1++x2++x3).length]?=some (.dct S6):=by rw[dC];exact y4
 have lp:=Br hO SY ca cb cd ce C l r l' r' m m' 0 ht ht'
 rw[iz]at lp
 have hs:st++x1++x2++x3++x4=st++(x1++(x2++(x3++x4))):=by simp only[ak]
 refine f9 ?_ rfl
 apply aA
 ·exact a_ (cy (aw kv kn) e1 rfl)
 apply aA
 ·exact a_ (cy (aw kv kn) e2' rfl)
 apply aA
 ·exact a_ (cy kn e3 rfl)
 apply aA
 ·exact a_ (cy kn e4 rfl)
 apply aA
 ·exact a_ bW
 rcases lp with lp|⟨o2,o4,lp⟩
 ·exact⟨_,_,md (pL lp #[15]),rfl,_,hs⟩
 ·apply aA
  ·exact pL lp #[15]
  apply bQ
  ·exact ju rfl
  ·exact⟨_,_,rfl,rfl,_,hs⟩
end
def rW(M:Mc)(d:Dd):W:=.tup [b_ d.a.po,b_ d.b.po,.int (d.ct M:Nat),.int (d.tn.ct M:Nat)]
section
variable{M:Mc}{z':List al}{L a b k:Nat}{t:MT}{sd tk:List Dd}{d:Dd}
theorem wm(t:MT)(st:List al):dI [b_ t.po] st=.ok (.int (t.size:Nat)) st:=by have:=gY t.po st;rwa[MT.po_len]at this
theorem OZ(M:Mc)(t x:MT)(st:List al):rX [M.w,b_ t.po,b_ x.po,(Pn.wh x).w] st=.ok (rW M (.wh t x)) st:=by
 apply dQ
 apply fy
 ·exact a7 (bu kx bW (dD rfl))
 apply eG
 ·exact eX (aw kv (aw kv (aw (cC kn (wm x st)) (aw (cC kn (wm t st)) aZ)))) (ao rfl)
 ·exact⟨_,_,rfl,rfl,rfl⟩
theorem O0(hM:mz M n)(hn:1<=n)(C:List Fm)(l r:MT)(m m':List Nat)(B:Bool)(c:Nat)(h1:#[1].size<=900)(h2:(a8 C (.nd l r m')).size<=900)(st:List al):rX [M.w,b_ #[1].po,b_ (a8 C (.nd l r m')).po,(Pn.mk B (pq C l r) c).w] st=.ok (rW M (.mk C l r m l r m' none)) st:=by
 have cl:=uk hM hn C l r l r m m' h1 h2 st
 have e1:(Dd.mk C l r m l r m' none).ct M=v_ M C (sv M m' (l.tR M) (r.tR M)) #[13]:=iz _
 have e2':(Dd.mk C l r m l r m' none).tn.ct M=v_ M C (sv M m' (l.tR M) (r.tR M)) #[13]:=(iz _).trans (wl M C _ _)
 unfold rW
 rw[e1,e2']
 apply dQ
 apply bO
 ·exact a7 (bu kx bW (dD (by cases B<;>rfl)))
 apply cv
 apply aA
 ·exact a_ kx
 apply fy
 ·exact a7 (bu kx bW (Iq (by cases B<;>rfl)))
 apply pS
 apply aA
 ·exact a_ (cy (aw kv (aw kv (aw kv (aw kv kn)))) cl rfl)
 apply eG
 ·exact eX (aw kv (aw kv (aw kv kn))) (ao rfl)
 ·exact⟨_,_,rfl,rfl,rfl⟩
theorem O1(hM:mz M n)(hn:1<=n)(C:List Fm)(l r x:MT)(m:List Nat)(s:Bool)(h1:#[1].size<=900)(h2:(a8 C #[4]).size<=900)(st:List al):rX [M.w,b_ #[1].po,b_ (a8 C #[4]).po,(Pn.br (pq C l r) s x).w] st=.ok (rW M (.mk C l r m (if s then x else l) (if s then r else x) m (some s))) st:=by
 have bo:=yf C l r m h1 st
 have cl:=uk hM hn C l r (if s then x else l) (if s then r else x) m m h1 h2 st
 have hq:((pq C (if s then x else l) (if s then r else x):Nat):Int)=(pq C l r:Int)+(x.size:Nat)-((if s then l.size else r.size:Nat):Int):=by
  cases s
  ·show(((pA C).length+l.size+x.size:Nat):Int)=(((pA C).length+l.size+r.size:Nat):Int)+(x.size:Nat)-(r.size:Nat);omega
  ·show(((pA C).length+x.size+r.size:Nat):Int)=(((pA C).length+l.size+r.size:Nat):Int)+(x.size:Nat)-(l.size:Nat);omega
 rw[hq]at cl
 have e1:(Dd.mk C l r m (if s then x else l) (if s then r else x) m (some s)).ct M=v_ M C (sv M m ((if s then x else l).tR M) ((if s then r else x).tR M)) #[13]+x.size:=by
  have hb:Dd.bc (some s) (if s then x else l) (if s then r else x)=x.size:=by cases s<;>rfl
  show Dd.bc (some s) (if s then x else l) (if s then r else x)+_=_
  rw[hb,Nat.add_comm]
 have e2':(Dd.mk C l r m (if s then x else l) (if s then r else x) m (some s)).tn.ct M=v_ M C (sv M m ((if s then x else l).tR M) ((if s then r else x).tR M)) #[13]+(if s then l.size else r.size):=by
  show(if s then l.size else r.size)+v_ M C #[13] _=_
  rw[Nat.add_comm,wl]
 unfold rW
 rw[e1,e2',eJ,eJ]
 generalize v_ M C (sv M m ((if s then x else l).tR M) ((if s then r else x).tR M)) #[13]=N at *
 have e8:fO (eF (e2 iN (e2 bj (ag 3) (eI 2)) (eC (.str [114,105,103,104,116])))) (ba 8 (e2 kO (ag 4) (ag 7))) bK [some M.w,some (b_ #[1].po),some (b_ (a8 C #[4]).po),some (Pn.br (pq C l r) s x).w,iO (pq C l r:Nat),none,iO ((pA C).length:Nat),iO ((pA C).length+l.size:Nat),iO (l.size:Nat),none] st=.nx [some M.w,some (b_ #[1].po),some (b_ (a8 C #[4]).po),some (Pn.br (pq C l r) s x).w,iO (pq C l r:Nat),none,iO ((pA C).length:Nat),iO ((pA C).length+l.size:Nat),iO (if s then l.size else r.size:Nat),none] st:=by
  cases s with
  |true=>exact cG (a7 (bu kx bW (dD rfl))) d7
  |false=>
   have:((if false=true then l.size else r.size:Nat):Int)=(pq C l r:Int)-((pA C).length+l.size:Nat):=by show(r.size:Int)=_;unfold pq;omega
   rw[this]
   exact cN #[17] (a_ (bu kv kv rfl))
 have e7:ba 8 (e2 kO (ag 7) (ag 6)) [some M.w,some (b_ #[1].po),some (b_ (a8 C #[4]).po),some (Pn.br (pq C l r) s x).w,iO (pq C l r:Nat),none,iO ((pA C).length:Nat),iO ((pA C).length+l.size:Nat),none,none] st=.nx [some M.w,some (b_ #[1].po),some (b_ (a8 C #[4]).po),some (Pn.br (pq C l r) s x).w,iO (pq C l r:Nat),none,iO ((pA C).length:Nat),iO ((pA C).length+l.size:Nat),iO (l.size:Nat),none] st:=by
  have:((l.size:Nat):Int)=((pA C).length+l.size:Nat)-((pA C).length:Int):=by omega
  rw[this]
  exact a_ (bu kv kv rfl)
 apply dQ
 apply bO
 ·exact a7 (bu kx bW (dD rfl))
 apply cv
 apply aA
 ·exact a_ kx
 apply bO
 ·exact a7 (bu kx bW (Iq rfl))
 apply cv
 apply aA
 ·exact v3 (cy (aw kv kn) bo rfl) rfl
 apply aA
 ·exact e7
 apply aA
 ·exact e8
 apply aA
 ·exact a_ (cC (aw kx aZ) (wm x st))
 apply aA
 ·exact a_ (cy (aw kv (aw kv (aw kv (aw kv (aw (bu (bu kv kv dX) kv rfl) aZ))))) cl rfl)
 apply bQ
 ·exact eX (aw kv (aw kv (aw (bu kv kv dX) (aw (bu kv kv dX) aZ)))) (ao rfl)
 ·exact⟨_,_,rfl,rfl,rfl⟩
theorem O6(hM:mz M n)(hn:1<=n){p:Pn}(hp:p.ok t.size)(hb:p≠.back)(hA:p≠.again)(hsz:t.size<=100)(KR:w5 t):∃(t2:MT) (s:List Nat) (ws:List W),w5 t2/\p.w=.tup (.str s::ws)/\(s==[98,97,99,107])=false/\(s==[97,103,97,105,110])=false/\(∀z,oX [b_ t.po,p.w] z=.ok (b_ t2.po) z) /\
  (t2.size<=100->∃d:Dd,d.ok/\d.a=t/\d.b=t2/\(∀z,rX [M.w,b_ t.po,b_ t2.po,p.w] z=.ok (rW M d) z)/\∀{L a b k:Nat} {sd tk:List Dd} {z1:List al},nZ M L a b t k sd tk z1->sd.length<1000->∃z2,lV [.loc L,p.w] z1=.ok .non z2/\nZ M L a z1.length t2 (d.ct M) (d::sd) [] z2/\K3 L a b z1 z2):=by
 cases p with
 |back=>exact absurd rfl hb
 |again=>exact absurd rfl hA
 |wh x=>
  exact⟨x,[119,104,111,108,101],_,hp.2,rfl,rfl,rfl,fun z=>wf _ x z,fun h=>⟨.wh t x,⟨hsz,h⟩,rfl,rfl,fun z=>OZ M t x z,fun hk1 hl=>by
   obtain⟨z2,e2',hk2,h3⟩:=Bn hM hn hsz h hk1 hl
   exact⟨z2,L' e2' hk1.ob (gl _ hk1 hk2),hk2,h3⟩⟩⟩
 |mk B q c=>
  obtain⟨hq,hcL⟩:=hp
  obtain⟨C,l,r,m,rfl,rfl⟩:=pV t q hq
  obtain⟨g1,g2,gm⟩:=KR.at
  refine⟨a8 C (.nd l r (OW B m c)),if B then[112,117,116]else[116,97,107,101],_,KR.plg g1 g2 (by cases B;exact gm.take c;exact gm.put hcL),rfl,by cases B<;>rfl,by cases B<;>rfl,fun z=>wj C l r m B c #[0] gm z,fun h=>?_⟩
  have hr:=fun z=>O0 hM hn C l r m (OW B m c) B c #[0] #[0] z
  cases B with
  |true=>
   exact⟨.mk C l r m l r (gi (m++[c])) none,⟨hsz,h,fun _=>rfl,fun _=>rfl⟩,rfl,rfl,hr,fun hk1 hl=>by
    obtain⟨z2,e2',hk2,h3⟩:=we hM hn hsz h gm.2 (by have:=gm.ln;omega) hcL hk1 hl
    exact⟨z2,DY (B:=true) e2' hk1.ob (gl _ hk1 hk2),hk2,h3⟩⟩
  |false=>
   exact⟨.mk C l r m l r (m.filter fun d=>d != c) none,⟨hsz,h,fun _=>rfl,fun _=>rfl⟩,rfl,rfl,hr,fun hk1 hl=>by
    obtain⟨z2,e2',hk2,h3⟩:=uj hM hn hsz h (by have:=gm.ln;omega) hk1 hl
    exact⟨z2,DY (B:=false) e2' hk1.ob (gl _ hk1 hk2),hk2,h3⟩⟩
 |br q s x=>
  obtain⟨hq,hx,I_⟩:=hp
  obtain⟨C,l,r,m,rfl,rfl⟩:=pV t q hq
  obtain⟨g1,g2,gm⟩:=KR.at
  exact⟨a8 C #[4],[98,114,97,110,99,104],_,KR.plg (by cases s;exact g1;exact I_) (by cases s;exact I_;exact g2) gm,rfl,rfl,rfl,fun z=>wg C l r x m s #[0] #[0] z,fun h=>⟨.mk C l r m (if s then x else l) (if s then r else x) m (some s),⟨hsz,h,fun e=>by cases s<;>first|rfl|exact absurd rfl e,fun e=>by cases s<;>first|rfl|exact absurd rfl e⟩,rfl,rfl,fun z=>O1 hM hn C l r x m s #[0] #[0] z,fun hk1 hl=>by
   obtain⟨z2,e2',hk2,h3⟩:=yd hM hn hsz #[0] h hk1 hl
   exact⟨z2,L_ e2' hk1.ob (gl _ hk1 hk2),hk2,h3⟩⟩⟩
theorem ul(hz:nZ M L a b t k sd tk z):fR [.loc L] z=.ok (.int (k:Nat)) z:=by
 apply dQ
 apply bQ
 ·exact fj kv hz.ob rfl
 ·exact⟨_,_,rfl,rfl,rfl⟩
theorem wn(ht:t.size<=900)(hz:nZ M L a b t k sd tk z):uh [.loc L,b_ t.po,.int (k:Nat)] z=.ok (.bl true) z:=by
 apply dQ
 apply bO
 ·exact pR (xL (a7 (cy (aw (ia kv hz.ob rfl aZ rfl (ul hz)) kn) (HR _ z) rfl)) rfl) (xL (a7 (cy (aw (ia kv hz.ob rfl aZ rfl (CP hz)) kn) (R0 t #[0] z) rfl)) rfl)
 apply cv
 apply bQ
 ·exact cy (aw (ia kv hz.ob rfl aZ rfl (ul hz)) kn) (HR _ z) rfl
 ·exact⟨_,_,rfl,rfl,rfl⟩
def UD:List Dd->MT->Prop
 |[],_=>True
 |d::sd,t=>d.b=t/\UD sd d.a
def UE:List Dd->MT->Prop
 |[],_=>True
 |d::tk,t=>d.a=t/\UE tk d.b
def UF(d:Dd):Prop:=d.ok/\w5 d.a/\w5 d.b
structure Lv(M:Mc)(ns:List Int)(L a b P Q:Nat)(t:MT)(k:Nat)(sd tk:List Dd)(i:Nat)(z:List al):Prop where
 ks:nZ M L a b t k sd tk z
 r0:z[0]?=some (.ro (ns.map W.int))
 pP:z[P]?=some (.lst (sd.reverse.map (rW M)))
 pQ:z[Q]?=some (.lst (tk.reverse.map (rW M)))
 cs:UD sd t
 ct:UE tk t
 gd:w5 t
 sz:t.size<=100
 os:∀d∈sd,UF d
 ot:∀d∈tk,UF d
 ln:sd.length+tk.length<=i
 n0:0≠L/\0≠a/\0≠b/\0≠P/\0≠Q
 nP:P≠L/\P≠a/\P≠b/\P≠Q
 nQ:Q≠L/\Q≠a/\Q≠b
abbrev lR(M:Mc)(t:MT)(pool:List Nat)(L P Q:Nat)(o7 o8 o9 o10:Option W):cM:=[lO 0,some M.w,some (b_ t.po),some (.str pool),lO L,lO P,lO Q,o7,o8,o9,o10]
theorem yg{f:FG}{body:FS}(I:Nat->cM->List al->Prop):∀{ws:List W} {ρ:cM} {st:List al} (i0:Nat),I i0 ρ st ->
  (∀i w ρ st,ws[i]?=some w->I (i0+i) ρ st->∃ρ' ρ2 c5,f w ρ=some ρ'/\(body ρ' st=.nx ρ2 c5\/body ρ' st=.ct ρ2 c5)/\I (i0+i+1) ρ2 c5) ->
  ∃ρ2 c5,nY f body none ws ρ st=.nx ρ2 c5/\I (i0+ws.length) ρ2 c5
 |[],ρ,st,i0,h0,hs=>⟨ρ,st,by unfold nY;rw[aE (show jq st none from trivial)],h0⟩
 |w::ws,ρ,st,i0,h0,hs=>by
  obtain⟨ρ',ρ2,c5,e1,e2,h1⟩:=hs 0 w ρ st rfl h0
  obtain⟨ρ3,lW,e3,h3⟩:=yg I (ws:=ws) (ρ:=ρ2) (st:=c5) (i0+1) h1 fun i w ρ st hw hI=>by
   obtain⟨a,b,c,d,e,g⟩:=hs (i+1) w ρ st (by simpa using hw) (by rw[show i0+(i+1)=i0+1+i by omega];exact hI)
   exact⟨a,b,c,d,e,by rw[show i0+1+i+1=i0+(i+1)+1 by omega];exact g⟩
  refine⟨ρ3,lW,?_,by rw[bg,show i0+(ws.length+1)=i0+1+ws.length by omega];exact h3⟩
  unfold nY
  rw[aE (show jq st none from trivial),e1]
  rcases e2 with e2|e2<;>simp only[e2]<;>exact e3
theorem tK{g g':FS}{ρ':cM}(h:g ρ st=.ct ρ' st1):aI g g' ρ st=.ct ρ' st1:=by unfold aI;rw[h]
abbrev lB:FS:=(aI (ba 8 (cu 5 mJ (ai (ag 0) (ai (ag 7) (ai (eI 10) (ai (ag 2) (ai (ag 3) aD))))))) (aI (fO (eF (e2 iN (e2 bj (ag 8) (eI 0)) (eC (.str [98,97,99,107])))) (aI (fO (eF (e2 iN (bE dI (ai (ag 5) aD)) (eI 0))) vk bK) (aI (c7 (k7 bU (ag 6) (ai (k7 mD (ag 5) aD) aD))) (aI (ba 2 (e2 bj (e2 bj (ag 6) (pY (eI 1))) (eI 0))) (ba 9 (e2 bj (e2 bj (ag 6) (pY (eI 1))) (eI 3)))))) (fO (eF (e2 iN (e2 bj (ag 8) (eI 0)) (eC (.str [97,103,97,105,110])))) (aI (fO (eF (e2 iN (bE dI (ai (ag 6) aD)) (eI 0))) vk bK) (aI (c7 (k7 bU (ag 5) (ai (k7 mD (ag 6) aD) aD))) (aI (ba 2 (e2 bj (e2 bj (ag 5) (pY (eI 1))) (eI 1))) (ba 9 (e2 bj (e2 bj (ag 5) (pY (eI 1))) (eI 2)))))) (aI (ba 10 (cu 2 oX (ai (ag 2) (ai (ag 8) aD)))) (aI (fO (eF (e2 Ff (bE dI (ai (ag 10) aD)) (eI 100))) vk bK) (aI (c7 (k7 bU (ag 5) (ai (cu 4 rX (ai (ag 1) (ai (ag 2) (ai (ag 10) (ai (ag 8) aD))))) aD))) (aI (ba 6 (kg aD)) (aI (ba 2 (ag 10)) (ba 9 (e2 bj (e2 bj (ag 5) (pY (eI 1))) (eI 2)))))))))) (aI (c7 (cu 2 lV (ai (ag 4) (ai (ag 8) aD)))) (fO (Fe (eF (cu 3 uh (ai (ag 4) (ai (ag 2) (ai (ag 9) aD)))))) (cW (eC (.bl false))) bK))))
theorem CU{pool:List Nat}{P Q i:Nat}{p:Pn}{o10:Option W}(ht:t.size<=100)(hd:lV [.loc L,p.w] z=.ok .non z')(hk:nZ M L a b t k sd tk z') :
  (aI (c7 (cu 2 lV (ai (ag 4) (ai (ag 8) aD)))) (fO (Fe (eF (cu 3 uh (ai (ag 4) (ai (ag 2) (ai (ag 9) aD)))))) (cW (eC (.bl false))) bK)) (lR M t pool L P Q (iO (i:Nat)) (some p.w) (iO (k:Nat)) o10) z=.nx (lR M t pool L P Q (iO (i:Nat)) (some p.w) (iO (k:Nat)) o10) z':=
 bN (d6 (cy (aw kv kn) hd rfl)) (cG (xL (a7 (cy (aw kv (aw kv kn)) (wn #[0] hk) rfl)) rfl) d7)
def Go(M:Mc)(ns:List Int)(pool:List Nat)(L P i:Nat)(r:RS):Prop:=
 ∃(t:MT) (a b Q k:Nat) (sd tk:List Dd) (o7 o8 o9 o10:Option W) (z2:List al),(r=.nx (lR M t pool L P Q o7 o8 o9 o10) z2\/r=.ct (lR M t pool L P Q o7 o8 o9 o10) z2)/\Lv M ns L a b P Q t k sd tk i z2
theorem Lv.up{P Q:Nat}(h:Lv M ns L a b P Q t k sd tk i z)(hj:i<=j):Lv M ns L a b P Q t k sd tk j z:={ h with ln:=aN h.ln hj }
theorem si{w:W}(h:z[n]?=some (.lst (ws++[w]))):bj (.loc n) (.int (-1)) z=.ok w z:=by
 refine j6 (b6 h) (q:=-(((0:Nat):Int)+1)) (GK ?_)
 rw[List.reverse_append];rfl
theorem E2(hM:mz M n)(hn:1<=n){P Q:Nat}{o8 o9 o10:Option W}(hv:Lv M ns L a b P Q t k sd tk i z)(hi:i<100)(hp:mJ [.loc 0,.int (i:Nat),.int 10,b_ t.po,.str pool] z=.ok Pn.back.w z):Go M ns pool L P (i+1) (lB #[22] z):=by
 have e1:ba 8 (cu 5 mJ (ai (ag 0) (ai (ag 7) (ai (eI 10) (ai (ag 2) (ai (ag 3) aD)))))) #[22] z=.nx (lR M t pool L P Q (iO (i:Nat)) (some Pn.back.w) o9 o10) z:=a_ (cy (aw kv (aw kv (aw bW (aw kv kn)))) hp rfl)
 have pP:=hv.pP
 have pQ:=hv.pQ
 have hln:=hv.ln
 cases sd with
 |nil=>exact⟨t,a,b,Q,k,[],tk,_,_,_,_,z,.inr (bN e1 (tK (cN (a7 (bu kx bW (dD rfl))) (tK (cN (a7 (bu (cC kn (k_ (b6 pP))) bW (gj rfl))) rfl))))),hv.up (by omega)⟩
 |cons d sd=>
  rw[bg]at hln
  obtain⟨c1,c2⟩:=hv.cs
  subst c1
  rw[bA,bb]at pP
  have pQ2:(z.set P (.lst (sd.reverse.map (rW M))))[Q]?=some (.lst (tk.reverse.map (rW M))):=by rw[bH hv.nP.2.2.2];exact pQ
  have hl0:∀x:List W,x.length=sd.length+1->((x.length:Int)==0)=false:=fun x hx=>by rw[bz];omega
  have hk1:nZ M L a b d.b k (d::sd) tk ((z.set P (.lst (sd.reverse.map (rW M)))).set Q (.lst (tk.reverse.map (rW M)++[rW M d]))):=hv.ks.fr (by rw[bH hv.nQ.1,bH hv.nP.1]) (by rw[bH hv.nQ.2.1,bH hv.nP.2.1]) (by rw[bH hv.nQ.2.2,bH hv.nP.2.2.1])
  obtain⟨z2,e2',hk2,h3,hzl⟩:=KG hM hn (hv.os d bC).1 hk1 #[0]
  have oD:=hv.os d bC
  have qb:((z.set P (.lst (sd.reverse.map (rW M)))).set Q (.lst (tk.reverse.map (rW M)++[rW M d])))[Q]?=some (.lst (tk.reverse.map (rW M)++[rW M d])):=d9 pQ2
  have qa:((z.set P (.lst (sd.reverse.map (rW M)))).set Q (.lst (tk.reverse.map (rW M)++[rW M d])))[P]?=some (.lst (sd.reverse.map (rW M))):=by rw[bH (Ne.symm hv.nP.2.2.2)];exact d9 pP
  have q0:((z.set P (.lst (sd.reverse.map (rW M)))).set Q (.lst (tk.reverse.map (rW M)++[rW M d])))[0]?=some (.ro (ns.map W.int)):=by rw[bH (Ne.symm hv.n0.2.2.2.2),bH (Ne.symm hv.n0.2.2.2.1)];exact hv.r0
  have f:=CU (pool:=pool) (P:=P) (Q:=Q) (i:=i) (o10:=o10) (Dd.ok_a oD.1) (KL e2' hk1.ob (mK hzl)) hk2
  have eB:lB (lR M d.b pool L P Q (iO (i:Nat)) o8 o9 o10) z=.nx (lR M d.a pool L P Q (iO (i:Nat)) (some Pn.back.w) (iO (d.tn.ct M:Nat)) o10) z2:=bN e1 (bN (cN #[17] (bN (cG (a7 (bu (cC kn (k_ (b6 pP))) bW (gj (hl0 _ #[15])))) d7) (bN (d6 (ik kv (dv pQ) (aw (ik kv (dv pP) aZ (vG pP)) aZ) (mi pQ2 (by simp;omega)))) (bN (a_ (bu (bu kv (uc bW) (si qb)) bW ox)) (a_ (bu (bu kv (uc bW) (si qb)) bW ox)))))) f)
  refine⟨d.a,a,b,Q,d.tn.ct M,sd,d::tk,_,_,_,_,z2,.inl eB,?_⟩
  exact⟨hk2,(h3.2 0 (fP q0) hv.n0.1 hv.n0.2.1 hv.n0.2.2.1).trans q0,(h3.2 P (fP qa) hv.nP.1 hv.nP.2.1 hv.nP.2.2.1).trans qa,(h3.2 Q (fP qb) hv.nQ.1 hv.nQ.2.1 hv.nQ.2.2).trans (qb.trans (by rw[bA,bb];rfl)),c2,⟨rfl,hv.ct⟩,oD.2.1,Dd.ok_a oD.1,fun x hx=>hv.os x (aS _ hx),fun x hx=>by
   rcases aT.mp hx with rfl|hx
   ·exact oD
   ·exact hv.ot x hx,by rw[bg];omega,hv.n0,hv.nP,hv.nQ⟩
theorem CV(hM:mz M n)(hn:1<=n){P Q:Nat}{o8 o9 o10:Option W}(hv:Lv M ns L a b P Q t k sd tk i z)(hi:i<100)(hp:mJ [.loc 0,.int (i:Nat),.int 10,b_ t.po,.str pool] z=.ok Pn.again.w z):Go M ns pool L P (i+1) (lB #[22] z):=by
 have e1:ba 8 (cu 5 mJ (ai (ag 0) (ai (ag 7) (ai (eI 10) (ai (ag 2) (ai (ag 3) aD)))))) #[22] z=.nx (lR M t pool L P Q (iO (i:Nat)) (some Pn.again.w) o9 o10) z:=a_ (cy (aw kv (aw kv (aw bW (aw kv kn)))) hp rfl)
 have pP:=hv.pP
 have pQ:=hv.pQ
 have hln:=hv.ln
 cases tk with
 |nil=>exact⟨t,a,b,Q,k,sd,[],_,_,_,_,z,.inr (bN e1 (tK (cG (a7 (bu kx bW (dD rfl))) (cN (a7 (bu kx bW (dD rfl))) (tK (cN (a7 (bu (cC kn (k_ (b6 pQ))) bW (gj rfl))) rfl)))))),hv.up (by omega)⟩
 |cons d tk=>
  rw[bg]at hln
  obtain⟨c1,c2⟩:=hv.ct
  subst c1
  rw[bA,bb]at pQ
  have pP2:(z.set Q (.lst (tk.reverse.map (rW M))))[P]?=some (.lst (sd.reverse.map (rW M))):=by rw[bH (Ne.symm hv.nP.2.2.2)];exact pP
  have hl0:∀x:List W,x.length=tk.length+1->((x.length:Int)==0)=false:=fun x hx=>by rw[bz];omega
  have hk1:nZ M L a b d.a k sd (d::tk) ((z.set Q (.lst (tk.reverse.map (rW M)))).set P #[16]):=hv.ks.fr (by rw[bH hv.nP.1,bH hv.nQ.1]) (by rw[bH hv.nP.2.1,bH hv.nQ.2.1]) (by rw[bH hv.nP.2.2.1,bH hv.nQ.2.2])
  have oD:=hv.ot d bC
  obtain⟨z2,e2',hk2,h3,hzl⟩:=Ip hM hn oD.1 hk1 #[0]
  have qb:((z.set Q (.lst (tk.reverse.map (rW M)))).set P #[16])[P]?=some #[16]:=d9 pP2
  have qa:((z.set Q (.lst (tk.reverse.map (rW M)))).set P #[16])[Q]?=some (.lst (tk.reverse.map (rW M))):=by rw[bH hv.nP.2.2.2];exact d9 pQ
  have q0:((z.set Q (.lst (tk.reverse.map (rW M)))).set P #[16])[0]?=some (.ro (ns.map W.int)):=by rw[bH (Ne.symm hv.n0.2.2.2.1),bH (Ne.symm hv.n0.2.2.2.2)];exact hv.r0
  have f:=CU (pool:=pool) (P:=P) (Q:=Q) (i:=i) (o10:=o10) (Dd.ok_b oD.1) (Iv e2' hk1.ob (mK hzl)) hk2
  have eB:lB (lR M d.a pool L P Q (iO (i:Nat)) o8 o9 o10) z=.nx (lR M d.b pool L P Q (iO (i:Nat)) (some Pn.again.w) (iO (d.ct M:Nat)) o10) z2:=bN e1 (bN (cG #[17] (cN #[17] (bN (cG (a7 (bu (cC kn (k_ (b6 pQ))) bW (gj (hl0 _ #[15])))) d7) (bN (d6 (ik kv (dv pP) (aw (ik kv (dv pQ) aZ (vG pQ)) aZ) (mi pP2 (by simp;omega)))) (bN (a_ (bu (bu kv (uc bW) (si qb)) bW ox)) (a_ (bu (bu kv (uc bW) (si qb)) bW ox))))))) f)
  refine⟨d.b,a,b,Q,d.ct M,d::sd,tk,_,_,_,_,z2,.inl eB,?_⟩
  exact⟨hk2,(h3.2 0 (fP q0) hv.n0.1 hv.n0.2.1 hv.n0.2.2.1).trans q0,(h3.2 P (fP qb) hv.nP.1 hv.nP.2.1 hv.nP.2.2.1).trans (qb.trans (by rw[bA,bb];rfl)),(h3.2 Q (fP qa) hv.nQ.1 hv.nQ.2.1 hv.nQ.2.2).trans qa,⟨rfl,hv.cs⟩,c2,oD.2.2,Dd.ok_b oD.1,fun x hx=>by
   rcases aT.mp hx with rfl|hx
   ·exact oD
   ·exact hv.os x hx,fun x hx=>hv.ot x (aS _ hx),by rw[bg];omega,hv.n0,hv.nP,hv.nQ⟩
theorem E3(hM:mz M n)(hn:1<=n){P Q:Nat}{o8 o9 o10:Option W}(hv:Lv M ns L a b P Q t k sd tk i z)(hi:i<100){p:Pn}(hp:p.ok t.size)(hb:p≠.back)(hA:p≠.again)(ep:mJ [.loc 0,.int (i:Nat),.int 10,b_ t.po,.str pool] z=.ok p.w z):Go M ns pool L P (i+1) (lB #[22] z):=by
 obtain⟨t2,s,ws,g2,hw,n1,n2,hc,hd⟩:=O6 hM hn hp hb hA hv.sz hv.gd
 have e1:ba 8 (cu 5 mJ (ai (ag 0) (ai (ag 7) (ai (eI 10) (ai (ag 2) (ai (ag 3) aD)))))) #[22] z=.nx (lR M t pool L P Q (iO (i:Nat)) (some p.w) o9 o10) z:=a_ (cy (aw kv (aw kv (aw bW (aw kv kn)))) ep rfl)
 have pP:=hv.pP
 have pQ:=hv.pQ
 have hln:=hv.ln
 have ix:∀z:List al,bj p.w (.int 0) z=.ok (.str s) z:=fun z=>by rw[hw];exact oJ (gk (q:=0) rfl)
 have e10:ba 10 (cu 2 oX (ai (ag 2) (ai (ag 8) aD))) (lR M t pool L P Q (iO (i:Nat)) (some p.w) o9 o10) z=.nx (lR M t pool L P Q (iO (i:Nat)) (some p.w) o9 (some (b_ t2.po))) z:=a_ (cy (aw kv kn) (hc z) rfl)
 have hl2:=wm t2 z
 by_cases h:t2.size<=100
 ·obtain⟨d,dk,da,db,hr,hdo⟩:=hd h
  have lP:=fP pP
  have lQ:=fP pQ
  have lL:=fP hv.ks.ob
  have lA:=fP hv.ks.s
  have lB':=fP hv.ks.u
  have l0:=fP hv.r0
  have zl:(z.set P #[16]).length=z.length:=by simp
  have hk1:nZ M L a b t k sd tk ((z.set P #[16])++[.lst []]):=hv.ks.fr (by rw[aK #[0],bH hv.nP.1]) (by rw[aK #[0],bH hv.nP.2.1]) (by rw[aK #[0],bH hv.nP.2.2.1])
  obtain⟨z2,ed,hk2,h3⟩:=hdo hk1 #[0]
  have f:=CU (pool:=pool) (P:=P) (Q:=z.length) (i:=i) (o10:=some (b_ t2.po)) h ed hk2
  have q0:((z.set P #[16])++[.lst []])[0]?=some (.ro (ns.map W.int)):=by rw[aK #[0],bH (Ne.symm hv.n0.2.2.2.1)];exact hv.r0
  have qP:((z.set P #[16])++[.lst []])[P]?=some #[16]:=by rw[aK #[0]];exact d9 pP
  have qQ:((z.set P #[16])++[.lst []])[z.length]?=some (.lst []):=by rw[<- zl];exact dz
  have eB:lB #[22] z=.nx (lR M t2 pool L P z.length (iO (i:Nat)) (some p.w) (iO (d.ct M:Nat)) (some (b_ t2.po))) z2:=by
   refine bN e1 (bN (cG (a7 (bu (bu kv bW (ix _)) bW (dD n1))) (cG (a7 (bu (bu kv bW (ix _)) bW (dD n2))) (bN e10 (bN (cG (a7 (bu (cC kn hl2) bW (nI (aW #[0])))) d7) (bN (d6 (ik kv (dv pP) (aw (cy (aw kv (aw kv (aw kv kn))) (hr z) rfl) aZ) (mi pP (by simp;omega)))) (bN (a_ (nH aZ (ao rfl))) (bN (a_ kv) (a_ (bu (bu kv (uc bW) (si qP)) bW ox))))))))) ?_)
   rw[zl]
   exact f
  have zl2:((z.set P #[16])++[al.lst []]).length=z.length+1:=by simp
  rw[zl2]at hk2
  refine⟨t2,a,z.length+1,z.length,d.ct M,d::sd,[],_,_,_,_,z2,.inl eB,?_⟩
  exact⟨hk2,(h3.2 0 (fP q0) hv.n0.1 hv.n0.2.1 hv.n0.2.2.1).trans q0,(h3.2 P (fP qP) hv.nP.1 hv.nP.2.1 hv.nP.2.2.1).trans (qP.trans (by rw[bA,bb];rfl)),(h3.2 z.length #[0] #[0] #[0] #[0]).trans qQ,⟨db,by rw[da];exact hv.cs⟩,trivial,g2,h,fun x hx=>by
   rcases aT.mp hx with rfl|hx
   ·exact⟨dk,by rw[da];exact hv.gd,by rw[db];exact g2⟩
   ·exact hv.os x hx,fun x hx=>(by cases hx),by rw[bg,kD];omega,⟨hv.n0.1,hv.n0.2.1,by omega,hv.n0.2.2.2.1,by omega⟩,⟨hv.nP.1,hv.nP.2.1,by omega,by omega⟩,⟨by omega,by omega,by omega⟩⟩
 ·have eB:lB #[22] z=.ct (lR M t pool L P Q (iO (i:Nat)) (some p.w) o9 (some (b_ t2.po))) z:=bN e1 (tK (cG (a7 (bu (bu kv bW (ix _)) bW (dD n1))) (cG (a7 (bu (bu kv bW (ix _)) bW (dD n2))) (bN e10 (tK (cN (a7 (bu (cC kn hl2) bW (nI (bw #[0])))) rfl))))))
  exact⟨t,a,b,Q,k,sd,tk,_,_,_,_,z,.inr eB,hv.up #[0]⟩
theorem KM(hM:mz M n)(hn:1<=n)(p_:pool.length=4)(zR:∀d∈pool,d∈LL)(Mf:pool.Nodup){P Q:Nat}{o8 o9 o10:Option W}(hv:Lv M ns L a b P Q t k sd tk i z)(hi:i<100):Go M ns pool L P (i+1) (lB #[22] z):=by
 obtain⟨p,hp,_,e⟩:=CS hv.r0 (i:Nat) (t:=t) p_ zR Mf 10 #[12]
 have e:mJ [.loc 0,.int (i:Nat),.int 10,b_ t.po,.str pool] z=.ok p.w z:=e
 by_cases hb:p=.back
 ·subst hb;exact E2 hM hn hv hi e
 ·by_cases hA:p=.again
  ·subst hA;exact CV hM hn hv hi e
  ·exact E3 hM hn hv hi hp hb hA e
end
theorem law_ok:Ld f_q45:=by
 intro ns Ua
 suffices hh:kI (zO fun w bn=>w=.bl true) (L6 ([W.loc 0].map some++List.replicate (11-1) none) [.ro (ns.map W.int)]) by
  obtain⟨w,bn,e,rfl⟩:=hh
  exact⟨_,jt e⟩
 have h0:([al.ro (ns.map W.int)]:List al)[0]?=some (.ro (ns.map W.int)):=rfl
 have hl0:([al.ro (ns.map W.int)]:List al).length=1:=rfl
 generalize hs0:([al.ro (ns.map W.int)]:List al)=s0 at h0 hl0
 obtain⟨M,n,t,pool,hM,hn,hts,htg,p_,zR,Mf,es⟩:=Iu h0
 apply aA
 ·exact v3 (cy kn es rfl) rfl
 obtain⟨z1,ei,hk,BE⟩:=KH hM hn (t:=t) #[0] s0
 rw[hl0]at hk
 apply aA
 ·exact a_ (OU (aw kv kn) rfl ei)
 rw[hl0]
 have r0:z1[0]?=some (.ro (ns.map W.int)):=pre_get BE h0
 apply bO
 ·exact xL (a7 (cy (aw kv (aw kv (aw (cC kn (wm t z1)) aZ))) (wn #[0] hk) rfl)) rfl
 apply cv
 apply aA
 ·exact a_ (nH aZ (ao rfl))
 apply aA
 ·exact a_ (nH aZ (ao rfl))
 have l1:=fP hk.u
 have pP:(z1++[al.lst []]++[.lst []])[z1.length]?=some (.lst []):=cJ dz
 have pQ:(z1++[al.lst []]++[.lst []])[(z1++[al.lst []]).length]?=some (.lst []):=dz
 have lQ:(z1++[al.lst []]).length=z1.length+1:=by simp
 have r0':(z1++[al.lst []]++[.lst []])[0]?=some (.ro (ns.map W.int)):=cJ (cJ r0)
 rw[lQ]at pQ ⊢
 have hv:Lv M ns 1 2 3 z1.length (z1.length+1) t t.size [] [] 0 (z1++[al.lst []]++[.lst []]):=⟨hk.app.app,r0',pP,pQ,trivial,trivial,htg,by omega,fun _ h=>(by cases h),fun _ h=>(by cases h),az _,⟨by omega,by omega,by omega,by omega,by omega⟩,⟨by omega,by omega,by omega,by omega⟩,⟨by omega,by omega,by omega⟩⟩
 generalize z1.length=P at *
 generalize z1++[al.lst []]++[.lst []]=z at *
 have hrange:∃m:Nat,m<=59/\dP (ai (bE EH (ai (eI 59) (ai (bE Cd (ai (eI 3) (ai (e2 kO (bE dI (ai (ag 0) aD)) (eI 4)) aD))) aD))) aD) (lR M t pool 1 P (P+1) none none none none) z=.ok (gC 0 m,none) z:=by
  have hln:=k_ (rG r0')
  have a1:ai (bE EH (ai (eI 59) (ai (bE Cd (ai (eI 3) (ai (e2 kO (bE dI (ai (ag 0) aD)) (eI 4)) aD))) aD))) aD (lR M t pool 1 P (P+1) none none none none) z=.ok [.int (if (if ((ns.map W.int).length:Int)-4>3 then((ns.map W.int).length:Int)-4 else 3)<59 then(if ((ns.map W.int).length:Int)-4>3 then((ns.map W.int).length:Int)-4 else 3)else 59)] z:=
   aw (cC (aw bW (aw (cC (aw bW (aw (bu (cC kn hln) bW rfl) aZ)) Q6) aZ)) rfl) aZ
  generalize hq:(if (if ((ns.map W.int).length:Int)-4>3 then((ns.map W.int).length:Int)-4 else 3)<59 then(if ((ns.map W.int).length:Int)-4>3 then((ns.map W.int).length:Int)-4 else 3)else 59)=q at a1
  have hq1:0<=q/\q<=59:=by rw[<- hq];split<;>split<;>omega
  exact⟨q.toNat,by omega,jw a1 #[0]⟩
 obtain⟨m,hm,er⟩:=hrange
 obtain⟨ρ2,c5,e2',t',a,b,Q,k,sd,tk,o7,o8,o9,o10,rfl,hv2⟩:=yg (f:=jD 7) (body:=lB) (fun i ρ st=>∃t a b Q k sd tk o7 o8 o9 o10,ρ=lR M t pool 1 P Q o7 o8 o9 o10/\Lv M ns 1 a b P Q t k sd tk i st) (ws:=gC 0 m) (ρ:=lR M t pool 1 P (P+1) none none none none) (st:=z) 0 ⟨t,2,3,P+1,t.size,[],[],none,none,none,none,rfl,hv⟩ fun i w ρ st hw hI=>by
  obtain⟨t',a,b,Q,k,sd,tk,o7,o8,o9,o10,rfl,SU⟩:=hI
  obtain⟨hi,rfl⟩:=jK hw
  rw[iz]at SU ⊢
  obtain⟨t2,a2,b2,Q2,k2,sd2,tb2,p7,p8,p9,p10,z2,er2,hv2⟩:=KM (o8:=o8) (o9:=o9) (o10:=o10) hM hn p_ zR Mf SU #[0]
  refine⟨lR M t' pool 1 P Q (iO (i:Nat)) o8 o9 o10,lR M t2 pool 1 P Q2 p7 p8 p9 p10,z2,by rw[kT];rfl,er2,t2,a2,b2,Q2,k2,sd2,tb2,p7,p8,p9,p10,rfl,hv2⟩
 apply aA
 ·exact(yR er).trans e2'
 apply bQ
 ·exact bW
 ·exact⟨_,_,rfl,rfl⟩
theorem all_mk{l:PySem.W.OpenLaw}{w:World}{fa:Addr}(X:K.In h)(G:h.Ns mainGlobals mg)(U4:mg "law"=some (.ref fa))
  {C5:Addr} {O9 IL:Option Addr} {O7:Array (Option Value)} {Pj Jc Jb IR C7 I0:Value} {fF:Addr} {tL:Addr} {qS:Addr} {ml:Addr} {w6:Tok}
  (CZ:DefIn K "in_order" NP)
  (BD:DefIn K "letter_of" NQ)
  (C4:DefIn K "has_left" NR)
  (Bx:DefIn K "has_right" NS)
  (CW:DefIn K "links_of" NT)
  (IC:DefIn K "ups_of" NU)
  (Fa:DefIn K "up_from" NV)
  (C0:DefIn K "sizes_of" NW)
  (xf:DefIn K "check_place" NX)
  (zD:DefIn K "check_size" GR)
  (E8:DefIn K "part_at" GS)
  (xa:DefIn K "branches_at" GT)
  (C2:DefIn K "with_top" GU)
  (zI:DefIn K "branch_put" GV)
  (zJ:DefIn K "room_below" GW)
  (E4:DefIn K "room_at" GX)
  (C9:DefIn K "rooms_of" GZ)
  (IN:DefIn K "turned" G0)
  (zM:DefIn K "with_marks" G3)
  (wt:DefIn K "branch_rooms" G4)
  (E5:DefIn K "climbed" G5)
  (BH:DefIn K "_law_cell" G6)
  (zC:DefIn K "_law_mixed" G7)
  (zG:DefIn K "_law_draws" G9)
  (Bv:DefIn K "_law_same" G_)
  (BF:DefIn K "_law_pool" Hb)
  (zz:DefIn K "_law_marks" Hc)
  (By:DefIn K "_law_tree" Hd)
  (zy:DefIn K "_law_links" He)
  (wq:DefIn K "_law_machine" Hf)
  (xg:DefIn K "_law_letter" Hg)
  (C3:DefIn K "_law_run" Hh)
  (zL:DefIn K "_law_sizes" Hi)
  (w9:DefIn K "_law_bounds" Hj)
  (uK:DefIn K "_law_branched" Hk)
  (zF:DefIn K "_law_start" Hl)
  (wD:DefIn K "_law_planned" Hm)
  (ww:DefIn K "_law_changed" Ho)
  (zH:DefIn K "_law_doing" Hq)
  (Bw:DefIn K "_law_over" Hr)
  (wB:DefIn K "_law_climbed" Hs)
  (uJ:DefIn K "_law_deed_row" Ht)
  (wz:DefIn K "_law_counted" Hu)
  (Mb:nsIn K mainGlobals "law"=some (some (.ref C5)))
  (R5:K.lookup C5=some ⟨Pj,O9,.func (fnOf "law" "law" (ig rP) (gB rP) (aQ rP) .none Jc Jb IR IL C7 I0),O7⟩)
  (E9:codeIn K C7 "law"=true)
  (Sj:keepIn K (.ref C5)=true)
  (jP:nsIn K mainGlobals "Kept"=some (some (.ref fF)))
  (cl_Kept:L2.Cls K fF)
  (uM:findIn K (.ref fF) "machine"=some none)
  (zA:findIn K (.ref fF) "many"=some none)
  (xc:findIn K (.ref fF) "rooms"=some none)
  (tM:findIn K (.ref fF) "standing"=some none)
  (qT:findIn K (.ref fF) "taken_back"=some none)
  (zE:findIn K (.ref fF) "tree"=some none)
  (KS:makesIn K fF=true)
  (KN:keepIn K (.ref fF)=true)
  (dm_Kept___init__:DefM K fF "Kept.__init__" "__init__" km)
  (dm_Kept_carry_out:DefM K fF "Kept.carry_out" "carry_out" jL)
  (dm_Kept_do_deed:DefM K fF "Kept.do_deed" "do_deed" lc)
  (dm_Kept_mark_deed:DefM K fF "Kept.mark_deed" "mark_deed" jM)
  (dm_Kept_put:DefM K fF "Kept.put" "put" qH)
  (dm_Kept_take:DefM K fF "Kept.take" "take" oO)
  (dm_Kept_branch:DefM K fF "Kept.branch" "branch" me)
  (dm_Kept_whole:DefM K fF "Kept.whole" "whole" mX)
  (dm_Kept_back:DefM K fF "Kept.back" "back" oQ)
  (dm_Kept_again:DefM K fF "Kept.again" "again" mY)
  (dm_Kept_tree_now:DefM K fF "Kept.tree_now" "tree_now" ko)
  (dm_Kept_reckoned:DefM K fF "Kept.reckoned" "reckoned" kr)
  (E_:nsIn K mainGlobals "NoPlace"=some (some (.ref tL)))
  (C1:nsIn K mainGlobals "TooGreat"=some (some (.ref qS)))
  (w_:nsIn K mainGlobals "NothingDone"=some (some (.ref ml)))
  (x_NoPlace:excIn K tL Kd DC=true)
  (x_TooGreat:excIn K qS Kd DC=true)
  (x_NothingDone:excIn K ml Kd DC=true)
  (Pq:nsIn K mainGlobals "bool"=some none)
  (Bs:nsIn K mainGlobals "enumerate"=some none)
  (Sc:nsIn K mainGlobals "int"=some none)
  (zB:nsIn K mainGlobals "isinstance"=some none)
  (Se:nsIn K mainGlobals "len"=some none)
  (Pd:nsIn K mainGlobals "list"=some none)
  (Sb:nsIn K mainGlobals "max"=some none)
  (R4:nsIn K mainGlobals "min"=some none)
  (KQ:nsIn K mainGlobals "range"=some none)
  (R6:nsIn K mainGlobals "set"=some none)
  (IS:nsIn K mainGlobals "sorted"=some none)
  (Si:nsIn K mainGlobals "str"=some none)
  (KU:nsIn K mainGlobals "tuple"=some none)
  (R3:nsIn K mainGlobals "zip"=some none)
  (xb:nsIn K mainGlobals "MOST_PLACES"=some (some (.int 100 w6))) :
  ∃fd:FuncData,fd.scope.names.lookup ("_law_script":Str)=some .local/\(∀(s:Shared) (v:Value),BindsTo s fd ⟨[v],[]⟩ [("_law_script",v)])/\∀base:Heap,K.In base->base.Ns mainGlobals mg->c6 l.prog w K mg base (hZ l.prog w) 42 fa fd Hv (iD K mg 1 f_q45):=by
 have e:=U4.symm.trans (mg_of X G Mb)
 cases e
 obtain⟨_,_,F_q1,m_q1⟩:=CZ.fn X G
 obtain⟨_,_,F_q2,m_q2⟩:=BD.fn X G
 obtain⟨_,_,F_q3,m_q3⟩:=C4.fn X G
 obtain⟨_,_,F_q4,m_q4⟩:=Bx.fn X G
 obtain⟨_,_,F_q5,m_q5⟩:=CW.fn X G
 obtain⟨_,_,F_q6,m_q6⟩:=IC.fn X G
 obtain⟨_,_,F_q7,m_q7⟩:=Fa.fn X G
 obtain⟨_,_,F_q8,m_q8⟩:=C0.fn X G
 obtain⟨_,_,F_q9,m_q9⟩:=xf.fn X G
 obtain⟨_,_,F_q10,m_q10⟩:=zD.fn X G
 obtain⟨_,_,F_q11,m_q11⟩:=E8.fn X G
 obtain⟨_,_,F_q12,m_q12⟩:=xa.fn X G
 obtain⟨_,_,F_q13,m_q13⟩:=C2.fn X G
 obtain⟨_,_,F_q14,m_q14⟩:=zI.fn X G
 obtain⟨_,_,F_q15,m_q15⟩:=zJ.fn X G
 obtain⟨_,_,F_q16,m_q16⟩:=E4.fn X G
 obtain⟨_,_,F_q17,m_q17⟩:=C9.fn X G
 obtain⟨_,_,F_q18,m_q18⟩:=IN.fn X G
 obtain⟨_,_,F_q19,m_q19⟩:=zM.fn X G
 obtain⟨_,_,F_q20,m_q20⟩:=wt.fn X G
 obtain⟨_,_,F_q21,m_q21⟩:=E5.fn X G
 obtain⟨_,_,F_q22,m_q22⟩:=BH.fn X G
 obtain⟨_,_,F_q23,m_q23⟩:=zC.fn X G
 obtain⟨_,_,F_q24,m_q24⟩:=zG.fn X G
 obtain⟨_,_,ym,Bt⟩:=Bv.fn X G
 obtain⟨_,_,F_q26,m_q26⟩:=BF.fn X G
 obtain⟨_,_,F_q27,m_q27⟩:=zz.fn X G
 obtain⟨_,_,F_q28,m_q28⟩:=By.fn X G
 obtain⟨_,_,F_q29,m_q29⟩:=zy.fn X G
 obtain⟨_,_,F_q30,m_q30⟩:=wq.fn X G
 obtain⟨_,_,F_q31,m_q31⟩:=xg.fn X G
 obtain⟨_,_,F_q32,m_q32⟩:=C3.fn X G
 obtain⟨_,_,F_q34,m_q34⟩:=zL.fn X G
 obtain⟨_,_,F_q35,m_q35⟩:=w9.fn X G
 obtain⟨_,_,F_q36,m_q36⟩:=uK.fn X G
 obtain⟨_,_,F_q37,m_q37⟩:=zF.fn X G
 obtain⟨_,_,F_q38,m_q38⟩:=wD.fn X G
 obtain⟨_,_,F_q39,m_q39⟩:=ww.fn X G
 obtain⟨_,_,F_q40,m_q40⟩:=zH.fn X G
 obtain⟨_,_,F_q41,m_q41⟩:=Bw.fn X G
 obtain⟨_,_,F_q42,m_q42⟩:=wB.fn X G
 obtain⟨_,_,F_q43,m_q43⟩:=uJ.fn X G
 obtain⟨_,_,F_q44,m_q44⟩:=wz.fn X G
 have F_q45:=yy (st:=rP) R5 E9 Sj
 have m_q45:=mg_of X G Mb
 have B:Bl mg:=⟨mg_none_of X G Pq,mg_none_of X G Bs,mg_none_of X G Sc,mg_none_of X G zB,mg_none_of X G Se,mg_none_of X G Pd,mg_none_of X G Sb,mg_none_of X G R4,mg_none_of X G KQ,mg_none_of X G R6,mg_none_of X G IS,mg_none_of X G Si,mg_none_of X G KU,mg_none_of X G R3⟩
 have C:Cls K mg:=⟨⟨tL,mg_of X G E_,x_NoPlace⟩,⟨qS,mg_of X G C1,x_TooGreat⟩,⟨ml,mg_of X G w_,x_NothingDone⟩⟩
 have O:Ow K mg:=⟨⟨fF,mg_of X G jP,cl_Kept,fun f hf=>by simp only[aT,gq,pE]at hf;rcases hf with rfl|rfl|rfl|rfl|rfl|rfl;(· exact uM);(· exact zA);(· exact xc);(· exact tM);(· exact qT);(· exact zE)⟩⟩
 have Gg:Gc K mg:=⟨⟨_,.int 100,mg_of X G xb,⟨_,rfl⟩,fun μ H=>.int⟩⟩
 refine⟨fnOf "law" "law" (ig rP) (gB rP) (aQ rP) .none Jc Jb IR IL C7 I0,rfl,fun s v=>.of_eq rfl,fun base _ _=>?_⟩
 have O_:bY l.prog w K mg base 1 "in_order" 1 Hw:=cP F_q1 m_q1 (Ro F_q1 B)
 have Po:bY l.prog w K mg base 1 "letter_of" 2 Hy:=cP F_q2 m_q2 (Rq F_q2)
 have Pe:bY l.prog w K mg base 1 "has_left" 1 zh:=cP F_q3 m_q3 (Rs F_q3)
 have E6:bY l.prog w K mg base 1 "has_right" 1 vU:=cP F_q4 m_q4 (Rt F_q4)
 have uI:bY l.prog w K mg base 2 "links_of" 1 vV:=cP F_q5 m_q5 (Rv F_q5 B  Pe E6)
 have Pa:bY l.prog w K mg base 3 "ups_of" 1 Hz:=cP F_q6 m_q6 (Rw F_q6 B  uI)
 have Pg:bY l.prog w K mg base 1 "up_from" 2 ET:=cP F_q7 m_q7 (Rx F_q7)
 have Fc:bY l.prog w K mg base 3 "sizes_of" 1 Cz:=cP F_q8 m_q8 (Rz F_q8 B  uI)
 have zN:bY l.prog w K mg base 1 "check_place" 2 zi:=cP F_q9 m_q9 (RB F_q9 B C)
 have IT:bY l.prog w K mg base 1 "check_size" 1 xO:=cP F_q10 m_q10 (N8 F_q10 Gg C)
 have IA:bY l.prog w K mg base 4 "part_at" 2 AV:=cP F_q11 m_q11 (N9 F_q11   zN Fc)
 have wu:bY l.prog w K mg base 5 "branches_at" 2 qm:=cP F_q12 m_q12 (N_ F_q12 B  E6 IA Fc)
 have IU:bY l.prog w K mg base 1 "with_top" 3 AW:=cP F_q13 m_q13 (N' F_q13 B)
 have IY:bY l.prog w K mg base 6 "branch_put" 4 AX:=cP F_q14 m_q14 (Oa F_q14 B  wu IT IU)
 have D6:bY l.prog w K mg base 1 "room_below" 2 xP:=cP F_q15 m_q15 (Ob F_q15)
 have yi:bY l.prog w K mg base 2 "room_at" 4 rQ:=cP F_q16 m_q16 (Oc F_q16   Po D6)
 have qo:bY l.prog w K mg base 3 "rooms_of" 2 nN:=cP F_q17 m_q17 (Oe F_q17 B  uI yi)
 have IP:bY l.prog w K mg base 1 "turned" 1 AY:=cP F_q18 m_q18 (Of F_q18)
 have IH:bY l.prog w K mg base 1 "with_marks" 3 AZ:=cP F_q19 m_q19 (Og F_q19)
 have IV:bY l.prog w K mg base 6 "branch_rooms" 3 xQ:=cP F_q20 m_q20 (Oh F_q20 B  wu qo)
 have Iz:bY l.prog w K mg base 4 "climbed" 4 A1:=cP F_q21 m_q21 (Oi F_q21 B  uI yi Pg Pa)
 have kz:Kp l.prog w K mg base 4 "Kept" 3 gM:=NI dm_Kept___init__ (mg_of X G jP) KS KN (fun F=>tw F B O qo)
 have dA:iF l.prog w K mg base 7 "Kept" "carry_out" 2 dy:=k9 dm_Kept_carry_out (mg_of X G jP) cl_Kept (fun F=>rR F B O IV Iz qo)
 have ef:iF l.prog w K mg base 8 "Kept" "do_deed" 2 d8:=k9 dm_Kept_do_deed (mg_of X G jP) cl_Kept (fun F=>uE F O dA)
 have fz:iF l.prog w K mg base 9 "Kept" "mark_deed" 3 eN:=k9 dm_Kept_mark_deed (mg_of X G jP) cl_Kept (fun F=>rS F O ef IH)
 have qM:iF l.prog w K mg base 10 "Kept" "put" 3 jO:=k9 dm_Kept_put (mg_of X G jP) cl_Kept (fun F=>A2 F O fz zN O_)
 have ph:iF l.prog w K mg base 10 "Kept" "take" 3 jd:=k9 dm_Kept_take (mg_of X G jP) cl_Kept (fun F=>zj F O fz zN)
 have mj:iF l.prog w K mg base 9 "Kept" "branch" 4 gU:=k9 dm_Kept_branch (mg_of X G jP) cl_Kept (fun F=>vW F B O ef IY)
 have ni:iF l.prog w K mg base 9 "Kept" "whole" 2 il:=k9 dm_Kept_whole (mg_of X G jP) cl_Kept (fun F=>wY F O ef)
 have pw:iF l.prog w K mg base 8 "Kept" "back" 1 je:=k9 dm_Kept_back (mg_of X G jP) cl_Kept (fun F=>zm F B C O dA IP)
 have nj:iF l.prog w K mg base 8 "Kept" "again" 1 im:=k9 dm_Kept_again (mg_of X G jP) cl_Kept (fun F=>wZ F B C O dA)
 have ky:iF l.prog w K mg base 1 "Kept" "tree_now" 1 gN:=k9 dm_Kept_tree_now (mg_of X G jP) cl_Kept (fun F=>tD F O)
 have iT:iF l.prog w K mg base 1 "Kept" "reckoned" 1 fR:=k9 dm_Kept_reckoned (mg_of X G jP) cl_Kept (fun F=>tF F O)
 have sk:bY l.prog w K mg base 1 "_law_cell" 2 nR:=cP F_q22 m_q22 (Oj F_q22 B)
 have IX:bY l.prog w K mg base 1 "_law_mixed" 3 xR:=cP F_q23 m_q23 (Ol F_q23)
 have pd:bY l.prog w K mg base 2 "_law_draws" 3 ld:=cP F_q24 m_q24 (Om F_q24 B  IX)
 have wE:=DN (P:=l.prog) (w:=w) (base:=base) ym Bt B  40
 have IG:bY l.prog w K mg base 3 "_law_pool" 3 xS:=cP F_q26 m_q26 (On F_q26 B  pd)
 have ID:bY l.prog w K mg base 1 "_law_marks" 2 A4:=cP F_q27 m_q27 (Oo F_q27 B)
 have yk:bY l.prog w K mg base 2 "_law_tree" 2 vX:=cP F_q28 m_q28 (Op F_q28 B  ID)
 have yh:bY l.prog w K mg base 1 "_law_links" 1 vY:=cP F_q29 m_q29 (Oq F_q29 B)
 have IO:bY l.prog w K mg base 1 "_law_machine" 4 A5:=cP F_q30 m_q30 (Os F_q30 B)
 have Ja:bY l.prog w K mg base 1 "_law_letter" 2 xU:=cP F_q31 m_q31 (Ot F_q31 B)
 have D1:bY l.prog w K mg base 2 "_law_run" 2 xV:=cP F_q32 m_q32 (Ou F_q32   Ja)
 have IF:bY l.prog w K mg base 1 "_law_sizes" 1 A6:=cP F_q34 m_q34 (Ov F_q34)
 have yl:bY l.prog w K mg base 2 "_law_bounds" 2 vZ:=cP F_q35 m_q35 (Ox F_q35   yh IF)
 have IQ:bY l.prog w K mg base 3 "_law_branched" 4 A7:=cP F_q36 m_q36 (Oy F_q36 B  yl)
 have IM:bY l.prog w K mg base 4 "_law_start" 1 A8:=cP F_q37 m_q37 (Oz F_q37 B  sk pd IO IG yk)
 have IW:bY l.prog w K mg base 3 "_law_planned" 5 mJ:=cP F_q38 m_q38 (OA F_q38 B  sk pd yk)
 have II:bY l.prog w K mg base 4 "_law_changed" 2 oX:=cP F_q39 m_q39 (OB F_q39 B  IQ)
 have IZ:bY l.prog w K mg base 11 "_law_doing" 2 lV:=cP F_q40 m_q40 (OC F_q40   nj pw mj qM ph ni)
 have D4:bY l.prog w K mg base 2 "_law_over" 1 xW:=cP F_q41 m_q41 (OD F_q41 B  yh)
 have D3:bY l.prog w K mg base 3 "_law_climbed" 5 xX:=cP F_q42 m_q42 (OE F_q42   D4 D1)
 have IE:bY l.prog w K mg base 4 "_law_deed_row" 4 rX:=cP F_q43 m_q43 (OF F_q43 B  yl D3)
 have D2:bY l.prog w K mg base 41 "_law_counted" 3 uh:=cP F_q44 m_q44 (OG F_q44   iT ky wE)
 exact OH F_q45 B  kz II D2 IE IZ IW IM
end P
end
namespace PySem.W.Fast
def tw4078468537048082814:=tv0
def tw1901068240792821084:=tv0
def tw5391015624598043546:=tv0
def tw16839277028620482682:=tv0
def tw6211104189474974200:=tv0
def tw12432205218101494229:=tv0
def tw10494967259202531636:=tv0
def tw17338267527616844980:=tv0
def tw1040333313634119730:=tv0
def tw7609790228957865201:=tv0
def tw15926651081491748911:=tv0
def tw15639051341875096174:=tv0
def tw9639928704824512493:=tv0
def tw5731804296423590509:=tv0
def tw9604939595207951692:=tv0
def tw17943757714292265643:=tv0
def tw12305845302603118154:=tv0
def tw4727219350867450089:=tv0
def tw18263115367578630185:=tv0
def tw15260722848390085641:=tv0
def tw5920018751348685765:=tv0
def tw9867488170349497284:=tv0
def tw6250356622762548513:=tv0
def tw17015349267447867200:=tv0
def tw5848806396361196352:=tv0
def tw7831600468647444992:=tv0
def tw18307693366382570111:=tv0
def tw1959026522764507962:=tv0
def tw3289643598109698973:=tv0
def tw15968713142517522971:=tv0
def tw2380559652087650802:=tv0
def tw17360124995786211793:=tv0
def tw2803946250286973781:=tv0
def tw8023317165931978799:=tv0
def tw9857849338552873073:=tv0
def tw15769523419918375553:=tv0
def tw5260222631734921610:=tv0
def tw12806184769540271140:=tv0
def tw8742425616571471472:=tv0
def tw12656337664580163525:=tv0
def tw18255571197242928114:=tv0
def tw17327907690414314998:=tv0
def tw9015388335671487603:=tv0
def tw2849562458945027336:=tv0
def tw9705375315144538234:=tv0
def tw4558874422148739592:=tv0
def tw5761780389471304183:=tv0
def tw849670947572851913:=tv0
def tw11570089433434361686:=tv0
def tw12632201622076758806:=tv0
def tw9710717200645175669:=tv0
def tw12061609246883595280:=tv0
def tw11189702449159793223:=tv0
def tw966839869838363105:=tv0
def tw10811793429985915866:=tv0
def tw3649632077675593769:=tv0
def tw11085222686462871552:=tv0
def tw15649283438462688736:=tv0
def tw7302872347704366801:=tv0
def tw15005982699357058819:=tv0
def tw5740864156187689171:=tv0
def tw16816589474750076199:=tv0
def tw7915431072500262843:=tv0
def tw18086642288641890357:=tv0
def tw329804882237093939:=tv0
def tw15896263613665037706:=tv0
def tw15909450597503877471:=tv0
def tw17307889207439855142:=tv0
def tw2549582140799924672:=tv0
def tw7418056955039443340:=tv0
def tw12871008423718723793:=tv0
def tw15461522004613190589:=tv0
def tw9904975084587388925:=tv0
def tw16680766640796125343:=tv0
def tw11413323695353859744:=tv0
def tw6740215386052897757:=tv0
def tw3893141335941313166:=tv0
def tw8849678352458000446:=tv0
def tw8226673867758680136:=tv0
def tw12150931818803816010:=tv0
def tw15288451388542479820:=tv0
def tw18243032897617681476:=tv0
def tw10032120948815152846:=tv0
def tw8134857220837966227:=tv0
def tw10188141998804256391:=tv0
def tw11627412901605579206:=tv0
def tw10700567758215434711:=tv0
def tw3690867552163330077:=tv0
def tw5239392543985833891:=tv0
def tw4801042021088967779:=tv0
def tw7322025698140268512:=tv0
def tw13003184046553814990:=tv0
def tw15548438590688410808:=tv0
def tw7359945998124627264:=tv0
def tw163272724191740115:=tv0
def tw16987379159877244132:=tv0
def tw10195051288796951742:=tv0
def tw14321997667735737444:=tv0
def tw884986826685395866:=tv0
def tw12534187053769941948:=tv0
def tw2245507467629570484:=tv0
def tw18074112403175045842:=tv0
def tw1779839232237800606:=tv0
def tw14760351455715927340:=tv0
def tw111668079224515609:=tv0
def tw17455452676576767789:=tv0
def tw896646177150279287:=tv0
def tw8864636110158145825:=tv0
def tw14329898240151119880:=tv0
def tw16708203048718415247:=tv0
def tw17858713201313867359:=tv0
def tw10127288694247036760:=tv0
def tw12452872337012914517:=tv0
def tw1155586950019566397:=tv0
def tw6625252388609438932:=tv0
def tw13443626521252119586:=tv0
def tw455264554686765498:=tv0
def tw12577102942059286582:=tv0
def tw16200842190560375206:=tv0
def tw8994939269508352203:=tv0
def tw2570583155855379606:=tv0
def tw3530192470231031563:=tv0
def tw1311789308263037397:=tv0
def tw645200172132361098:=tv0
def tw5859793176326309325:=tv0
def tw2473313087059580591:=tv0
def tw8684427288416348088:=tv0
def tw14509601507828484700:=tv0
def tw18402641269956076125:=tv0
def tw15731660868523838052:=tv0
def tw11968951317624492248:=tv0
def tw3971476666901338279:=tv0
def tw14671405235418898097:=tv0
def tw8362371015365061085:=tv0
def tw5926670664855877792:=tv0
def tw1625038657640980533:=tv0
def tw3621382915443956228:=tv0
def tw11907426544815746543:=tv0
def tw6861294909371928427:=tv0
def tw8694912224977500158:=tv0
def tw13094141323352313342:=tv0
def tw3655515298262028675:=tv0
def tw5603838574656538198:=tv0
def tw2881037117445311179:=tv0
def tw12056421062705214995:=tv0
def tw10363269172232851001:=tv0
def tw2852137478890881559:=tv0
def tw1546807778669731116:=tv0
def tw17209724979705377836:=tv0
def tw10447731350715441069:=tv0
def tw18220470287888767128:=tv0
def tw12196858353058876415:=tv0
def tw15472125237847951677:=tv0
def tw8092053121498504758:=tv0
def tw1467674005621595680:=tv0
def tw13133233011500634276:=tv0
def tw11905670742466040289:=tv0
def tw1058856672655843797:=tv0
def tw9709217820856093457:=tv0
def tw4787597780187407641:=tv0
def tw6359158890604591462:=tv0
def tw4598101496577422204:=tv0
def tw1900543208854961567:=tv0
def tw322430420162994558:=tv0
def tw2568327913502124952:=tv0
def tw4726469906115485745:=tv0
def tw2600883622442763778:=tv0
def tw18086699067411042615:=tv0
def tw3211622159476690359:=tv0
def tw17156678864900703657:=tv0
def tw7834808931175397220:=tv0
def tw17860316039066333223:=tv0
def tw3506269844260865532:=tv0
def tw15479980810320672968:=tv0
def tw4623459967877125136:=tv0
def tw9615390628890743795:=tv0
def tw6681054631550951020:=tv0
def tw18393652758824786469:=tv0
def tw997088675777817444:=tv0
def tw6526977914696819557:=tv0
def tw11818410531478250515:=tv0
def tw3405150856185179516:=tv0
def tw8616993767377362809:=tv0
def tw13845158409600876542:=tv0
def tw11010820802007873872:=tv0
def tw17467666922235366703:=tv0
def tw4425968261526786357:=tv0
def tw12299410579192443528:=tv0
def tw13234947809694657764:=tv0
def tw4138373410460369358:=tv0
def tw17338223284518424563:=tv0
def tw14315557541500788539:=tv0
def tw11673206450138969997:=tv0
def tw3714516471660592757:=tv0
def tw4962266723612668557:=tv0
def tw14097950640694776581:=tv0
def tw3904147665582782027:=tv0
def tw13288930749598011284:=tv0
def tw14579381172594230933:=tv0
def tw5067553025279489964:=tv0
def tw3037970079919904173:=tv0
def tw2321485714100718068:=tv0
def tw13364841019496050386:=tv0
def tw8241343131384671470:=tv0
def tw331470020767918717:=tv0
def tw221844058736986740:=tv0
def tw14574186276205622027:=tv0
def tw16708335653242308747:=tv0
def tw13782570943706002103:=tv0
def tw10727860186468817590:=tv0
def tw2305787796048265621:=tv0
def tw2711839782653634732:=tv0
def tw9475009615224595469:=tv0
def tw9566332009371938671:=tv0
def tw6072395173414849989:=tv0
def tw15374158227018927546:=tv0
def tw9818106852390359480:=tv0
def tw9175279743707771940:=tv0
def tw9148884868226988660:=tv0
def tw14622033494795157867:=tv0
def tw13704325192557301342:=tv0
def tw11245342749350512248:=tv0
def tw12760196893695387056:=tv0
def tw5160970363459551655:=tv0
def tw4838251127552044228:=tv0
def tw4000205471340812242:=tv0
def tw11830426185187696660:=tv0
def tw9849386955658874482:=tv0
def tw15482423729951331482:=tv0
def tw17908326613115747388:=tv0
def tw12635543951985944713:=tv0
def tw7142857055310185325:=tv0
def tw12755388736035003287:=tv0
def tw5395242117469980115:=tv0
def tw11855245665523157719:=tv0
def tw1040861397934577385:=tv0
def tw434649325143270129:=tv0
def tw17482750133892663299:=tv0
def tw4917543126216849778:=tv0
def tw15006367666843285225:=tv0
def tw5112183549314260155:=tv0
def tw312432167813901391:=tv0
def tw10190611817725259005:=tv0
def tw5754156287767923765:=tv0
def tw3419852417215879957:=tv0
def tw1800478465382087069:=tv0
def tw14866221928556424914:=tv0
def tw5586344052267069100:=tv0
def tw112195808429182760:=tv0
def tw9257572225872653387:=tv0
def tw2706619759359997691:=tv0
def tw13649133245666882590:=tv0
def tw12105695046412729731:=tv0
def tw5798989774267904059:=tv0
def tw443778822797727112:=tv0
def tw2886658751278086099:=tv0
def tw16474993665214668713:=tv0
def tw16061639052176622575:=tv0
def tw3681419313600022417:=tv0
def tw1653888433798460569:=tv0
def tw4947176332232968142:=tv0
def tw4945151141297345441:=tv0
def tw1604980123210667914:=tv0
def tw13853712181181356405:=tv0
def tw12311541205250153710:=tv0
def tw9024060914921312221:=tv0
def tw4541447269926942584:=tv0
def tw3657788407819744514:=tv0
def tw230410679999225202:=tv0
def tw14245643533968026544:=tv0
def tw16639959786408156904:=tv0
def tw8136925911161460784:=tv0
def tw14356835702146489242:=tv0
def tw12511223194235363775:=tv0
def tw13978750737404384143:=tv0
def tw258320521674308468:=tv0
def tw17084364290872622201:=tv0
def tw14399749744383335810:=tv0
def tw9729922238675813068:=tv0
def tw10026177868444907803:=tv0
def tw16074280262011098290:=tv0
def tw12859381898894867578:=tv0
def tw15769816556141365513:=tv0
def tw12708734343132782277:=tv0
def tw640165242928788279:=tv0
def tw12785981044830064973:=tv0
def tw17979791559441025257:=tv0
def tw1752072482758697550:=tv0
def tw633695136248003870:=tv0
def tw11980956990033667210:=tv0
def tw4585881588919113884:=tv0
def tw15125933814564162686:=tv0
def tw11943357987478104311:=tv0
def tw10993845081552347501:=tv0
def tw9320641031622152954:=tv0
def tw6953110131966625559:=tv0
def tw17960079561381227726:=tv0
def tw3844758445111388413:=tv0
def tw1454758830743974679:=tv0
def tw12747495696427704152:=tv0
def tw7537699150865997475:=tv0
def tw10072636140739137307:=tv0
def tw8747001447041461347:=tv0
def tw3810829398611415594:=tv0
end PySem.W.Fast
open PySem PySem.W PyProof.Rows
set_option maxRecDepth 100000 in
set_option maxHeartbeats 0 in
theorem PySem.Challenge.cw_trunksay_k67_reckoned_holds : PySem.Challenge.rw_trunksay_k67_reckoned.Holds := by
 w_on; o_law; k_head; (case hw => w_witness2)
 k_fill
 refine L2.walkW (l := PySem.Challenge.rw_trunksay_k67_reckoned) (k := 42) (x := "_law_script") (G := P.f_q45) rfl rfl ⟨rfl, by decide, by decide⟩ (fun w h Y => PySem.W.kIn_of Y) ?F P.law_ok
 case F =>
  intro w mg fa h KX G hmg
  refine' P.all_mk KX G hmg ?_ ?_ ?_ ?_ ?_ ?_ ?_ ?_ ?_ ?_ ?_ ?_ ?_ ?_ ?_ ?_ ?_ ?_ ?_ ?_ ?_ ?_ ?_ ?_ ?_ ?_ ?_ ?_ ?_ ?_ ?_ ?_ ?_ ?_ ?_ ?_ ?_ ?_ ?_ ?_ ?_ ?_ ?_ ?_ ?_ ?_ ?_ ?_ ?cl_Kept ?_ ?_ ?_ ?_ ?_ ?_ ?_ ?_ ?dm_Kept___init__ ?dm_Kept_carry_out ?dm_Kept_do_deed ?dm_Kept_mark_deed ?dm_Kept_put ?dm_Kept_take ?dm_Kept_branch ?dm_Kept_whole ?dm_Kept_back ?dm_Kept_again ?dm_Kept_tree_now ?dm_Kept_reckoned ?_ ?_ ?_ ?x_NoPlace ?x_TooGreat ?x_NothingDone ?_ ?_ ?_ ?_ ?_ ?_ ?_ ?_ ?_ ?_ ?_ ?_ ?_ ?_ ?_
  any_goals (refine' L2.DefIn.mk ?a ?l ?c ?k; (case a => k_is); (case l => k_is); (case c => k_is); (case k => k_is))
  any_goals k_is
  (case cl_Kept => exact ⟨by kernel_rfl, by kernel_rfl, by kernel_rfl, by first | k_is | kernel_rfl⟩)
  (case dm_Kept___init__ => (refine' L2.DefM.mk ?a ?i ?l ?c ?k; (case a => k_is); (case i => first | k_is | kernel_rfl); (case l => k_is); (case c => k_is); (case k => k_is)))
  (case dm_Kept_carry_out => (refine' L2.DefM.mk ?a ?i ?l ?c ?k; (case a => k_is); (case i => first | k_is | kernel_rfl); (case l => k_is); (case c => k_is); (case k => k_is)))
  (case dm_Kept_do_deed => (refine' L2.DefM.mk ?a ?i ?l ?c ?k; (case a => k_is); (case i => first | k_is | kernel_rfl); (case l => k_is); (case c => k_is); (case k => k_is)))
  (case dm_Kept_mark_deed => (refine' L2.DefM.mk ?a ?i ?l ?c ?k; (case a => k_is); (case i => first | k_is | kernel_rfl); (case l => k_is); (case c => k_is); (case k => k_is)))
  (case dm_Kept_put => (refine' L2.DefM.mk ?a ?i ?l ?c ?k; (case a => k_is); (case i => first | k_is | kernel_rfl); (case l => k_is); (case c => k_is); (case k => k_is)))
  (case dm_Kept_take => (refine' L2.DefM.mk ?a ?i ?l ?c ?k; (case a => k_is); (case i => first | k_is | kernel_rfl); (case l => k_is); (case c => k_is); (case k => k_is)))
  (case dm_Kept_branch => (refine' L2.DefM.mk ?a ?i ?l ?c ?k; (case a => k_is); (case i => first | k_is | kernel_rfl); (case l => k_is); (case c => k_is); (case k => k_is)))
  (case dm_Kept_whole => (refine' L2.DefM.mk ?a ?i ?l ?c ?k; (case a => k_is); (case i => first | k_is | kernel_rfl); (case l => k_is); (case c => k_is); (case k => k_is)))
  (case dm_Kept_back => (refine' L2.DefM.mk ?a ?i ?l ?c ?k; (case a => k_is); (case i => first | k_is | kernel_rfl); (case l => k_is); (case c => k_is); (case k => k_is)))
  (case dm_Kept_again => (refine' L2.DefM.mk ?a ?i ?l ?c ?k; (case a => k_is); (case i => first | k_is | kernel_rfl); (case l => k_is); (case c => k_is); (case k => k_is)))
  (case dm_Kept_tree_now => (refine' L2.DefM.mk ?a ?i ?l ?c ?k; (case a => k_is); (case i => first | k_is | kernel_rfl); (case l => k_is); (case c => k_is); (case k => k_is)))
  (case dm_Kept_reckoned => (refine' L2.DefM.mk ?a ?i ?l ?c ?k; (case a => k_is); (case i => first | k_is | kernel_rfl); (case l => k_is); (case c => k_is); (case k => k_is)))
  (case x_NoPlace => k_exc)
  (case x_TooGreat => k_exc)
  (case x_NothingDone => k_exc)
