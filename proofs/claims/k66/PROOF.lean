import PyProof.Rows.All
import Wide.All
import OpenK.AllK
import Wide.FinOn
import Lean
import PyProof.EqAt
import PyProof.EqKinds
import PyProof.TupleCall
import PyProof.StrLawsIn
import PyProof.StationsW
import PyProof.NeData
import OpenK.KOwn
import PyProof.NsDelKeeps
import PyProof.ExcArgsOwn
import PyProof.ExcAttrAll.ValueError
import PyProof.IsiH_tuple
import KE.KIsAll
import PyProof.CollectStr
import PyProof.ZipIter
import PyProof.Rows.ZipGen
import PyProof.JoinWalk
import PyProof.CollectIter
import PyProof.EnumMake
import PyProof.SumAny
import PyProof.MeetsSeq3
import PyProof.ListRange
import PyProof.ListNew
import PyProof.DictUpdate
import PyProof.FitsBits
import PyProof.StrCalls6
import PySem.Challenge.RW_trunksay_k66_whole_to_and_fro
set_option Elab.async false
set_option linter.all false
set_option maxRecDepth 100000
set_option hygiene false
local macro_rules|`(tactic|walk_at "1")=>`(tactic|refine⟨μ,ρ,st,l,RK.bind h l fun μ1 st1 x v H1 p1 x1 l1 q1 h1=>?_⟩)
local macro_rules|`(tactic|walk_at "2")=>`(tactic|obtain⟨μ,ρ,st,l,h⟩:=h)
local macro_rules|`(#[0])=>`(by omega)
local macro_rules|`(#[1])=>`(plug C (.nd l r m))
local macro_rules|`(#[2])=>`(fz X nm scope (cellsFrom (G2.objs.size+1) scope.names []++cl) G2.objs.size s2 H1 fp)
local macro_rules|`(#[3])=>`(by decide)
local macro_rules|`(#[4])=>`(model X.prog X.w)
local macro_rules|`(#[5])=>`(.loc st.length)
local macro_rules|`(#[6])=>`(model prog w)
local macro_rules|`(#[7])=>`(s.heap.objs.size+1)
local macro_rules|`(#[8])=>`(Option Nat×Option Nat)
local macro_rules|`(#[9])=>`(cz (aY (bv kx bI (dY rfl))) c9)
local macro_rules|`(#[10])=>`(dZ X nm scope cl C s0 H0 fp)
local macro_rules|`(#[11])=>`(.ListComp sI [⟨tg,ec,oo,0⟩] scope pos)
local macro_rules|`(#[12])=>`(ws.map some++List.replicate (N-ws.length) none)
local macro_rules|`(#[13])=>`((relabel scope X.env).names.lookup x=some .cell\/(relabel scope X.env).names.lookup x=some .free)
local macro_rules|`(#[14])=>`(.nd (if s then x else l) (if s then r else x) m)
local macro_rules|`(#[15])=>`(by simp)
local macro_rules|`(#[16])=>`(st++[.lst (cY (sz.take i))])
local macro_rules|`(#[17])=>`(gO O.Kept (ae 0))
local macro_rules|`(#[18])=>`((e::es).length+([]:List Keyword).length+(if ([]:List Keyword).isEmpty then 0 else 1)<30)
local macro_rules|`(#[19])=>`(be (ae 1) aB)
local macro_rules|`(#[20])=>`(excClassObj nm q C N bs bm hdct sn sub ab col dd k0 k1 k2 k3 k5 qB)
set_option hygiene true
open Array renaming length_toList→eF,getElem?_eq_getElem→eP,getElem?_toList→fS,eq_empty_of_size_eq_zero→gT,getD_eq_getD_getElem?→me,toList_push→nh
open Bool renaming and_eq_true→dC,and_true→dL,false_ne_true→eU,not_eq_true'→fj,false_eq_true→fP,or_false→nG,eq_iff_iff→pQ
open Int renaming toNat_natCast→ce,natCast_add→gc,natCast_mul→jz,emod_nonneg→jA,fdiv_eq_ediv_of_nonneg→mG,emod_lt_of_pos→mO,mul_comm→pz,zero_add→uh
open LawfulBEq renaming eq_of_beq→oh
open List renaming length_append→ai,getElem?_eq_getElem→aj,append_assoc→al,prefix_refl→aq,getElem?_eq_some_iff→ax,length_map→aE,length_take→aF,getElem?_map→aG,getD_eq_getElem?_getD→aI,mem_append_right→aP,getElem?_append_left→aR,getElem?_append_right→aS,size_toArray→aT,mem_append→aV,mem_cons_of_mem→aW,mem_cons→aX,mem_singleton→aZ,append_nil→a8,prefix_append→a_,take_of_length_le→bj,map_cons→bq,length_singleton→bt,mem_append_left→bA,getElem?_eq_none→bD,map_append→bG,length_cons→bZ,pairwise_cons→b6,getElem?_set_self→b8,take_append_of_le_length→b9,length_drop→cf,map_map→cn,mem_cons_self→cr,getElem?_take_of_lt→cw,mem_of_getElem?→cy,reverse_cons→cD,take_length→cJ,getElem?_set_ne→cL,mem_map→c7,drop_eq_getElem_cons→dD,flatten_append→dE,getElem_mem→dR,nil_append→eJ,not_mem_nil→eV,map_congr_left→fx,getElem?_reverse→fT,filterMap_cons→gD,getElem?_range→gH,length_reverse→gI,reverse_append→gJ,take_left→gY,eq_nil_of_length_eq_zero→hG,length_eq_one_iff→h_,drop_left'→il,ext_getElem?→iI,mem_filter→jv,nodup_cons→jx,lookup_append→jH,getElem?_replicate→jR,map_id→jT,take_add_one→km,length_filter_le→kD,lookup_cons→kT,forIn_cons→lQ,take_left'→lV,filter_eq_self→lY,mem_range→mD,mem_filterMap→mF,contains_cons→mM,take_take→mQ,length_range→ng,nodup_append→ni,flatten_cons→nj,map_take→nI,map_drop→nJ,getElem_map→om,range_succ_eq_map→pc,drop_eq_nil_of_le→pd,drop_of_length_le→pi,set_set→pD,of_mem_zip→pM,length_set→pN,set_append_right→pY,dropLast_eq_take→pZ,forIn_nil→qG,take_zero→qJ,sum_cons→rW,map_set→ui
open List.Perm renaming refl→iS,append_left→pX
open Nat renaming le_of_ble_eq_true→ao,le_refl→aA,lt_of_lt_of_le→aL,le_trans→aN,ne_of_lt→a9,le_succ→bn,zero_le→bY,lt_succ_self→cb,lt_succ_of_lt→cW,lt_irrefl→dJ,ne_of_gt→et,min_eq_left→gb,le_of_lt→gn,le_succ_of_le→iF,zero_lt_succ→ja,lt_of_le_of_lt→jG,not_lt→jI,lt_of_succ_lt_succ→kj,not_lt_zero→lT,zero_add→mf,add_assoc→nK,le_add_right→n_,add_zero→ud,lt_trans→ug
open Option renaming map_eq_some_iff→fD
open Option.some renaming inj→bf
open PyProof.Rows renaming callWith_type1→dS,slot_tuple_getitem→eN,boot_tuple→fw,boot_isinstance→jy,callWith_builtin1→kS,subscriptTail_builtinR→o_,sorted_out_str→qH,boot_sorted→qK,boot_int→qL,Constant_none→rP,strKind_oneLt→rS,keyKind_strs→ue,boot_bool→va
open PyProof.Rows.F renaming plain_set_update_loop→fy,entry_set_update_loop→ji
open PySem renaming wpAny_bind→af,wpAny_pure→ay,boot_len→bK,wpAny_callSpecial?_slot→bT,wpAny_call_entry→cm,wpAny_newObj_type→cC,wpAny_setField_rec→cG,wpAny_field→de,wpAny_holding→dv,wpAny_loadPart'→dw,codeAny_builtin→dy,wpAny_seqItems→eu,isSubtype_type→eD,wpAny_loadPart_at→fm,plainId_quiet→fG,wpAny_pyIter_tuple→fN,wpAny_Call_Name_kw→fQ,wpAny_passesOwn→f_,wpAny_setState_of→gp,wpAny_setEntries_of→gG,wpAny_isInstance→gX,wpAny_attempt→iw,wpAny_truthy_bool→iG,wpAny_nameGoes_keeps→iT,codeAny_mono→i_,wpAny_isSubtype_exc→jk,wpAny_execs_nil→jw,wpAny_mono→jF,wpAny_pyNext_ascii_item→jS,wpAny_pyNext_wide_item→kh,wpAny_rule→kU,sizeLine_eq→lq,codeAny_call_builtin→lv,wpAny_updateSeq_pair→ly,pushCells_keeps→lP,typeIs_str→mH,wpAny_pyIter_ascii→mI,isSubtype_stop→mJ,wpAny_fieldsOf→mK,wpAny_pyIter_wide→m_,wpAny_onRaise→nH,noFill_tuple_add→og,wpAny_askSetting→ol,wpAny_Call_method_late→ph,wpAny_noteFrame_againW→py,wpAny_ite_split→pO,wpAny_updateSeq→pP,wpAny_storeName_local→pT,wpAny_isTrue_Compare1→pU,builtinLookup_eq_fast→pW,wpAny_loadPart→qF,wpAny_runValue→qI,wpAny_standAt→rQ,seq_tuple_add→rR,wpAny_call→sL,call_meets→sM,concat_meets→t_,seqIndex_neg→uc,wpAny_landsW→uf,putSet_of→u_
open PySem.Around renaming under_plainId→c5
open PySem.Calls renaming spliced_cons→fO,spliced_nil→iH,callWith_builtin→ki,evalArgs_plain→lr,Name_function_global→mE,call_function_entry→mT
open PySem.F renaming slot_tuple_iterator_next→fR,typeOf_object_class→kC,args_tuple_iterator_next_1→lS,slot_zip_next→lU,entry_tuple_iterator_next→md,slot_enumerate_next→pV
open PySem.Heap renaming get?_push_of_some→aw,get?_push_size→aC,lt_size→aJ,size_push→bw,get?_update_other→cM,get?_update_self→dH
open PySem.Heap.SameBut renaming update→jh
open PySem.SeqAt renaming str_beq→rV
open PySem.StrLaws renaming glued_eq_join→iA
open PySem.Value renaming isStrOf_shape→lX
def aK:=@if_pos
def aU:=@if_neg
def a7:=@decide_eq_false
def bp:=@beq_eq_false_iff_ne
def bF:=@decide_eq_true
def du:=@beq_iff_eq
def gF:=@if_true
def gW:=@if_false
def ik:=@congrArg
def i':=@PySem.wpAny_typeOf
def mL:=@or_false
def mP:=@congrFun
def mR:=@decide_eq_true_iff
set_option compiler.extract_closed false
noncomputable section
variable{M:PySem.Model}{p pos i9 gR p2 eM:PySem.Pos}{s:PySem.Shared}{α β:Type}{A:PySem.Around}{E Q Qv:PySem.Value->PySem.Shared->Prop}{nk n n' t' N i j k kk ep q L:Nat}{x name fM:PySem.Str}{v u:PySem.Value}{us bN:List PySem.Value}{o e c tg ec sI:PySem.Expr}{P prog:PySem.Program}{h h' base:PySem.Heap}{ak pins':List (PySem.Addr×PySem.Obj)}{g':Array PySem.GenState}{ch fp μ μ':List PySem.Addr}{it C:PySem.Addr}{op:PySem.CmpOp}{K:PySem.W.Frag}{es oo xO:List PySem.Expr}{g:PySem.Value->PySem.Value->PySem.Sem PySem.Value}{body:List PySem.Stmt}{f:Option Nat×Option Nat->Option Nat}{mA mg:PySem.Str->Option PySem.Value}{pl:PySem.Sem Bool}{kw:List (PySem.Str×PySem.Value)}{env:PySem.Env}{fd:PySem.FuncData}{ps ks nm:List PySem.Str}{outer:List PySem.Env}{kindOf:PySem.Str->Option PySem.NameKind}{scope:PySem.Scope}{T:String}{l m S pool:List Nat}{XP:(PySem.Str->Option PySem.Value)->PySem.Heap->Prop}{YP:PySem.World->PySem.Heap->Prop}{ns:List Int}{cl:List (PySem.Str×PySem.Addr)}{cap B:List (Option Nat)}{use:Option (PySem.Value->PySem.Sem Unit)}{ls:List (List Nat)}
open PySem.W (Frag)
open PySem.W (instObj hideAll lookIn plainGet findIn isFn makesIn emptyDict keepIn kitOne kia_one fnOf codeIn excIn kitAny nsIn mg_of mg_none_of)
namespace L2
open PySem PySem.Spec PyProof.Rows
theorem zt{Γ:PySem.Ctx}{t:Sem Fin}{fs:List Frame}{s':Shared}{e:End}(h:Runs M Γ p t fs s e s'):s.toks<=s'.toks:=by
 induction h
 case fresh ih=>exact aN (bn _) ih
 case call i1 i2=>exact aN i1 i2
 case resumeFresh i1 i2=>exact aN i1 i2
 case resumeSuspended i1 i2=>exact aN i1 i2
 case segRet i1 i2=>exact aN i1 i2
 case segGen i1 i2=>exact aN i1 i2
 case segSuspGen i1 i2=>exact aN i1 i2
 all_goals first|exact aA _|assumption
theorem GP{Γ:PySem.Ctx}{g:Nat}{r:Resume}{s':Shared}{res:GenResult}(h:Wakes M Γ p g r s res s'):s.toks<=s'.toks:=by
 unfold Wakes at h
 split at h
 ·exact h.elim
 ·split at h
  ·obtain⟨e,s1,h1,_,_,rfl⟩:=h;have q:=zt h1;exact q
  ·rw[h.2];exact aA _
  ·rw[h.2];exact aA _
 ·obtain⟨e,s1,h1,_,_,rfl⟩:=h;have q:=zt h1;exact q
 ·rw[h.2];exact aA _
 ·rw[h.2];exact aA _
theorem Ra{Γ:PySem.Ctx}(n:Nat)(m:Sem α):∀{Q:α->Pos->Shared->Prop} {E:Value->Pos->Shared->Prop} {p:Pos} {s:Shared},n<=s.toks->Sem.wp M Γ m Q E p s ->
  Sem.wp M Γ m (fun a p' s'=>n<=s'.toks/\Q a p' s') (fun e p' s'=>n<=s'.toks/\E e p' s') p s:=by
 induction m
 all_goals intro Q E p s hn h
 all_goals (first|(rename_i ih)|skip)
 all_goals (try simp only[Sem.wp]at h ⊢)
 all_goals first
  |exact⟨hn,h⟩
  |exact ih _ hn h
  |exact ih _ (iF hn) h
  |(obtain⟨o,h1,h2⟩:=h;exact⟨o,h1,ih _ hn h2⟩)
  |exact⟨h.1,ih _ hn h.2⟩
  |(obtain⟨r,s',h1,h2⟩:=h;exact⟨r,s',h1,ih _ (aN hn (zt h1)) h2⟩)
  |(obtain⟨r,s',h1,h2⟩:=h;exact⟨r,s',h1,ih _ (aN hn (GP h1)) h2⟩)
theorem up{m:Sem α}{Q:α->Shared->Prop}(h:wpAny M A m (fun a s'=>s.toks<=s'.toks->Q a s') (fun e s'=>s.toks<=s'.toks->E e s') s):wpAny M A m Q E s:=fun Γ p hΓ=>
 Sem.wp_mono M Γ m (fun a p' s' h'=>h'.2 h'.1) (fun e p' s' h'=>h'.2 h'.1) p s (Ra s.toks m (aA _) (h Γ p hΓ))
end L2
namespace L2
open PySem PySem.Spec PyProof.Rows
abbrev v8:=Sum Int Str
def Mn:v8->Value->Bool
 |.inl k,v=>Value.isInt k v
 |.inr x,v=>Value.isStrOf x v
def UN(w:World):v8->Int
 |.inl k=>hashInt k
 |.inr x=>hashStr w x
theorem gf:∀{k:v8} {v:Value},Mn k v=true->(∃i t,k=Sum.inl i/\v=Value.int i t)\/(∃x t,k=Sum.inr x/\v=Value.str x t)
 |.inl i,v,h=>by
  obtain⟨t,e⟩:=Value.isInt_shape (k:=i) (v:=v) h
  exact .inl ⟨i,t,rfl,e⟩
 |.inr x,v,h=>by
  obtain⟨t,e⟩:=lX (x:=x) (v:=v) h
  exact .inr ⟨x,t,rfl,e⟩
theorem NQ(a b:Int):decide ((Sum.inl a:v8)=Sum.inl b)=(a==b):=by
 by_cases e:a=b
 ·subst e;simp
 ·have h:¬ (Sum.inl a:v8)=Sum.inl b:=fun q=>e (Sum.inl.inj q)
  rw[a7 h]
  exact(bp.mpr e).symm
theorem NR(a b:Str):decide ((Sum.inr a:v8)=Sum.inr b)=decide (a=b):=by
 by_cases e:a=b
 ·subst e;simp
 ·have h:¬ (Sum.inr a:v8)=Sum.inr b:=fun q=>e (Sum.inr.inj q)
  rw[a7 h,a7 e]
theorem NS(a:Int)(b:Str):decide ((Sum.inl a:v8)=Sum.inr b)=false:=a7 (fun q=>nomatch q)
theorem NT(a:Str)(b:Int):decide ((Sum.inr a:v8)=Sum.inl b)=false:=a7 (fun q=>nomatch q)
def EE(prog:Program)(w:World):PySem.KeyKind prog w v8 where
 is:=Mn
 hash:=UN w
 inj:=fun v a b ha hb=>by
  rcases gf ha with⟨i,t,rfl,rfl⟩|⟨x,t,rfl,rfl⟩
  ·rcases gf hb with⟨j,u,rfl,e⟩|⟨y,u,rfl,e⟩
   ·injection e with e1 _;rw[e1]
   ·exact nomatch e
  ·rcases gf hb with⟨j,u,rfl,e⟩|⟨y,u,rfl,e⟩
   ·exact nomatch e
   ·injection e with e1 _;rw[e1]
 byValue:=fun k v h=>by
  rcases gf h with⟨i,t,rfl,rfl⟩|⟨x,t,rfl,rfl⟩<;>rfl
 pyHash:=fun hv h=>by
  rcases gf hv with⟨i,t,rfl,rfl⟩|⟨x,t,rfl,rfl⟩
  ·exact wpAny_pyHash_int h
  ·exact wpAny_pyHash_str h
 eqBool:=fun hu hv h=>by
  rcases gf hu with⟨i,t,rfl,rfl⟩|⟨x,t,rfl,rfl⟩
  ·rcases gf hv with⟨j,u,rfl,rfl⟩|⟨y,u,rfl,rfl⟩
   ·rw[NQ]at h;exact wpAny_eqBool_int h
   ·rw[NS]at h;exact SeqAt.EqAt.int_str i t y u _ _ _ _ h
  ·rcases gf hv with⟨j,u,rfl,rfl⟩|⟨y,u,rfl,rfl⟩
   ·rw[NT]at h;exact SeqAt.EqAt.str_int x t j u _ _ _ _ h
   ·rw[NR]at h;exact wpAny_eqBool_str h
 «strs»:=fun k x t v h=>by
  rcases gf h with⟨i,u,rfl,e⟩|⟨y,u,rfl,e⟩
  ·exact nomatch e
  ·injection e with e1 _
   subst e1
   cases v<;>rfl
end L2
namespace L2
open PySem PySem.Spec PyProof.Rows
inductive V where
 |non|bl (b:Bool)|int (i:Int)|str (x:Str)|byt (b:Array UInt8)|flt (b:UInt64)|ref (a:Addr)|ty (n:String)
 deriving DecidableEq
def Tk(n:Nat)(x:Str):Type:={ t:Tok // x.length=1->0<t/\t<n }
instance {n:Nat} {x:Str}:CoeOut (Tk n x) Tok:=⟨fun t=>t.1⟩
def Tk.up(h:n<=n')(t:Tk n x):Tk n' x:=⟨t.1,fun e=>⟨(t.2 e).1,aL (t.2 e).2 h⟩⟩
def dz(n:Nat):V->Value->Prop
 |.non,u=>u=Value.none
 |.bl b,u=>u=Value.bool b
 |.int i,u=>∃t,u=Value.int i t
 |.str x,u=>∃t:Tk n x,u=Value.str x t.1
 |.byt b,u=>∃t,u=Value.bytes b t
 |.flt b,u=>∃t,u=Value.float b t
 |.ref a,u=>u=Value.ref a
 |.ty n,u=>u=Value.type n
theorem dz.up(h:n<=n'){v:V}(r:dz n v u):dz n' v u:=by
 cases v with
 |str x=>obtain⟨t,e⟩:=r;exact⟨t.up h,e⟩
 |_=>exact r
abbrev cK(n:Nat):List V->List Value->Prop:=Paired (dz n)
theorem cK.up(h:n<=n'):∀{xs:List V} {us:List Value},cK n xs us->cK n' xs us
 |_,_,.nil=>.nil
 |_,_,.cons r t=>.cons (r.up h) (cK.up h t)
theorem cK.length{xs:List V}(r:cK nk xs us):xs.length=us.length:=Paired.length r
theorem cK.get:∀{xs:List V} {us:List Value} {i:Nat} {x:V},cK nk xs us->xs[i]?=some x->∃u,us[i]?=some u/\dz nk x u
 |_,_,_,_,.nil,e=>by simp at e
 |_,_,0,_,.cons r _,e=>by simp at e;subst e;exact⟨_,rfl,r⟩
 |_,_,i+1,x,.cons _ t,e=>by
  obtain⟨u,h1,h2⟩:=cK.get (i:=i) (x:=x) t (by simpa using e)
  exact⟨u,by simpa using h1,h2⟩
theorem cK.set{x:V}(r:dz nk x u):∀{xs:List V} {us:List Value} (i:Nat),cK nk xs us->cK nk (xs.set i x) (us.set i u)
 |_,_,_,.nil=>.nil
 |_,_,0,.cons _ t=>.cons r t
 |_,_,i+1,.cons q t=>.cons q (cK.set r i t)
theorem cK.append:∀{xs ys:List V} {us ws:List Value},cK nk xs us->cK nk ys ws->cK nk (xs++ys) (us++ws)
 |_,_,_,_,.nil,s=>s
 |_,_,_,_,.cons r t,s=>.cons r (cK.append t s)
theorem cK.take:∀{xs:List V} {us:List Value} (n:Nat),cK nk xs us->cK nk (xs.take n) (us.take n)
 |_,_,0,_=>.nil
 |_,_,_+1,.nil=>.nil
 |_,_,n+1,.cons r t=>.cons r (cK.take n t)
theorem cK.drop:∀{xs:List V} {us:List Value} (n:Nat),cK nk xs us->cK nk (xs.drop n) (us.drop n)
 |_,_,0,r=>r
 |_,_,_+1,.nil=>.nil
 |_,_,n+1,.cons _ t=>cK.drop n t
def ul(n:Nat):Option V->Option Value->Prop
 |some v,some u=>dz n v u
 |none,none=>True
 |_,_=>False
theorem ul.up(h:n<=n'):∀{o:Option V} {u:Option Value},ul n o u->ul n' o u
 |some _,some _,r=>dz.up h r
 |none,none,_=>trivial
 |none,some _,r=>r
 |some _,none,r=>r
def KV{κ:Type}(n:Nat):List (κ×V)->List (κ×Value)->Prop:=Paired fun(p:κ×V) (q:κ×Value)=>p.1=q.1/\dz n p.2 q.2
def kV:v8->V
 |.inl i=>.int i
 |.inr x=>.str x
inductive HO where
 /-- a list -/
 |lst (xs:List V)
 /-- a tuple (never changes) -/
 |tup (xs:List V)
 /-- a dict whose keys are ints and texts;one whose keys are tuples of ints and texts (the empty one is both) -/
 |dK (g_:List (v8×V))|dT (g_:List (List v8×V))
 /-- a set of ints: bN members,bN size -/
 |set (S:Int->Bool) (n:Nat)
 /-- an instance of the class at C,bN dict at dx,bN attributes -/
 |ins (C dx:Addr) (fs:List (Str×V))
 /-- the dict of the instance at x -/
 |own (x:Addr)
 /-- the dict of an exception -/
 |xd (fs:List (Str×V))
 /-- a bound method,f of x -/
 |met (f x:Addr)
 /-- a range object lo,lo+1,.. below hi -/
 |rng (lo hi:Int)
 /-- a thing that is known to the object (the script;a dict while a loop walks it): read,never written while it is so -/
 |frz (o:Obj) (u:HO)
 /-- a code object's table -/
 |tbl (ps:Array Value)
 /-- any other thing,by what is true of bN one object (a def of V' own: SetO a S n:=HO.ext fun h=>..) -/
 |ext (φ:Heap->Prop)
abbrev Hp:=Addr->Option HO
def fU(H:Hp)(a:Addr)(o:HO):Hp:=fun b=>if b=a then some o else H b
theorem ia{H:Hp}{a:Addr}{o:HO}:fU H a o a=some o:=by unfold fU;rw[aK rfl]
theorem cX{H:Hp}{a b:Addr}{o:HO}(h:b≠a):fU H a o b=H b:=by unfold fU;rw[aU h]
theorem fI{H:Hp}{a b:Addr}{o:HO}(h:H a=some o)(h':H b=none):a≠b:=by
 intro e;subst e;rw[h]at h';cases h'
section
variable(P:Program)(w:World)
def gZ(n:Nat)(H:Hp)(h:Heap)(a:Addr):HO->Prop
 |.lst xs=>xs.length<=sizeLine/\∃(bN:List Value) (m:Nat),cK n xs bN/\h.get? a=some { cls:=.type "list",data:=.seq bN.toArray m }
 |.tup xs=>xs.length<=sizeLine/\∃bN:List Value,cK n xs bN/\IsTup h a bN.toArray
 |.dK g_=>g_.length<=sizeLine/\(a==sysModules)=false/\∃vs,KV n g_ vs/\h.DictOf (EE P w) a vs
 |.dT g_=>g_.length<=sizeLine/\(a==sysModules)=false/\∃xs:List (List v8×Addr×Value),
   Paired (fun(p:List v8×V) (q:List v8×Addr×Value)=>p.1=q.1/\H q.2.1=some (.tup (p.1.map kV))/\dz n p.2 q.2.2) g_ xs /\
   ∃o es ep,h.get? a=some o/\o.ExactDict/\o.data=.dict es ep/\es.toList=xs.map (entryOfKey (tupleKind (EE P w)))/\(xs.map (·.1)).Nodup
 |.set S m=>h.SetOf (intKind P w) a S m
 |.ins C dx fs=>H dx=some (.own a)/\fs.length<=1000/\dx≠a/\h.get? a=some (instObj C dx) /\
   ∃mA,h.Ns1 dx mA/\(∀f,ul n (fs.lookup f) (mA f))/\PySem.Within mA (fs.map (·.1))
 |.own _=>∃o,h.get? a=some o
 |.xd fs=>∃mA,h.Ns1 a mA/\∀f,ul n (fs.lookup f) (mA f)
 |.rng lo hi=>∃t u v,h.get? a=some { cls:=.type "range",data:=.fields #[.int lo t,.int hi u,.int 1 v] }
 |.frz o u=>h.get? a=some o/\gZ n H h a u
 |.tbl ps=>h.get? a=some { cls:=.none,data:=.fields ps }
 |.met f x=>h.get? a=some (PySem.W.methodObj (.ref f) (.ref x))
 |.ext φ=>φ h/\(∃o,h.get? a=some o)/\∀h1 h2:Heap,φ h1->(∀o,h1.get? a=some o->h2.get? a=some o)->φ h2
def uj(n:Nat)(H:Hp)(h:Heap):Prop:=∀a o,H a=some o->gZ P w n H h a o
end
section
variable{w:World}{H H':Hp}{a:Addr}{o:HO}
theorem gZ.lt(x:gZ P w nk H h a o):a<h.objs.size:=by
 cases o with
 |lst xs=>obtain⟨_,_,_,_,e⟩:=x;exact aJ e
 |tup xs=>obtain⟨_,_,_,p⟩:=x;exact p.lt
 |dK g_=>obtain⟨_,_,_,_,o,_,_,e,_⟩:=x;exact aJ e
 |dT g_=>obtain⟨_,_,_,_,o,_,_,e,_⟩:=x;exact aJ e
 |set S n=>obtain⟨o,_,_,_,e,_⟩:=x;exact aJ e
 |ins C dx fs=>obtain⟨_,_,_,e,_⟩:=x;exact aJ e
 |own y=>obtain⟨_,e⟩:=x;exact aJ e
 |xd fs=>obtain⟨_,⟨_,_,_,e,_⟩,_⟩:=x;exact aJ e
 |rng lo hi=>obtain⟨_,_,_,e⟩:=x;exact aJ e
 |frz ob u=>obtain⟨e,_⟩:=x;exact aJ e
 |tbl ps=>exact aJ (show h.get? a=some _ from x)
 |met f y=>exact aJ (show h.get? a=some _ from x)
 |ext φ=>obtain⟨_,⟨_,e⟩,_⟩:=x;exact aJ e
theorem Paired.mapP{F G:α->β->Prop}:∀{l₁:List α} {l₂:List β},Paired F l₁ l₂->(∀a b,F a b->G a b)->Paired G l₁ l₂
 |_,_,.nil,_=>.nil
 |_,_,.cons r t,f=>.cons (f _ _ r) (Paired.mapP t f)
theorem Paired.imp'{F G:α->β->Prop}(f:∀a b,F a b->G a b){l₁:List α}{l₂:List β}(r:Paired F l₁ l₂):Paired G l₁ l₂:=Paired.mapP r f
theorem gZ.stay(x:gZ P w nk H h a o)(k:∀b u,(b=a\/H b=some (.own a))->h.get? b=some u->h'.get? b=some u)
  (ho:∀b,H b=some (.own a)->H' b=some (.own a)) (ht:∀b xs,H b=some (.tup xs)->H' b=some (.tup xs)):gZ P w nk H' h' a o:=by
 induction o with
 |lst xs=>obtain⟨z,bN,n,r,e⟩:=x;exact⟨z,bN,n,r,k _ _ (.inl rfl) e⟩
 |tup xs=>obtain⟨z,bN,r,ob,e,c⟩:=x;exact⟨z,bN,r,ob,k _ _ (.inl rfl) e,c⟩
 |dK g_=>obtain⟨z,y,vs,r,ob,es,ep,e,c⟩:=x;exact⟨z,y,vs,r,ob,es,ep,k _ _ (.inl rfl) e,c⟩
 |dT g_=>
  obtain⟨z,y,xs,r,ob,es,ep,e,c⟩:=x
  exact⟨z,y,xs,Paired.mapP r fun p q z=>⟨z.1,ht _ _ z.2.1,z.2.2⟩,ob,es,ep,k _ _ (.inl rfl) e,c⟩
 |set S n=>obtain⟨ob,es,ep,t,e,c⟩:=x;exact⟨ob,es,ep,t,k _ _ (.inl rfl) e,c⟩
 |ins C dx fs=>
  obtain⟨d,z,ne,e,mA,⟨od,es,ep,e2,c⟩,r⟩:=x
  exact⟨ho _ d,z,ne,k _ _ (.inl rfl) e,mA,⟨od,es,ep,k _ _ (.inr d) e2,c⟩,r⟩
 |own y=>obtain⟨ob,e⟩:=x;exact⟨ob,k _ _ (.inl rfl) e⟩
 |xd fs=>obtain⟨mA,⟨od,es,ep,e,c⟩,r⟩:=x;exact⟨mA,⟨od,es,ep,k _ _ (.inl rfl) e,c⟩,r⟩
 |rng lo hi=>obtain⟨t,u,v,e⟩:=x;exact⟨t,u,v,k _ _ (.inl rfl) e⟩
 |frz ob u ih=>obtain⟨e,q⟩:=x;exact⟨k _ _ (.inl rfl) e,ih q⟩
 |tbl ps=>
  have e:h.get? a=some { cls:=.none,data:=.fields ps }:=x
  show h'.get? a=some { cls:=.none,data:=.fields ps }
  exact k a _ (.inl rfl) e
 |met f y=>
  have e:h.get? a=some (PySem.W.methodObj (.ref f) (.ref y)):=x
  show h'.get? a=some (PySem.W.methodObj (.ref f) (.ref y))
  exact k a _ (.inl rfl) e
 |ext φ=>obtain⟨p,⟨o,e⟩,st⟩:=x;exact⟨st _ _ p fun o q=>k _ _ (.inl rfl) q,⟨o,k _ _ (.inl rfl) e⟩,st⟩
theorem Paired.upR(h:n<=n'){κ:Type}{l₁:List (κ×V)}{l₂:List (κ×Value)}(r:KV n l₁ l₂):KV n' l₁ l₂:=Paired.mapP r fun _ _ z=>⟨z.1,z.2.up h⟩
theorem gZ.up(hn:nk<=n')(x:gZ P w nk H h a o):gZ P w n' H h a o:=by
 induction o with
 |lst xs=>obtain⟨z,bN,n,r,e⟩:=x;exact⟨z,bN,n,r.up hn,e⟩
 |tup xs=>obtain⟨z,bN,r,ob⟩:=x;exact⟨z,bN,r.up hn,ob⟩
 |dK g_=>obtain⟨z,y,vs,r,ob⟩:=x;exact⟨z,y,vs,Paired.upR hn r,ob⟩
 |dT g_=>obtain⟨z,y,xs,r,ob⟩:=x;exact⟨z,y,xs,Paired.mapP r fun p q z=>⟨z.1,z.2.1,z.2.2.up hn⟩,ob⟩
 |ins C dx fs=>obtain⟨d,z,ne,e,mA,c,r,q⟩:=x;exact⟨d,z,ne,e,mA,c,fun f=>(r f).up hn,q⟩
 |xd fs=>obtain⟨mA,c,r⟩:=x;exact⟨mA,c,fun f=>(r f).up hn⟩
 |frz ob u ih=>obtain⟨e,q⟩:=x;exact⟨e,ih q⟩
 |_=>exact x
theorem uj.up(hn:nk<=n')(x:uj P w nk H h):uj P w n' H h:=fun a o e=>(x a o e).up hn
theorem uj.lt(x:uj P w nk H h)(e:H a=some o):a<h.objs.size:=(x a o e).lt
theorem uj.fresh(x:uj P w nk H h)(e:h.objs.size<=a):H a=none:=by
 cases q:H a with
 |none=>rfl
 |some u=>exact absurd (aL (x.lt q) e) (dJ _)
theorem uj.kept(x:uj P w nk H h)(k:∀b u,h.get? b=some u->h'.get? b=some u):uj P w nk H h':=fun a o e=>
 (x a o e).stay (fun b u _ q=>k b u q) (fun _ q=>q) fun _ _ q=>q
theorem uj.laid(x:uj P w nk H h)(k:∀b u,h.get? b=some u->h'.get? b=some u)(hp:h.objs.size<=a)(new:gZ P w nk (fU H a o) h' a o):uj P w nk (fU H a o) h':=fun b u e=>by
 have hn:=x.fresh hp
 by_cases hb:b=a
 ·subst hb;rw[ia]at e;cases e;exact new
 ·rw[cX hb]at e
  exact(x b u e).stay (fun c v _ q=>k c v q) (fun c q=>by rw[cX (fI q hn)];exact q) fun c xs q=>by rw[cX (fI q hn)];exact q
end
def Rd(H:Hp)(a:Addr)(u:HO):Prop:=H a=some u\/∃o,H a=some (.frz o u)
theorem Rd.ok{w:World}{H:Hp}{a:Addr}{u:HO}(r:Rd H a u)(x:uj P w nk H h):gZ P w nk H h a u:=by
 rcases r with r|⟨o,r⟩
 ·exact x a u r
 ·obtain⟨_,q⟩:=x a _ r
  exact q
def Uk:Option HO->Prop
 |some (.lst _)=>True
 |some (.dK _)=>True
 |some (.dT _)=>True
 |some (.set _ _)=>True
 |some (.ins _ _ _)=>True
 |some (.ext _)=>True
 |_=>False
section
variable{w:World}{H:Hp}{x e:Addr}{o':HO}
theorem uj.write(ok:uj P w nk H h)(mu:Uk (H x))(he:e=x\/H e=some (.own x))(k:∀b u,b≠e->h.get? b=some u->h'.get? b=some u)(KH:∃u,h'.get? e=some u)
  (new:gZ P w nk (fU H x o') h' x o'):uj P w nk (fU H x o') h':=fun b u q=>by
 have nown:∀c y,H c=some (.own y)->c≠x:=fun c y r z=>by subst z;rw[r]at mu;exact mu
 have ntup:∀c xs,H c=some (.tup xs)->c≠x:=fun c xs r z=>by subst z;rw[r]at mu;exact mu
 by_cases hb:b=x
 ·subst hb;rw[ia]at q;cases q;exact new
 ·rw[cX hb]at q
  by_cases hbe:b=e
  ·have q':H b=some (.own x):=by
    rcases he with z|z
    ·exact absurd (hbe.trans z) hb
    ·rw[hbe];exact z
   rw[q]at q';cases q'
   obtain⟨v,hv⟩:=KH
   exact⟨v,by rw[hbe];exact hv⟩
  ·refine(ok b u q).stay (fun c v hc r=>k c v ?_ r) (fun c r=>by rw[cX (nown c b r)];exact r) fun c xs r=>by rw[cX (ntup c xs r)];exact r
   rcases hc with rfl|hc
   ·exact hbe
   ·rintro rfl
    rcases he with z|z
    ·exact nown c b hc z
    ·rw[hc]at z;cases z;exact hb rfl
end
structure Un(fs ex:List Addr)(H H':Hp)(h h':Heap):Prop where
 keep:∀b o,h.get? b=some o->H b=none->b∉fs->b∉ex->h'.get? b=some o
 slot:∀b o,h.get? b=some o->H b=none->b∈fs->b∉ex->∃sl,h'.get? b=some { o with slots:=sl }
 free:∀b o,h.get? b=some o->H b=none->b∉ex->H' b=none
 there:∀b o,h.get? b=some o->b∉ex->∃o',h'.get? b=some o'
 tups:∀b xs,H b=some (.tup xs)->H' b=some (.tup xs)
 frzs:∀b o u,H b=some (.frz o u)->H' b=some (.frz o u)
 tbls:∀b ps,H b=some (.tbl ps)->∃more,H' b=some (.tbl (ps++more))
section
variable{fs T0 ex WE:List Addr}{H H1 H2:Hp}{h1 h2:Heap}{a x e:Addr}{o:HO}
theorem Un.any(u:Un fs ex H H1 h h1){b:Addr}{ob:Obj}(q:h.get? b=some ob)(n:H b=none)(hx:b∉ex):∃sl,h1.get? b=some { ob with slots:=sl }:=by
 by_cases hb:b∈fs
 ·exact u.slot b ob q n hb hx
 ·exact⟨ob.slots,u.keep b ob q n hb hx⟩
theorem Un.kept(k:∀b u,h.get? b=some u->h'.get? b=some u):Un fs ex H H h h':=
 ⟨fun b ob q _ _ _=>k b ob q,fun b ob q _ _ _=>⟨ob.slots,k b ob q⟩,fun _ _ _ n _=>n,fun b ob q _=>⟨ob,k b ob q⟩,fun _ _ q=>q,fun _ _ _ q=>q,fun _ ps q=>⟨#[],by rw[q];simp⟩⟩
theorem Un.refl:Un fs ex H H h h:=Un.kept fun _ _ q=>q
theorem Un.laid(k:∀b u,h.get? b=some u->h'.get? b=some u)(hp:h.objs.size<=a)(hn:H a=none):Un fs ex H (fU H a o) h h' where
 keep:=fun b u q _ _ _=>k b u q
 slot:=fun b u q _ _ _=>⟨u.slots,k b u q⟩
 free:=fun b u q n _=>by rw[cX (a9 (aL (aJ q) hp))];exact n
 there:=fun b u q _=>⟨u,k b u q⟩
 tups:=fun b xs q=>by rw[cX (fI q hn)];exact q
 frzs:=fun b u xs q=>by rw[cX (fI q hn)];exact q
 tbls:=fun b ps q=>⟨#[],by rw[cX (fI q hn),q];simp⟩
theorem Un.write(mu:Uk (H x))(he:e=x\/H e=some (.own x))(k:∀b u,b≠e->h.get? b=some u->h'.get? b=some u)(KH:∃u,h'.get? e=some u):Un fs ex H (fU H x o) h h':=by
 have hx:∀b,H b=none->b≠x:=fun b n z=>by subst z;rw[n]at mu;exact mu
 have hb:∀b,H b=none->b≠e:=fun b n z=>by
  subst z
  rcases he with r|r
  ·exact hx b n r
  ·rw[n]at r;cases r
 have hm:∀b u,H b=some u->¬ Uk (some u)->b≠x:=fun b u q nm z=>by subst z;rw[q]at mu;exact nm mu
 refine⟨fun b u q n _ _=>k b u (hb b n) q,fun b u q n _ _=>⟨u.slots,k b u (hb b n) q⟩,fun b u q n _=>by rw[cX (hx b n)];exact n,fun b u q _=>?_,
  fun b xs q=>by rw[cX (hm b _ q fun z=>z)];exact q,fun b u xs q=>by rw[cX (hm b _ q fun z=>z)];exact q,fun b ps q=>⟨#[],by rw[cX (hm b _ q fun z=>z),q];simp⟩⟩
 by_cases hbe:b=e
 ·subst hbe;exact KH
 ·exact⟨u,k b u hbe q⟩
end
def Ul(h:Heap)(H:Hp):List Addr:=(List.range h.objs.size).filter fun a=>(H a).isSome
def zu(h:Heap)(H:Hp):Heap:=hideAll h (Ul h H)
theorem Fx(h:Heap)(H:Hp):(zu h H).objs.size=h.objs.size:=PySem.W.hideAll_size _ _
theorem GQ{H:Hp}{b:Addr}{o:Obj}(e:h.get? b=some o)(n:H b=none):(zu h H).get? b=some o:=
 PySem.W.hideAll_get _ e fun hm=>by
  have q:(H b).isSome=true:=(jv.mp hm).2
  rw[n]at q;simp at q
theorem KJ{H:Hp}{b:Addr}{o:Obj}(e:(zu h H).get? b=some o):h.get? b=some o/\H b=none:=by
 have e':h.get? b=some o:=PySem.W.of_hideAll (Ul h H) e
 refine⟨e',?_⟩
 cases q:H b with
 |none=>rfl
 |some x=>
  have hm:b∈Ul h H:=jv.mpr ⟨mD.mpr (aJ e'),by simp[q]⟩
  have z:(zu h H).get? b=none:=PySem.W.hideAll_none (Ul h H) hm
  rw[z]at e;cases e
def KL(g h:Heap)(L:Addr):List (Addr×Obj):=(List.range h.objs.size).filterMap fun a=>if a=L\/(g.get? a).isSome=true then none else(h.get? a).map fun o=>(a,o)
def gK(g h:Heap)(L d:Addr):List (Addr×Obj):=(KL g h L).filter fun p=>decide (p.1≠d)
end L2
variable{xs vs:List L2.V}{H H':L2.Hp}
namespace L2
open PySem PySem.Spec PyProof.Rows
structure Mod(K:Frag)(mg:Str->Option Value)(base:Heap):Prop where
 kin:K.In base
 glob:base.Ns mainGlobals mg
 blt:∃mb,base.Ns builtinsNs mb/\∀x:Str,x ≠ "__name__"->mb x=bootBuiltins x
 nolimit:base.NoLimit
structure Cx where
 prog:Program
 w:World
 K:Frag
 mg:Str->Option Value
 base:Heap
 A:Around
 N:List Str
 s₀:Shared
 H₀:Hp
 env:Env
 outer:List Env
 stack:List Env
 ex:List Addr
 fn:Str->Bool
 calm:Bool
 pn:List (Addr×Obj)
 xe:Value->Shared->Prop
def sN(l:List Env):List Addr:=l.filterMap (·.frame)
abbrev Cx.fs(X:Cx):List Addr:=sN X.outer
def Rb(sc:Scope)(x:Str):Prop:=sc.names.lookup x=some .local\/sc.names.lookup x=some .cell\/sc.names.lookup x=some .free
def Kw(sc:Scope)(x:Str):Prop:=sc.names.lookup x=some .local\/sc.names.lookup x=some .cell
def UO(env:Env)(h:Heap)(m:Str->Option Value)(x:Str)(u:Value):Prop:=
 (env.kindOf x=some .local/\m x=some u)\/((env.kindOf x=some .cell\/env.kindOf x=some .free)/\∃c,env.cells.lookup x=some c/\h.IsCell c (some u))
structure Cx.Ok(X:Cx):Prop where
 mod:Mod X.K X.mg X.base
 kind:X.env.scope.kind=.function
 glob:X.env.globals=mainGlobals
 blt:X.env.builtins=builtinsNs
 above:X.s₀.heap.objs.size<=X.env.locals
 inj:∀x y c,X.env.cells.lookup x=some c->X.env.cells.lookup y=some c->x=y
 has:∀x,(X.env.kindOf x=some .cell\/X.env.kindOf x=some .free)->∃c,X.env.cells.lookup x=some c
 cab:∀x c,X.fn x=true->X.env.cells.lookup x=some c->X.s₀.heap.objs.size<=c
 hd:X.calm=true->X.A.handled=none
 frames:X.A.frames=some X.stack
 stk:X.stack=X.outer\/(X.stack=X.env::X.outer/\X.env.frame=some X.env.locals)
 exf:∀b∈X.ex,b≠X.env.locals/\∀x c,X.env.cells.lookup x=some c->c≠b
 bs:∀b o,X.base.get? b=some o->X.s₀.heap.get? b=some o/\X.H₀ b=none
 bsz:X.base.objs.size<=X.s₀.heap.objs.size
 noex:∀b o,X.base.get? b=some o->b∉X.ex
 exfs:∀b∈X.ex,b∉X.fs
 funs:X.s₀.heap.FunFrames X.base X.outer
 frf:∀b∈X.fs,X.H₀ b=none
structure bH(X:Cx)(ak:List (Addr×Obj))(σ:List (Option V))(H:Hp)(s:Shared):Prop where
 ok:X.Ok
 os:s.os=X.s₀.os
 bare:AllBare s.gens
 base:Un X.fs X.ex X.H₀ H X.s₀.heap s.heap
 loc:∃m,s.heap.Ns X.env.locals m/\∀(i:Nat) (x:Str) (v:V),X.N[i]?=some x->σ[i]?=some (some v)->Rb X.env.scope x->∃u,dz s.toks v u/\UO X.env s.heap m x u
 cell:∀x c,X.env.cells.lookup x=some c->∃v,s.heap.IsCell c v
 free:H X.env.locals=none
 freeC:∀x c,X.env.cells.lookup x=some c->H c=none
 pin:∀p∈X.pn++ak,s.heap.get? p.1=some p.2/\H p.1=none/\p.1≠X.env.locals/\p.1∉X.fs/\∀v,p.2.data≠.cell v
 hok:uj X.prog X.w s.toks H s.heap
 len:σ.length=X.N.length
 pos:0<s.toks
 tk:X.s₀.toks<=s.toks
section
variable{X:Cx}{σ:List (Option V)}
theorem Cx.Ok.nofr(ok:X.Ok){b:Addr}{o:Obj}(e:X.base.get? b=some o):b∉X.fs:=fun hb=>by
 have:=(ok.funs.mem hb).1
 rw[e]at this;cases this
theorem bH.bs(I:bH X ak σ H s):∀b o,X.base.get? b=some o->s.heap.get? b=some o/\H b=none:=fun b o e=>
 ⟨I.base.keep b o (I.ok.bs b o e).1 (I.ok.bs b o e).2 (I.ok.nofr e) (I.ok.noex b o e),I.base.free b o (I.ok.bs b o e).1 (I.ok.bs b o e).2 (I.ok.noex b o e)⟩
theorem bH.bk(I:bH X ak σ H s):∀b o,X.base.get? b=some o->s.heap.get? b=some o:=fun b o e=>(I.bs b o e).1
theorem bH.mod(I:bH X ak σ H s):Mod X.K X.mg X.base:=I.ok.mod
theorem bH.kIn(I:bH X ak σ H s):X.K.In s.heap:=I.ok.mod.kin.keeps I.bk
theorem bH.lt(I:bH X ak σ H s):X.env.locals<s.heap.objs.size:=let ⟨_,hn,_⟩:=I.loc;hn.lt
theorem bH.sz(I:bH X ak σ H s):X.s₀.heap.objs.size<=s.heap.objs.size:=aN I.ok.above (gn I.lt)
theorem bH.nofs(I:bH X ak σ H s){a:Addr}(h:s.heap.objs.size<=a):a∉X.fs:=fun hb=>by
 obtain⟨_,o,ho,_⟩:=I.ok.funs.mem hb
 exact absurd (aL (aJ ho) (aN I.sz h)) (dJ _)
theorem bH.cne(I:bH X ak σ H s):∀x c,X.env.cells.lookup x=some c->c≠X.env.locals:=fun x c e z=>by
 obtain⟨v,o,ho,hd⟩:=I.cell x c e
 obtain⟨m,⟨o',es,ep,ho',hd',_⟩,_⟩:=I.loc
 rw[z,ho']at ho;cases ho;rw[hd']at hd;cases hd
theorem bH.funs(I:bH X ak σ H s):s.heap.FunFrames X.base X.outer:=by
 have all:∀(l:List Env),(∀b∈sN l,b∈X.fs)->X.s₀.heap.FunFrames X.base l->s.heap.FunFrames X.base l:=by
  intro l
  induction l with
  |nil=>intro _ _;trivial
  |cons env r ih=>
   intro hs hl
   obtain⟨hk,⟨L,o,hf,hn,ho,hd⟩,hr⟩:=hl
   have hL:L∈X.fs:=hs L (by unfold sN;rw[gD,hf];exact cr)
   obtain⟨sl,e⟩:=I.base.slot L o ho (I.ok.frf L hL) hL fun z=>I.ok.exfs L z hL
   exact⟨hk,⟨L,_,hf,hn,e,hd⟩,ih (fun b hb=>hs b (by unfold sN;rw[gD,hf];exact aW _ hb)) hr⟩
 exact all X.outer (fun _ hb=>hb) I.ok.funs
theorem bH.stack(I:bH X ak σ H s):s.heap.FunFrames X.base X.stack:=by
 rcases I.ok.stk with e|⟨e,hf⟩
 ·rw[e];exact I.funs
 ·rw[e]
  obtain⟨m,hn,_⟩:=I.loc
  refine .cons (by rw[I.ok.kind];decide) hf hn ?_ I.funs
  exact Heap.get?_none_of_le (aN I.ok.bsz I.ok.above)
theorem bH.stkSub(I:bH X ak σ H s):∀b∈sN X.stack,b∈X.env.locals::X.fs:=fun b hb=>by
 rcases I.ok.stk with e|⟨e,hf⟩
 ·rw[e]at hb;exact aW _ hb
 ·rw[e]at hb
  unfold sN at hb
  rw[gD,hf]at hb
  exact hb
theorem bH.stkFree(I:bH X ak σ H s):∀b∈sN X.stack,H b=none:=fun b hb=>by
 rcases aX.mp (I.stkSub b hb)with e|hb
 ·rw[e];exact I.free
 ·obtain⟨_,o,ho,_⟩:=I.ok.funs.mem hb
  exact I.base.free b o ho (I.ok.frf b hb) fun z=>I.ok.exfs b z hb
theorem bH.step{g':Array GenState}{t':Nat}{d':Drawn}{ch:List Addr}(I:bH X ak σ H s)
  (Fu:∀b∈ch,(b∈X.ex\/X.s₀.heap.objs.size<=b)/\b≠X.env.locals/\(∀x c,X.env.cells.lookup x=some c->c≠b)/\∀p∈X.pn++ak,p.1≠b)
  (keep:∀b o,b≠X.env.locals->b∉X.fs->b∉ch->s.heap.get? b=some o->H b=none->h'.get? b=some o)
  (slot:∀b o,b≠X.env.locals->b∈X.fs->b∉ch->s.heap.get? b=some o->H b=none->∃sl,h'.get? b=some { o with slots:=sl }) (free:∀b o,b∉ch->s.heap.get? b=some o->H b=none->H' b=none)
  (there:∀b o,b∉ch->s.heap.get? b=some o->∃o',h'.get? b=some o')
  (tups:∀b xs,H b=some (.tup xs)->H' b=some (.tup xs)) (frzs:∀b o u,H b=some (.frz o u)->H' b=some (.frz o u)) (tbls:∀b ps,H b=some (.tbl ps)->∃more,H' b=some (.tbl (ps++more)))
  (ns:∀m,s.heap.Ns X.env.locals m->h'.Ns X.env.locals m) (hok:uj X.prog X.w t' H' h') (hg:AllBare g') (hk:s.toks<=t') :
  bH X ak σ H' { s with heap:=h',gens:=g',drawn:=d',toks:=t' }:=by
 have neL:∀b o,X.s₀.heap.get? b=some o->b≠X.env.locals:=fun b o e=>a9 (aL (aJ e) I.ok.above)
 have neC:∀b o,X.s₀.heap.get? b=some o->b∉X.ex->b∉ch:=fun b o e hx hb=>by
  rcases(Fu b hb).1 with z|z
  ·exact hx z
  ·exact absurd (aL (aJ e) z) (dJ _)
 have cellK:∀x c,X.env.cells.lookup x=some c->∀v,s.heap.IsCell c v->h'.IsCell c v:=fun x c e v zq=>by
  obtain⟨o,ho,hd⟩:=zq
  have nch:c∉ch:=fun z=>(Fu c z).2.2.1 x c e rfl
  by_cases hc:c∈X.fs
  ·obtain⟨sl,q⟩:=slot c o (I.cne x c e) hc nch ho (I.freeC x c e)
   exact⟨_,q,hd⟩
  ·exact⟨o,keep c o (I.cne x c e) hc nch ho (I.freeC x c e),hd⟩
 refine⟨I.ok,I.os,hg,⟨fun b o e n hb hx=>?_,fun b o e n hb hx=>?_,fun b o e n hx=>?_,fun b o e hx=>?_,fun b xs e=>tups b xs (I.base.tups b xs e),fun b o xs e=>frzs b o xs (I.base.frzs b o xs e),fun b ps e=>?_⟩,?_,fun x c e=>?_,?_,fun x c e=>?_,fun p hp=>?_,hok,I.len,aL I.pos hk,aN I.tk hk⟩
 ·exact keep b o (neL b o e) hb (neC b o e hx) (I.base.keep b o e n hb hx) (I.base.free b o e n hx)
 ·obtain⟨sl,e1⟩:=I.base.slot b o e n hb hx
  obtain⟨sl',e2⟩:=slot b _ (neL b o e) hb (neC b o e hx) e1 (I.base.free b o e n hx)
  exact⟨sl',e2⟩
 ·obtain⟨o',e1⟩:=I.base.there b o e hx
  exact free b o' (neC b o e hx) e1 (I.base.free b o e n hx)
 ·obtain⟨o',e1⟩:=I.base.there b o e hx
  exact there b o' (neC b o e hx) e1
 ·obtain⟨m1,e1⟩:=I.base.tbls b ps e
  obtain⟨m2,e2⟩:=tbls b _ e1
  exact⟨m1++m2,by rw[e2,Array.append_assoc]⟩
 ·obtain⟨m,hn,hl⟩:=I.loc
  refine⟨m,ns m hn,fun i x v e1 e2 e3=>?_⟩
  obtain⟨u,r,l⟩:=hl i x v e1 e2 e3
  refine⟨u,r.up hk,?_⟩
  rcases l with l|⟨k,c,e,z⟩
  ·exact .inl l
  ·exact .inr ⟨k,c,e,cellK x c e _ z⟩
 ·obtain⟨v,z⟩:=I.cell x c e
  exact⟨v,cellK x c e v z⟩
 ·obtain⟨m,⟨o,_,_,ho,_⟩,_⟩:=I.loc
  exact free _ o (fun z=>(Fu _ z).2.1 rfl) ho I.free
 ·obtain⟨v,o,ho,hd⟩:=I.cell x c e
  exact free c o (fun z=>(Fu c z).2.2.1 x c e rfl) ho (I.freeC x c e)
 ·obtain⟨e,n,ne,nf,d⟩:=I.pin p hp
  have nch:p.1∉ch:=fun z=>(Fu p.1 z).2.2.2 p hp rfl
  exact⟨keep p.1 p.2 ne nf nch e n,free p.1 p.2 nch e n,ne,nf,d⟩
theorem bH.un{t':Nat}(I:bH X ak σ H s)(u:Un X.fs [] H H' s.heap h')(hok:uj X.prog X.w t' H' h')(hk:s.toks<=t':=by first|exact aA _|exact bn _|assumption|omega):bH X ak σ H' { s with heap:=h',toks:=t' }:=by
 obtain⟨m,⟨o,es,ep,ho,r⟩,_⟩:=id I.loc
 obtain⟨sl,hL⟩:=u.any ho I.free #[15]
 exact I.step (g':=s.gens) (d':=s.drawn) (ch:=[]) (fun _ z=>nomatch z) (fun b o _ hb _ e n=>u.keep b o e n hb #[15]) (fun b o _ hb _ e n=>u.slot b o e n hb #[15]) (fun b o _ e n=>u.free b o e n #[15]) (fun b o _ e=>u.there b o e #[15]) u.tups u.frzs u.tbls (fun m' hm=>by
  obtain⟨o',es',ep',ho',r'⟩:=hm
  rw[ho]at ho';cases ho'
  exact⟨_,es',ep',hL,r'⟩) hok I.bare hk
theorem bH.call{g':Array GenState}{t':Nat}{d':Drawn}{ch:List Addr}(I:bH X ak σ H s)(u:Un (sN X.stack) ch H H' s.heap h')(hok:uj X.prog X.w t' H' h')(hg:AllBare g')
  (Fu:∀b∈ch,(b∈X.ex\/X.s₀.heap.objs.size<=b)/\b≠X.env.locals/\(∀x c,X.env.cells.lookup x=some c->c≠b)/\∀p∈X.pn++ak,p.1≠b) (hk:s.toks<=t') :
  bH X ak σ H' { s with heap:=h',gens:=g',drawn:=d',toks:=t' }:=by
 obtain⟨m,⟨o,es,ep,ho,r⟩,_⟩:=id I.loc
 obtain⟨sl,hL⟩:=u.any ho I.free fun z=>(Fu _ z).2.1 rfl
 exact I.step (ch:=ch) Fu (fun b o hL hb hc e n=>u.keep b o e n (fun z=>(aX.mp (I.stkSub b z)).elim hL hb) hc) (fun b o _ _ hc e n=>u.any e n hc) (fun b o hc e n=>u.free b o e n hc) (fun b o hc e=>u.there b o e hc) u.tups u.frzs u.tbls (fun m' hm=>by
  obtain⟨o',es',ep',ho',r'⟩:=hm
  rw[ho]at ho';cases ho'
  exact⟨_,es',ep',hL,r'⟩) hok hg hk
theorem bH.turned{t':Nat}{it:Addr}(I:bH X ak σ H s)(k:∀b o,b≠it->s.heap.get? b=some o->h'.get? b=some o)(hn:H it=none)(hL:it≠X.env.locals)
  (h1:it∈X.ex\/X.s₀.heap.objs.size<=it) (h2:∀x c,X.env.cells.lookup x=some c->c≠it) (h3:∀p∈X.pn++ak,p.1≠it) (hk:s.toks<=t':=by first|exact aA _|exact bn _|assumption|omega):bH X ak σ H { s with heap:=h',toks:=t' }:=by
 have nit:∀b u,H b=some u->b≠it:=fun b u e z=>by rw[z,hn]at e;cases e
 refine I.step (g':=s.gens) (d':=s.drawn) (ch:=[it]) (fun b hb=>?_) (fun b o _ _ hc e _=>k b o (fun z=>hc (by simp[z])) e) (fun b o _ _ hc e _=>⟨o.slots,k b o (fun z=>hc (by simp[z])) e⟩) (fun _ _ _ _ n=>n)
  (fun b o hc e=>⟨o,k b o (fun z=>hc (by simp[z])) e⟩) (fun _ _ e=>e) (fun _ _ _ e=>e) (fun b ps e=>⟨#[],by rw[e];simp⟩) (fun m hm=>?_) (fun b u e=>?_) I.bare hk
 ·have e:b=it:=by simpa using hb
  subst e
  exact⟨h1,hL,h2,h3⟩
 ·obtain⟨o,es,ep,ho,r⟩:=hm
  exact⟨o,es,ep,k _ o (Ne.symm hL) ho,r⟩
 ·refine((I.hok b u e).up hk).stay (fun c v hc q=>k c v ?_ q) (fun _ q=>q) fun _ _ q=>q
  rcases hc with z|z
  ·rw[z];exact nit b u e
  ·exact nit c _ z
theorem bH.tok(I:bH X ak σ H s)(t:Nat)(hk:s.toks<=t:=by first|exact aA _|exact bn _|assumption|omega):bH X ak σ H { s with toks:=t }:=I.un (h':=s.heap) (t':=t) Un.refl (I.hok.up hk) hk
theorem bH.kept{t':Nat}(I:bH X ak σ H s)(k:∀b u,s.heap.get? b=some u->h'.get? b=some u)(hk:s.toks<=t':=by first|exact aA _|exact bn _|assumption|omega):bH X ak σ H { s with heap:=h',toks:=t' }:=I.un (Un.kept k) ((I.hok.kept k).up hk) hk
theorem bH.laid{a:Addr}{o:HO}{t':Nat}(I:bH X ak σ H s)(k:∀b u,s.heap.get? b=some u->h'.get? b=some u)(hp:s.heap.objs.size<=a)(new:gZ X.prog X.w t' (fU H a o) h' a o)(hk:s.toks<=t':=by first|exact aA _|exact bn _|assumption|omega) :
  bH X ak σ (fU H a o) { s with heap:=h',toks:=t' }:=I.un (Un.laid k hp (I.hok.fresh hp)) ((I.hok.up hk).laid k hp new) hk
theorem bH.write{x e:Addr}{o:HO}(I:bH X ak σ H s)(mu:Uk (H x))(he:e=x\/H e=some (.own x))(k:∀b u,b≠e->s.heap.get? b=some u->h'.get? b=some u)(KH:∃u,h'.get? e=some u)
  (new:gZ X.prog X.w t' (fU H x o) h' x o) (hk:s.toks<=t':=by first|exact aA _|exact bn _|assumption|omega):bH X ak σ (fU H x o) { s with heap:=h',toks:=t' }:=I.un (Un.write mu he k KH) ((I.hok.up hk).write mu he k KH new) hk
theorem bH.pins_of{pins':List (Addr×Obj)}(I:bH X ak σ H s)(h:∀p∈pins',s.heap.get? p.1=some p.2/\H p.1=none/\p.1≠X.env.locals/\p.1∉X.fs/\∀v,p.2.data≠.cell v):bH X pins' σ H s:=
 ⟨I.ok,I.os,I.bare,I.base,I.loc,I.cell,I.free,I.freeC,fun p hp=>(aV.mp hp).elim (fun z=>I.pin p (bA _ z)) (h p),I.hok,I.len,I.pos,I.tk⟩
theorem v9{N:List Str}(hN:N.Nodup)(a:N[i]?=some x)(b:N[j]?=some x):i=j:=by
 obtain⟨h1,e1⟩:=ax.mp a
 obtain⟨h2,e2⟩:=ax.mp b
 exact(List.getElem_inj hN).mp (e1.trans e2.symm)
theorem Fy{M:Model}{A:Around}{E:Value->Shared->Prop}{v:V}{Q:Unit->Shared->Prop}(I:bH X ak σ H s)(hN:X.N.Nodup)(hi:X.N[i]?=some x)(hx:Kw X.env.scope x)(r:dz s.toks v u)
  (h:∀s',bH X ak (σ.set i (some v)) H s'->(∃a,Heap.SameBut a s.heap s'.heap/\(a=X.env.locals\/X.env.cells.lookup x=some a))->Q () s') (hf:X.fn x=true\/X.env.scope.names.lookup x=some .local:=by first|exact .inl rfl|exact .inr rfl|assumption):wpAny M A (storeName X.env x u) Q E s:=by
 obtain⟨m,hn,hl⟩:=id I.loc
 have Kn:(X.env.scope.kind==.class||(X.env.scope.kind==.module&&X.env.locals != X.env.globals))=false:=by rw[I.ok.kind];rfl
 have hiσ:i<σ.length:=by rw[I.len];exact(ax.mp hi).1
 have cne:=I.cne
 have tracked:∀{a:Addr} {h':Heap},(∃o,s.heap.get? a=some o/\H a=none)->Heap.SameBut a s.heap h'->uj X.prog X.w s.toks H h':=fun{a h'} ha hs b ob e=>by
  obtain⟨_,_,hfree⟩:=ha
  refine(I.hok b ob e).stay (fun c w' hc q=>(hs.2 c ?_).trans q) (fun _ q=>q) fun _ _ q=>q
  rintro rfl
  rcases hc with rfl|hc
  ·rw[hfree]at e;cases e
  ·rw[hfree]at hc;cases hc
 rcases hx with hk|hk
 ·refine pT hk hn (fun h' T7 hs=>?_) Kn
  obtain⟨oL,_,_,hoL,_⟩:=id hn
  refine h { s with heap:=h',toks:=s.toks+1 } ⟨I.ok,I.os,I.bare,⟨fun b o e n hb hx=>?_,fun b o e n hb hx=>?_,I.base.free,fun b o e hx=>?_,I.base.tups,I.base.frzs,I.base.tbls⟩,⟨_,T7,fun j y v' e1 e2 e3=>?_⟩,fun y c e=>?_,I.free,I.freeC,fun p hp=>?_,(tracked ⟨oL,hoL,I.free⟩ hs).up (bn _),by simpa using I.len,Nat.succ_pos _,iF I.tk⟩ ⟨_,hs,.inl rfl⟩
  ·exact(hs.2 b (a9 (aL (aJ e) I.ok.above))).trans (I.base.keep b o e n hb hx)
  ·obtain⟨sl,e1⟩:=I.base.slot b o e n hb hx
   exact⟨sl,(hs.2 b (a9 (aL (aJ e) I.ok.above))).trans e1⟩
  ·obtain⟨o',e1⟩:=I.base.there b o e hx
   exact⟨o',(hs.2 b (a9 (aL (aJ e) I.ok.above))).trans e1⟩
  ·by_cases hj:j=i
   ·subst hj
    rw[hi]at e1;cases e1
    rw[b8 hiσ]at e2
    cases e2
    exact⟨u,r.up (bn _),.inl ⟨hk,by simp⟩⟩
   ·rw[cL (Ne.symm hj)]at e2
    obtain⟨u',r',q⟩:=hl j y v' e1 e2 e3
    refine⟨u',r'.up (bn _),?_⟩
    rcases q with⟨k,e⟩|⟨k,c,e,z⟩
    ·refine .inl ⟨k,?_⟩
     have:y≠x:=fun e=>hj (v9 hN e1 (e▸hi))
     simp[this,e]
    ·exact .inr ⟨k,c,e,z.sameBut hs (cne y c e)⟩
  ·obtain⟨w',z⟩:=I.cell y c e
   exact⟨w',z.sameBut hs (cne y c e)⟩
  ·obtain⟨e,n,ne,nf,d⟩:=I.pin p hp
   exact⟨(hs.2 p.1 ne).trans e,n,ne,nf,d⟩
 ·have hfn:X.fn x=true:=by
   rcases hf with z|z
   ·exact z
   ·rw[z]at hk;cases hk
  obtain⟨c,hc⟩:=I.ok.has x (.inl hk)
  obtain⟨w',z⟩:=I.cell x c hc
  refine wpAny_storeName_cell I.ok.kind hk hc z (fun h' hc' hs=>?_)
  obtain⟨oc,hoc,hocd⟩:=id z
  refine h { s with heap:=h' } ⟨I.ok,I.os,I.bare,⟨fun b o e n hb hx=>?_,fun b o e n hb hx=>?_,I.base.free,fun b o e hx=>?_,I.base.tups,I.base.frzs,I.base.tbls⟩,⟨m,hn.sameBut hs (Ne.symm (cne x c hc)),fun j y v' e1 e2 e3=>?_⟩,fun y c' e=>?_,I.free,I.freeC,fun p hp=>?_,tracked ⟨oc,hoc,I.freeC x c hc⟩ hs,by simpa using I.len,I.pos,I.tk⟩ ⟨c,hs,.inr hc⟩
  ·exact(hs.2 b (a9 (aL (aJ e) (I.ok.cab x c hfn hc)))).trans (I.base.keep b o e n hb hx)
  ·obtain⟨sl,e1⟩:=I.base.slot b o e n hb hx
   exact⟨sl,(hs.2 b (a9 (aL (aJ e) (I.ok.cab x c hfn hc)))).trans e1⟩
  ·obtain⟨o',e1⟩:=I.base.there b o e hx
   exact⟨o',(hs.2 b (a9 (aL (aJ e) (I.ok.cab x c hfn hc)))).trans e1⟩
  ·by_cases hj:j=i
   ·subst hj
    rw[hi]at e1;cases e1
    rw[b8 hiσ]at e2
    cases e2
    exact⟨u,r,.inr ⟨.inl hk,c,hc,hc'⟩⟩
   ·rw[cL (Ne.symm hj)]at e2
    obtain⟨u',r',q⟩:=hl j y v' e1 e2 e3
    refine⟨u',r',?_⟩
    rcases q with q|⟨k,c',e,z'⟩
    ·exact .inl q
    ·refine .inr ⟨k,c',e,z'.sameBut hs ?_⟩
     rintro rfl
     exact hj (v9 hN e1 (I.ok.inj _ _ _ e hc▸hi))
  ·by_cases hcc:c'=c
   ·subst hcc;exact⟨_,hc'⟩
   ·obtain⟨w2,z2⟩:=I.cell y c' e
    exact⟨w2,z2.sameBut hs hcc⟩
  ·obtain⟨e,n,ne,nf,d⟩:=I.pin p hp
   refine⟨(hs.2 p.1 ?_).trans e,n,ne,nf,d⟩
   intro q
   rw[q,hoc]at e
   have q':oc=p.2:=bf e
   exact d w' (by rw[<- q'];exact hocd)
theorem v_{M:Model}{A:Around}{E:Value->Shared->Prop}{v:V}{Q:Unit->Shared->Prop}(I:bH X ak σ H s)(hN:X.N.Nodup)(hi:X.N[i]?=some x)(hx:Kw X.env.scope x)(r:dz s.toks v u)
  (h:∀s',bH X ak (σ.set i (some v)) H s'->Q () s') (hf:X.fn x=true\/X.env.scope.names.lookup x=some .local:=by first|exact .inl rfl|exact .inr rfl|assumption):wpAny M A (storeName X.env x u) Q E s:=
 Fy I hN hi hx r (fun s' I' _=>h s' I') hf
theorem bH.call'{s':Shared}{ch:List Addr}(I:bH X ak σ H s)(ho:s'.os=s.os)(u:Un (sN X.stack) ch H H' s.heap s'.heap)(hok:uj X.prog X.w s'.toks H' s'.heap)(hg:AllBare s'.gens)
  (Fu:∀b∈ch,(b∈X.ex\/X.s₀.heap.objs.size<=b)/\b≠X.env.locals/\(∀x c,X.env.cells.lookup x=some c->c≠b)/\∀p∈X.pn++ak,p.1≠b) (hk:s.toks<=s'.toks):bH X ak σ H' s':=by
 obtain⟨h',g',d',t',o'⟩:=s'
 have e:o'=s.os:=ho
 subst e
 exact I.call (g':=g') (t':=t') (d':=d') u hok hg Fu hk
end
abbrev XK:=Value->Option Addr->Hp->Prop
abbrev St:=List (Option V)
abbrev VK:=V->Hp->Prop
abbrev TE:=St->Hp->VK->Prop
abbrev TT:=St->Hp->(Bool->Hp->Prop)->Prop
abbrev TA:=St->Hp->(List V->Hp->Prop)->Prop
structure zv where
 nx:St->Hp->Prop
 rt:VK
 bk:St->Hp->Prop:=fun _ _=>False
 ct:St->Hp->Prop:=fun _ _=>False
abbrev TS:=zv->St->Hp->Prop
def EP(X:Cx)(ak:List (Addr×Obj))(σ:St)(Q:VK)(u:Value)(s':Shared):Prop:=∃v H',bH X ak σ H' s'/\dz s'.toks v u/\Q v H'
def TP(X:Cx)(ak:List (Addr×Obj))(σ:St)(Q:Bool->Hp->Prop)(b:Bool)(s':Shared):Prop:=∃H',bH X ak σ H' s'/\Q b H'
def AP(X:Cx)(ak:List (Addr×Obj))(σ:St)(Q:List V->Hp->Prop)(us:List Value)(s':Shared):Prop:=∃vs H',bH X ak σ H' s'/\cK s'.toks vs us/\Q vs H'
def SP(X:Cx)(ak:List (Addr×Obj))(D:zv)(f:Flow)(s':Shared):Prop:=
 match f with
 |.next=>∃σ' H',bH X ak σ' H' s'/\D.nx σ' H'
 |.brk=>∃σ' H',bH X ak σ' H' s'/\D.bk σ' H'
 |.cont=>∃σ' H',bH X ak σ' H' s'/\D.ct σ' H'
 |.ret u=>∃v σ' H',bH X ak σ' H' s'/\dz s'.toks v u/\D.rt v H'
def PE(X:Cx)(e:Expr)(t:TE):Prop:=
 ∀(ak:List (Addr×Obj)) (s:Shared) (σ:St) (H:Hp) (Q:VK),bH X ak σ H s->t σ H Q->wpAny #[4] X.A (eval e X.env) (EP X ak σ Q) X.xe s
def PT(X:Cx)(e:Expr)(t:TT):Prop:=
 ∀(ak:List (Addr×Obj)) (s:Shared) (σ:St) (H:Hp) (Q:Bool->Hp->Prop),bH X ak σ H s->t σ H Q->wpAny #[4] X.A (isTrue e X.env (eval e X.env)) (TP X ak σ Q) X.xe s
def PW(X:Cx)(e:Expr)(t:TT):Prop:=
 ∀(whole:Sem Value) (ak:List (Addr×Obj)) (s:Shared) (σ:St) (H:Hp) (Q:Bool->Hp->Prop),bH X ak σ H s->t σ H Q->wpAny #[4] X.A (isTrue e X.env whole) (TP X ak σ Q) X.xe s
theorem PW.pt{X:Cx}{t:TT}(h:PW X e t):PT X e t:=h _
def PA(X:Cx)(es:List Expr)(t:TA):Prop:=
 ∀(pos:Pos) (ak:List (Addr×Obj)) (s:Shared) (σ:St) (H:Hp) (Q:List V->Hp->Prop),bH X ak σ H s->t σ H Q->wpAny #[4] X.A (spliced (backTo pos (starEach es X.env))) (AP X ak σ Q) X.xe s
def PS(X:Cx)(st:Stmt)(t:TS):Prop:=
 ∀(ak:List (Addr×Obj)) (s:Shared) (σ:St) (H:Hp) (D:zv),bH X ak σ H s->t D σ H->wpAny #[4] X.A (exec st X.env) (SP X ak D) X.xe s
def Fz(X:Cx)(st:List Stmt)(t:TS):Prop:=
 ∀(ak:List (Addr×Obj)) (s:Shared) (σ:St) (H:Hp) (D:zv),bH X ak σ H s->t D σ H->wpAny #[4] X.A (execs st X.env) (SP X ak D) X.xe s
theorem kr{t:Sem α}{Q Q':α->Shared->Prop}(h:wpAny M A t Q E s)(hQ:∀a s',s.toks<=s'.toks->Q a s'->Q' a s'):wpAny M A t Q' E s:=
 up (jF h (fun a s' q k=>hQ a s' k q) fun _ _ x _=>x)
theorem C3{t:Sem α}{Q Q':α->Shared->Prop}(h:wpAny M A t Q E s)(hQ:∀a s,Q a s->Q' a s):wpAny M A t Q' E s:=jF h hQ fun _ _ x=>x
end L2
variable{X:L2.Cx}{σ:L2.St}{te:L2.TE}{r:L2.V->List L2.V->L2.Hp->L2.VK->Prop}
namespace L2
open PySem PySem.Spec PyProof.Rows
section
def Rc(i:Nat):TE:=fun σ H Q=>∃v,σ[i]?=some (some v)/\Q v H
def tC(v:V):TE:=fun _ H Q=>Q v H
theorem NU{pos:Pos}(hN:X.N[i]?=some x)(hv:Rb X.env.scope x)(hd:(x==("__debug__":Str))=false:=by decide)(C2:(x==("__classdict__":Str))=false:=by decide):PE X (.Name x pos) (Rc i):=by
 intro ak s σ H Q I h
 obtain⟨v,e,h⟩:=h
 obtain⟨m,hn,hl⟩:=I.loc
 obtain⟨u,r,l⟩:=hl i x v hN e hv
 have kQ:EP X ak σ Q u s:=⟨v,H,I,r,h⟩
 rcases l with⟨hk,hm⟩|⟨hk,c,hc,iE⟩
 ·exact wpAny_Name (wpAny_loadName_local I.ok.kind hk hn hm kQ) hd
 ·rcases hk with hk|hk
  ·exact wpAny_Name (wpAny_loadName_cell I.ok.kind hk hc iE kQ) hd
  ·exact wpAny_Name (wpAny_loadName_free I.ok.kind hk hc iE kQ C2) hd
theorem NV{i j pos}:PE X (.Constant (.int i) j pos) (tC (.int i)):=fun _ _ _ H _ I h=>wpAny_Constant_int ⟨.int i,H,I.tok _,⟨_,rfl⟩,h⟩
theorem Re{b j pos}:PE X (.Constant (.bool b) j pos) (tC (.bl b)):=fun _ _ _ H _ I h=>Constant_bool ⟨.bl b,H,I,rfl,h⟩
theorem NW{j pos}:PE X (.Constant .none j pos) (tC .non):=fun _ _ _ H _ I h=>rP ⟨.non,H,I,rfl,h⟩
theorem bH.tkS(I:bH X ak σ H s):dz (s.toks+1) (.str x) (.str x s.toks):=⟨⟨s.toks,fun _=>⟨I.pos,cb _⟩⟩,rfl⟩
theorem NX{x j pos}:PE X (.Constant (.str x) j pos) (tC (.str x)):=fun _ _ _ H _ I h=>Calls.Constant_str ⟨.str x,H,I.tok _,I.tkS,h⟩
def Gl(X:Cx)(x:Str):Prop:=X.env.kindOf x=some .globalImplicit
theorem sO{E:Value->Shared->Prop}{pos:Pos}(I:bH X ak σ H s)(hg:Gl X x)(hm:X.mg x=some u)(h:Q u s)
  (hd:(x==("__debug__":Str))=false:=by decide):wpAny #[4] X.A (eval (.Name x pos) X.env) Q E s:=
 mE I.ok.kind hg (Calls.loadGlobal_global (by rw[I.ok.glob];exact I.mod.glob.keeps I.bk) hm h) hd
theorem p5{E:Value->Shared->Prop}{pos:Pos}(I:bH X ak σ H s)(hg:Gl X x)(hm:X.mg x=none)(hv:bootBuiltins x=some u)(h:Q u s)
  (hn:x ≠ "__name__":=by decide) (hd:(x==("__debug__":Str))=false:=by decide):wpAny #[4] X.A (eval (.Name x pos) X.env) Q E s:=by
 obtain⟨mb,h1,h2⟩:=I.mod.blt
 exact mE I.ok.kind hg (Calls.loadGlobal_builtin (by rw[I.ok.glob];exact I.mod.glob.keeps I.bk) hm (by rw[I.ok.blt];exact h1.keeps I.bk) ((h2 x hn).trans hv) h) hd
theorem zw{v:V}{pos:Pos}(hg:Gl X x)(hm:X.mg x=some u)(r:dz 0 v u)(hd:(x==("__debug__":Str))=false:=by decide):PE X (.Name x pos) (tC v):=
 fun _ _ _ H _ I h=>sO I hg hm ⟨v,H,I,r.up (bY _),h⟩ hd
theorem EF{v:V}{pos:Pos}(hg:Gl X x)(hm:X.mg x=none)(hv:bootBuiltins x=some u)(r:dz 0 v u)(hn:x ≠ "__name__":=by decide)(hd:(x==("__debug__":Str))=false:=by decide):PE X (.Name x pos) (tC v):=
 fun _ _ _ H _ I h=>p5 I hg hm hv ⟨v,H,I,r.up (bY _),h⟩ hn hd
variable{a b:Expr}{ta tb:TE}
def PC(X:Cx)(op:CmpOp)(a b:Expr)(t:TE):Prop:=
 ∀(ak:List (Addr×Obj)) (s:Shared) (σ:St) (H:Hp) (Q:VK),bH X ak σ H s->t σ H Q ->
  wpAny #[4] X.A (eval a X.env) (fun v s₁=>wpAny #[4] X.A (eval b X.env) (fun u s₂=>wpAny #[4] X.A (compareOp op v u) (EP X ak σ Q) X.xe s₂) X.xe s₁) X.xe s
theorem A9(b:Expr)(h:op≠.In)(h2:op≠.NotIn):behindInMarks op b=false:=by
 have e1:(op==CmpOp.In)=false:=by cases op<;>first|rfl|exact absurd rfl h
 have e2:(op==CmpOp.NotIn)=false:=by cases op<;>first|rfl|exact absurd rfl h2
 cases b<;>simp[behindInMarks,e1,e2]
def Rf(ta:TE):TE:=fun σ H Q=>ta σ H fun x H1=>Q (.bl (decide (x=.non))) H1
def Mo(ta:TE):TE:=fun σ H Q=>ta σ H fun x H1=>Q (.bl (!decide (x=.non))) H1
theorem dz.none_iff{x:V}(r:dz nk x v):(v==Value.none)=decide (x=.non):=by
 cases x with
 |non=>cases r;rfl
 |bl _=>cases r;rfl
 |int _=>obtain⟨t,rfl⟩:=r;rfl
 |str _=>obtain⟨t,rfl⟩:=r;rfl
 |byt _=>obtain⟨t,rfl⟩:=r;rfl
 |flt _=>obtain⟨t,rfl⟩:=r;rfl
 |ref _=>cases r;rfl
 |ty _=>cases r;rfl
theorem GR{j i9}(ha:PE X a ta):PC X .Is a (.Constant .none j i9) (Rf ta):=by
 intro ak s σ H Q I h
 refine kr (ha ak s σ H _ I h) fun v s1 kt1 zq=>?_
 obtain⟨x,H1,I1,r1,q1⟩:=zq
 exact rP (is_none_gen ⟨.bl _,H1,I1,by rw[r1.none_iff];rfl,q1⟩)
theorem KM{j i9}(ha:PE X a ta):PC X .IsNot a (.Constant .none j i9) (Mo ta):=by
 intro ak s σ H Q I h
 refine kr (ha ak s σ H _ I h) fun v s1 kt1 zq=>?_
 obtain⟨x,H1,I1,r1,q1⟩:=zq
 exact rP (isnot_none_gen ⟨.bl _,H1,I1,by rw[r1.none_iff];rfl,q1⟩)
def tB(t:TE):TT:=fun σ H Q=>t σ H fun x H1=>∃c,x=.bl c/\Q c H1
theorem NY{t:TE}(h:PC X op a b t)(h1:behindInMarks op b=false:=by first|exact A9 _ #[3] #[3]|rfl):PE X (.Compare a [op] [b] pos) t:=fun ak s σ H Q I hw=>wpAny_Compare1 (h ak s σ H Q I hw) h1
theorem GS{t:TE}(h:PC X op a b t)(h1:behindInMarks op b=false:=by first|exact A9 _ #[3] #[3]|rfl):PT X (.Compare a [op] [b] pos) (tB t):=by
 intro ak s σ H Q I hw
 refine pU (C3 (h ak s σ H _ I hw) fun v s1 h1=>C3 h1 fun u s2 h2=>C3 h2 fun c s3 ⟨x,H1,I1,r1,q1⟩=>?_) h1
 obtain⟨d,rfl,q⟩:=q1
 cases r1
 exact iG ⟨H1,I1,q⟩
theorem NZ{t:TE}(h:PE X e t)(he:∀whole,isTrue e X.env whole=(do let v <- whole;standAt e.pos;holding [v] (truthy v)):=by intro _;rfl):PT X e (tB t):=by
 intro ak s σ H Q I hw
 refine isTrue_plain (kr (h ak s σ H _ I hw) fun v s1 kt1 ⟨x,H1,I1,r1,q1⟩=>?_) (he _)
 obtain⟨d,rfl,q⟩:=q1
 cases r1
 exact iG ⟨H1,I1,q⟩
variable{tA T6:TT}{gK:List Expr}
def UP(t u:TT):TT:=fun σ H Q=>t σ H fun c H1=>if c=true then u σ H1 Q else Q false H1
def Wg(t u:TT):TT:=fun σ H Q=>t σ H fun c H1=>if c=true then Q true H1 else u σ H1 Q
def UQ(t:TT):TT:=fun σ H Q=>t σ H fun c H1=>Q (!c) H1
theorem KN(ha:PT X a tA):PW X (.BoolOp .And [a] pos) tA:=by
 intro wh ak s σ H Q I h
 refine isTrue_and (C3 (ha ak s σ H Q I h) fun c s1 e=>?_)
 cases c with
 |true=>exact isTrue_and_nil e
 |false=>exact e
theorem N0(ha:PT X a tA):PW X (.BoolOp .Or [a] pos) tA:=by
 intro wh ak s σ H Q I h
 refine isTrue_or (C3 (ha ak s σ H Q I h) fun c s1 e=>?_)
 cases c with
 |false=>exact isTrue_or_nil e
 |true=>exact e
theorem N1(ha:PT X a tA)(hb:PW X (.BoolOp .And (b::gK) pos) T6):PW X (.BoolOp .And (a::b::gK) pos) (UP tA T6):=by
 intro wh ak s σ H Q I h
 refine isTrue_and (kr (ha ak s σ H _ I h) fun c s1 kt1 zq=>?_)
 obtain⟨H1,I1,q1⟩:=zq
 cases c with
 |true=>exact hb wh ak s1 σ H1 Q I1 q1
 |false=>exact⟨H1,I1,q1⟩
theorem Rg(ha:PT X a tA)(hb:PW X (.BoolOp .Or (b::gK) pos) T6):PW X (.BoolOp .Or (a::b::gK) pos) (Wg tA T6):=by
 intro wh ak s σ H Q I h
 refine isTrue_or (kr (ha ak s σ H _ I h) fun c s1 kt1 zq=>?_)
 obtain⟨H1,I1,q1⟩:=zq
 cases c with
 |true=>exact⟨H1,I1,q1⟩
 |false=>exact hb wh ak s1 σ H1 Q I1 q1
theorem N2(ha:PT X a tA):PT X (.UnaryOp .Not a pos) (UQ tA):=by
 intro ak s σ H Q I h
 exact isTrue_not (ha ak s σ H (fun c H1=>Q (!c) H1) I h)
def Rh(ta tb:TE):TE:=fun σ H Q=>ta σ H fun x H1=>∃c,x=.bl c/\if c=true then tb σ H1 Q else Q (.bl false) H1
def Ri(ta:TE):TE:=fun σ H Q=>ta σ H fun x H1=>∃c,x=.bl c/\Q (.bl (!c)) H1
theorem N3{op}{t:TE}(h:PE X a t):PE X (.BoolOp op [a] pos) t:=fun ak s σ H Q I hw=>BoolOp_one (h ak s σ H Q I hw)
theorem N4(ha:PE X a ta)(hb:PE X (.BoolOp .And (b::gK) pos) tb):PE X (.BoolOp .And (a::b::gK) pos) (Rh ta tb):=by
 intro ak s σ H Q I h
 refine BoolOp_and (kr (ha ak s σ H _ I h) fun v s1 kt1 zq=>?_)
 obtain⟨x,H1,I1,r1,q1⟩:=zq
 obtain⟨c,rfl,q1⟩:=q1
 cases r1
 refine iG ?_
 cases c with
 |true=>exact hb ak s1 σ H1 Q I1 q1
 |false=>exact⟨.bl false,H1,I1,rfl,q1⟩
theorem N5(ha:PE X a ta):PE X (.UnaryOp .Not a pos) (Ri ta):=by
 intro ak s σ H Q I h
 refine UnaryOp_ (kr (ha ak s σ H _ I h) fun v s1 kt1 zq=>?_)
 obtain⟨x,H1,I1,r1,q1⟩:=zq
 obtain⟨c,rfl,q1⟩:=q1
 cases r1
 exact not_of (iG ⟨.bl (!c),H1,I1,rfl,q1⟩)
def Wh(t:TT)(ta tb:TE):TE:=fun σ H Q=>t σ H fun c H1=>if c=true then ta σ H1 Q else tb σ H1 Q
theorem GT(hc:PT X c tA)(ha:PE X a ta)(hb:PE X b tb):PE X (.IfExp c a b pos) (Wh tA ta tb):=by
 intro ak s σ H Q I h
 refine wpAny_IfExp (kr (hc ak s σ H _ I h) fun d s1 kt1 zq=>?_)
 obtain⟨H1,I1,q1⟩:=zq
 cases d with
 |true=>exact ha ak s1 σ H1 Q I1 q1
 |false=>exact hb ak s1 σ H1 Q I1 q1
end
end L2
namespace L2
open PySem PySem.Spec PyProof.Rows
def um(K:Frag)(H:Hp)(a:Addr)(xs:List V):Prop:=
 Rd H a (.lst xs) \/
  ∃(o:Obj) (bN:Array Value) (n:Nat),K.lookup a=some o/\o.cls=.type "list"/\o.dict=none/\o.data=.seq bN n/\bN.size<=sizeLine/\cK 0 xs bN.toList
def gy(K:Frag)(H:Hp)(a:Addr)(xs:List V):Prop:=
 Rd H a (.tup xs) \/
  ∃(o:Obj) (bN:Array Value) (n:Nat),K.lookup a=some o/\o.cls=.type "tuple"/\o.data=.seq bN n/\bN.size<=sizeLine/\cK 0 xs bN.toList
def UR:Value->Option V
 |.none=>some .non
 |.bool b=>some (.bl b)
 |.int i _=>some (.int i)
 |.str x _=>some (.str x)
 |.bytes b _=>some (.byt b)
 |.float b _=>some (.flt b)
 |.ref a=>some (.ref a)
 |.type n=>some (.ty n)
 |_=>none
theorem dz.abs{x:V}(r:dz nk x u):UR u=some x:=by
 cases x with
 |non=>cases r;rfl
 |bl _=>cases r;rfl
 |int _=>obtain⟨t,rfl⟩:=r;rfl
 |str _=>obtain⟨t,rfl⟩:=r;rfl
 |byt _=>obtain⟨t,rfl⟩:=r;rfl
 |flt _=>obtain⟨t,rfl⟩:=r;rfl
 |ref _=>cases r;rfl
 |ty _=>cases r;rfl
theorem dz.inj{x y:V}(r:dz nk x u)(q:dz nk y u):x=y:=bf (r.abs.symm.trans q.abs)
theorem cK.inj:∀{xs ys:List V} {us:List Value},cK nk xs us->cK nk ys us->xs=ys
 |_,_,_,.nil,.nil=>rfl
 |_,_,_,.cons r t,.cons r' t'=>by rw[r.inj r',cK.inj t t']
section
variable{a:Addr}{ys:List V}
theorem um.of(h:H a=some (.lst xs)):um K H a xs:=.inl (.inl h)
theorem gy.of(h:H a=some (.tup xs)):gy K H a xs:=.inl (.inl h)
theorem bH.list(I:bH X ak σ H s)(h:um X.K H a xs):∃bN:List Value,cK s.toks xs bN/\PlainL s.heap a bN.toArray/\xs.length<=sizeLine:=by
 rcases h with h|⟨o,bN,n,hk,hc,hd,hs,hz,r⟩
 ·obtain⟨z,bN,n,r,e⟩:=h.ok I.hok
  exact⟨bN,r,⟨_,n,e,rfl,rfl,rfl⟩,z⟩
 ·refine⟨bN.toList,r.up (bY _),⟨o,n,I.kIn a o hk,hc,hd,by simpa using hs⟩,?_⟩
  have e:=r.length
  simp only[eF]at e
  omega
theorem bH.tuple(I:bH X ak σ H s)(h:gy X.K H a xs):∃bN:List Value,cK s.toks xs bN/\IsTup s.heap a bN.toArray/\xs.length<=sizeLine:=by
 rcases h with h|⟨o,bN,n,hk,hc,hs,hz,r⟩
 ·obtain⟨z,bN,r,p⟩:=h.ok I.hok
  exact⟨bN,r,p,z⟩
 ·refine⟨bN.toList,r.up (bY _),⟨o,I.kIn a o hk,hc,n,by simpa using hs⟩,?_⟩
  have e:=r.length
  simp only[eF]at e
  omega
theorem bH.list_inj(I:bH X ak σ H s)(h:um X.K H a xs)(h':um X.K H a ys):xs=ys:=by
 obtain⟨bN,r,⟨o,n,e,_,_,d⟩,_⟩:=I.list h
 obtain⟨its',r',⟨o',n',e',_,_,d'⟩,_⟩:=I.list h'
 rw[e]at e';cases e'
 rw[d]at d'
 injection d' with d1 _
 have:bN=its':=by simpa using ik Array.toList d1
 subst this
 exact r.inj r'
theorem bH.tuple_inj(I:bH X ak σ H s)(h:gy X.K H a xs)(h':gy X.K H a ys):xs=ys:=by
 obtain⟨bN,r,⟨o,e,_,n,d⟩,_⟩:=I.tuple h
 obtain⟨its',r',⟨o',e',_,n',d'⟩,_⟩:=I.tuple h'
 rw[e]at e';cases e'
 rw[d]at d'
 injection d' with d1 _
 have:bN=its':=by simpa using ik Array.toList d1
 subst this
 exact r.inj r'
end
section
end
section
variable{st:Stmt}{gK:List Stmt}{t u:TS}
def Rj:TS:=fun D σ H=>D.nx σ H
def US(t u:TS):TS:=fun D σ H=>t { D with nx:=u D } σ H
theorem KO:Fz X [] Rj:=fun _ _ σ H _ I h=>jw ⟨σ,H,I,h⟩
theorem GU(h1:PS X st t)(h2:Fz X gK u):Fz X (st::gK) (US t u):=by
 intro ak s σ H D I h
 refine wpAny_execs_cons (C3 (h1 ak s σ H { D with nx:=u D } I h) fun f s1 q=>?_)
 cases f with
 |next=>
  obtain⟨σ',H',I',q⟩:=q
  exact h2 ak s1 σ' H' D I' q
 |ret v=>exact q
 |brk=>exact q
 |cont=>exact q
theorem KP(h1:PS X st t):Fz X [st] t:=by
 intro ak s σ H D I h
 refine wpAny_execs_cons (C3 (h1 ak s σ H D I h) fun f s1 q=>?_)
 cases f with
 |next=>exact jw q
 |ret v=>exact q
 |brk=>exact q
 |cont=>exact q
def N6:TS:=fun D σ H=>D.bk σ H
theorem GV:PS X (.Break pos) N6:=fun _ _ σ H _ I h=>wpAny_Break ⟨σ,H,I,h⟩
theorem bH.quiet(I:bH X ak σ H s):interactive X.env=false:=by simp[interactive,I.ok.kind]
def Rk(te:TE):TS:=fun D σ H=>te σ H fun _ H1=>D.nx σ H1
theorem KQ(he:PE X e te)(hs:swapsWith e none pos.line X.env=pure false:=by rfl):PS X (.Expr e pos) (Rk te):=by
 intro ak s σ H D I h
 exact wpAny_Expr_any (kr (he ak s σ H _ I h) fun v s1 kt1 ⟨x,H1,I1,r1,q1⟩=>⟨σ,H1,I1,q1⟩) I.quiet hs
def UT(te:TE):TS:=fun D σ H=>te σ H D.rt
theorem N7(he:PE X e te):PS X (.Return (some e) pos) (UT te):=by
 intro ak s σ H D I h
 exact wpAny_Return_some (kr (he ak s σ H _ I h) fun v s1 kt1 ⟨x,H1,I1,r1,q1⟩=>⟨x,σ,H1,I1,r1,q1⟩)
def UU(c:TT)(t u:TS):TS:=fun D σ H=>c σ H fun b H1=>if b=true then t D σ H1 else u D σ H1
theorem Rm{a b:List Stmt}{tc:TT}(hc:PT X c tc)(ha:Fz X a t)(hb:Fz X b u):PS X (.If c a b pos) (UU tc t u):=by
 intro ak s σ H D I h
 refine wpAny_If (kr (hc ak s σ H _ I h) fun d s1 kt1 zq=>?_)
 obtain⟨H1,I1,q1⟩:=zq
 cases d with
 |true=>exact ha ak s1 σ H1 D I1 q1
 |false=>exact hb ak s1 σ H1 D I1 q1
end
abbrev TG:=V->St->Hp->(St->Hp->Prop)->Prop
abbrev KR:=List V->St->Hp->(St->Hp->Prop)->Prop
def PG(X:Cx)(QN:Expr)(t:TG):Prop:=
 ∀(ak:List (Addr×Obj)) (s:Shared) (σ:St) (H:Hp) (v:V) (u:Value) (Q:St->Hp->Prop),bH X ak σ H s->dz s.toks v u->t v σ H Q ->
  wpAny #[4] X.A (assign QN X.env u) (fun _ s'=>∃σ' H',bH X ak σ' H' s'/\Q σ' H') X.xe s
def Mp(X:Cx)(ts:List Expr)(t:KR):Prop:=
 ∀(ak:List (Addr×Obj)) (s:Shared) (σ:St) (H:Hp) (vs:List V) (us:List Value) (Q:St->Hp->Prop),bH X ak σ H s->cK s.toks vs us->t vs σ H Q ->
  wpAny #[4] X.A (assignInOrder ((assignEach ts X.env).map (·.2)) us) (fun _ s'=>∃σ' H',bH X ak σ' H' s'/\Q σ' H') X.xe s
abbrev KS:=V->V->V->Hp->(Hp->Prop)->Prop
def GW(X:Cx)(t:KS):Prop:=
 ∀(ak:List (Addr×Obj)) (s:Shared) (σ:St) (H:Hp) (o i v:V) (ov iv u:Value) (Q:Hp->Prop),bH X ak σ H s->dz s.toks o ov->dz s.toks i iv->dz s.toks v u->t o i v H Q ->
  wpAny #[4] X.A (setItem ov iv u) (fun _ s'=>∃H',bH X ak σ H' s'/\Q H') X.xe s
section
def Mq(i:Nat):TG:=fun v σ H Q=>Q (σ.set i (some v)) H
theorem KT(hN:X.N.Nodup)(hi:X.N[i]?=some x)(hx:Kw X.env.scope x)(hf:X.fn x=true\/X.env.scope.names.lookup x=some .local:=by first|exact .inl rfl|exact .inr rfl|assumption):PG X (.Name x pos) (Mq i):=by
 intro ak s σ H v u Q I r h
 exact wpAny_assign_Name (v_ I hN hi hx r (fun s' I'=>⟨_,H,I',h⟩) hf)
def UV:KR:=fun vs σ H Q=>vs=[]/\Q σ H
def Rn(t:TG)(u:KR):KR:=fun vs σ H Q=>∃v r,vs=v::r/\t v σ H fun σ' H'=>u r σ' H' Q
theorem KU:Mp X [] UV:=by
 intro ak s σ H vs us Q I r h
 obtain⟨e,h⟩:=h
 subst e
 cases r
 exact assignInOrder_nil ⟨σ,H,I,h⟩
theorem GX{t:TG}{u:KR}(h1:PG X e t)(h2:Mp X es u)
  (hs:(assignEach (e::es) X.env).map (·.2)=assign e X.env::(assignEach es X.env).map (·.2):=by rfl):Mp X (e::es) (Rn t u):=by
 intro ak s σ H vs us Q I r h
 obtain⟨v,vr,e1,h⟩:=h
 subst e1
 cases r with
 |cons r rr=>
  rw[hs]
  refine assignInOrder_cons (kr (h1 ak s σ H _ _ _ I r h) fun _ s1 kt1 zq=>?_)
  obtain⟨σ1,H1,I1,q1⟩:=zq
  exact h2 ak s1 σ1 H1 _ _ Q I1 (cK.up kt1 rr) q1
def UW(K:Frag)(n:Nat)(t:KR):TG:=fun v σ H Q=>∃a xs,v=.ref a/\gy K H a xs/\xs.length=n/\t xs σ H Q
theorem N8{k:Nat}{t:KR}(hc:X.calm=true)(h:Mp X es t)
  (hn:(assignEach es X.env).length=n:=by rfl) (oZ:(assignEach es X.env).findIdx? (·.1)=none:=by rfl):PG X (.Tuple es k pos) (UW X.K n t):=by
 intro ak s σ H v u Q I r hw
 obtain⟨a,xs,e1,hq,hl,hw⟩:=hw
 subst e1
 cases r
 obtain⟨bN,rv,ht,hz⟩:=I.tuple hq
 refine assign_Tuple_tuple (I.ok.hd hc) ht (by simp[hn,<- hl,rv.length]) oZ fun h' hx=>?_
 have I1:bH X ak σ H { s with heap:=h' }:=I.kept (t':=s.toks) fun b o e=>hx b o (a9 (aJ e)) e
 exact h ak _ σ H xs _ Q I1 (by simpa using rv) hw
def UX(to ti:TE)(t:KS):TG:=fun v σ H Q=>to σ H fun o H1=>ti σ H1 fun i H2=>t o i v H2 fun H3=>Q σ H3
theorem N9{i:Expr}{to ti:TE}{t:KS}(ho:PE X o to)(hi:PE X i ti)(hs:GW X t)
  (ha:∀v,assign (.Subscript o i pos) X.env v=(do
   let ov <- holding [v] (eval o X.env)
   let iv <- holding [v,ov] (eval i X.env)
   standAt pos
   holding [v,ov,iv] (setItem ov iv v)
   release [v,ov,iv] []):=by intro _;rfl):PG X (.Subscript o i pos) (UX to ti t):=by
 intro ak s σ H v u Q I r h
 rw[ha]
 refine af (dv (kr (ho ak s σ H _ I h) fun ov s1 kt1 zq=>?_))
 obtain⟨x,H1,I1,r1,q1⟩:=zq
 refine af (dv (kr (hi ak s1 σ H1 _ I1 q1) fun iv s2 kt2 zq=>?_))
 obtain⟨y,H2,I2,r2,q2⟩:=zq
 refine af (rQ (af (dv (kr (hs ak s2 σ H2 x y v ov iv u _ I2 (r1.up kt2) r2 (r.up (aN kt1 kt2)) q2) fun _ s3 kt3 zq=>?_))))
 obtain⟨H3,I3,q3⟩:=zq
 exact wpAny_release ⟨σ,H3,I3,q3⟩
def GY(te:TE)(g:TG):TS:=fun D σ H=>te σ H fun x H1=>g x σ H1 D.nx
theorem GZ{g:TG}(he:PE X e te)(hg:PG X tg g)(hs:swapsWithSole [tg] e pos.line X.env=pure false:=by rfl)(hw:swappedStores [tg] e X.env=pure none:=by rfl)
  (h1:(assignEach [tg] X.env).map (·.2)=[assign tg X.env]:=by rfl):PS X (.Assign [tg] e pos) (GY te g):=by
 intro ak s σ H D I h
 refine wpAny_Assign_stores (kr (he ak s σ H _ I h) fun v s1 kt1 ⟨x,H1,I1,r1,q1⟩=>?_) hs hw
 rw[h1]
 exact C3 (hg ak s1 σ H1 x v _ I1 r1 q1) fun _ s2 q=>q
theorem N_(hN:X.N.Nodup)(hi:X.N[i]?=some x)(hx:Kw X.env.scope x)(he:PE X e te)(hs:swapsWith e (some (.Name x i9)) pos.line X.env=pure false:=by rfl)(hf:X.fn x=true\/X.env.scope.names.lookup x=some .local:=by first|exact .inl rfl|exact .inr rfl|assumption) :
  PS X (.Assign [.Name x i9] e pos) (GY te (Mq i)):=by
 intro ak s σ H D I h
 refine wpAny_Assign_Name (kr (he ak s σ H _ I h) fun v s1 kt1 ⟨y,H1,I1,r1,q1⟩=>?_) hs
 exact v_ I1 hN hi hx r1 (fun s2 I2=>⟨_,H1,I2,q1⟩) hf
end
section
def G0(c:TT)(tb:TS):TS:=fun D σ H=>∃W:Nat->St->Hp->Prop,(∃m,W m σ H)/\∀m σ H,W m σ H ->
 c σ H fun b H1=>if b=true then ∃N:St->Hp->Prop,(∀σ' H',N σ' H'->∃m',m'<m/\W m' σ' H')/\tb { D with nx:=N,ct:=N,bk:=D.nx } σ H1 else D.nx σ H1
theorem G1{tc:TT}{tb:TS}(hp:PassesOwn #[4] X.A X.env X.xe)(hc:PT X c tc)(hb:Fz X body tb):PS X (.While c body [] pos) (G0 tc tb):=by
 intro ak s σ H D I h
 obtain⟨W,⟨m0,w0⟩,turn⟩:=h
 refine wpAny_While (codeAny_whileLoop (fun n s'=>∃σ' H',bH X ak σ' H' s'/\W n σ' H') ?_ m0 ⟨σ,H,I,w0⟩)
 rintro n s1 ⟨σ1,H1,I1,w1⟩
 refine f_ hp (kr (hc ak s1 σ1 H1 _ I1 (turn n σ1 H1 w1)) fun b s2 kt2 zq=>?_)
 obtain⟨H2,I2,q2⟩:=zq
 cases b with
 |true=>
  obtain⟨N,hN,q2⟩:=q2
  rw[aK rfl]
  refine f_ hp (C3 (hb ak s2 σ1 H2 _ I2 q2) fun f s3 q3=>?_)
  cases f with
  |next=>
   obtain⟨σ3,H3,I3,n3⟩:=q3
   obtain⟨m',hm,w3⟩:=hN σ3 H3 n3
   exact⟨m',hm,σ3,H3,I3,w3⟩
  |cont=>
   obtain⟨σ3,H3,I3,n3⟩:=q3
   obtain⟨m',hm,w3⟩:=hN σ3 H3 n3
   exact⟨m',hm,σ3,H3,I3,w3⟩
  |brk=>exact q3
  |ret v=>exact q3
 |false=>
  rw[aU eU]
  exact jw ⟨σ1,H2,I2,q2⟩
end
structure It where
 go:Nat->Hp->Prop
 yld:Nat->Hp->V->Hp->Prop
 stop:Nat->Hp->Prop
def uo(X:Cx)(ak:List (Addr×Obj))(H:Hp)(b:Addr):Prop:=
 H b=none/\b≠X.env.locals/\b∉X.fs/\(b∈X.ex\/X.s₀.heap.objs.size<=b)/\(∀x c,X.env.cells.lookup x=some c->c≠b)/\∀p∈X.pn++ak,p.1≠b
theorem bH.fpOk{b:Addr}(I:bH X ak σ H s)(hb:s.heap.objs.size<=b)(hn:H' b=none):uo X ak H' b:=by
 refine⟨hn,et (aL I.lt hb),I.nofs hb,.inr (aN I.sz hb),fun x c e z=>?_,fun p hp z=>?_⟩
 ·obtain⟨v,q⟩:=I.cell x c e
  exact absurd (aL q.lt (by rw[z];exact hb)) (dJ _)
 ·exact absurd (aL (aJ (I.pin p hp).1) (by rw[z];exact hb)) (dJ _)
structure C4(P:Program)(w:World)(K:Frag)(tg:Expr)(J:It)(fp:List Addr)(it:Addr)(tn:Nat->Heap->Prop):Prop where
 mem:it∈fp
 obj:∀i h,tn i h->∀b∈fp,∃o,h.get? b=some o/\∀v,o.data≠.cell v
 keep:∀i h h',tn i h->(∀b∈fp,∀o,h.get? b=some o->h'.get? b=some o)->tn i h'
 item:∀(X:Cx),X.prog=P->X.w=w->X.K=K->X.calm=true->∀(i:Nat) (ak:List (Addr×Obj)) (s:Shared) (σ:St) (H:Hp) (E:Value->Shared->Prop),bH X ak σ H s->(∀b∈fp,uo X ak H b)->tn i s.heap->J.go i H ->
  wpAny (model P w) X.A (pyNext (.ref it)) (fun r s1=>∃u,r=some u /\
   wpAny (model P w) X.A (letOwnedTupleGo tg (.ref it) u) (fun _ s2=>∃x H',bH X ak σ H' s2/\dz s2.toks x u/\J.yld i H x H'/\tn (i+1) s2.heap/\∀b∈fp,H' b=none) E s1) E s
 done:∀(X:Cx),X.prog=P->X.w=w->X.K=K->X.calm=true->∀(i:Nat) (ak:List (Addr×Obj)) (s:Shared) (σ:St) (H:Hp) (E:Value->Shared->Prop),bH X ak σ H s->(∀b∈fp,uo X ak H b)->tn i s.heap->J.stop i H ->
  wpAny (model P w) X.A (pyNext (.ref it)) (fun r s1=>r=none/\bH X ak σ H s1) E s
 self:∀(A:Around) (i:Nat) (s:Shared) (Q:Value->Shared->Prop) (E:Value->Shared->Prop),tn i s.heap->Q (.ref it) s->wpAny (model P w) A (pyIter (.ref it)) Q E s
abbrev TI:=St->Hp->(It->Hp->Prop)->Prop
def VS(X:Cx)(ak:List (Addr×Obj))(σ:St)(tg:Expr)(R:It->Hp->Prop)(VI:Value)(s2:Shared):Prop:=
 ∃(it:Addr) (fp:List Addr) (tn:Nat->Heap->Prop) (J:It) (H':Hp),VI=.ref it/\bH X ak σ H' s2/\C4 X.prog X.w X.K tg J fp it tn/\tn 0 s2.heap/\(∀b∈fp,uo X ak H' b)/\R J H'
def PI(X:Cx)(tg ec:Expr)(wi:TI):Prop:=
 ∀(ak:List (Addr×Obj)) (s:Shared) (σ:St) (H:Hp) (R:It->Hp->Prop),bH X ak σ H s->wi σ H R ->
  wpAny #[4] X.A (eval ec X.env) (fun v s1=>wpAny #[4] X.A (pyIter v) (VS X ak σ tg R) X.xe s1) X.xe s
theorem EG      {E:Value -> Shared -> Prop} {s:Shared}    {o:Obj} {n:String} {vs:Array Value} {Q:Unit -> Shared -> Prop} (ho : s.heap.get? it = some o) (hc : o.cls = .type n) (hd : o.data = .fields vs)
    (hn : ["enumerate", "zip", "dict_itemiterator", "dict_reverseitemiterator", "odict_iterator", "itertools.zip_longest", "itertools.pairwise"].contains n = false) (hQ : Q () s) : wpAny M A (letOwnedTupleGo tg (.ref it) u) Q E s := by
  unfold letOwnedTupleGo
  cases tg <;> first
    | exact ay         hQ
    | (cases u <;> first
        | exact ay         hQ
        | (refine af         (wpAny_load ho ?_)
           rw [hc, hd]
           show wpAny M A (if (["enumerate", "zip", "dict_itemiterator", "dict_reverseitemiterator", "odict_iterator", "itertools.zip_longest", "itertools.pairwise"].contains n && vs[0]? == some (rawInt _)) = true then _ else _) Q E s
           rw [aU     (by intro h; rw [hn, Bool.false_and] at h; cases h)]
           exact ay         hQ))
def VT(K:Frag)(a:Addr):It:=
 ⟨fun i H=>∃xs x,um K H a xs/\xs[i]?=some x,fun i H x H'=>H'=H/\∀xs,um K H a xs->xs[i]?=some x,fun i H=>∃xs,um K H a xs/\xs.length<=i⟩
def VU(K:Frag)(a:Addr):It:=
 ⟨fun i H=>∃xs x,gy K H a xs/\xs[i]?=some x,fun i H x H'=>H'=H/\∀xs,gy K H a xs->xs[i]?=some x,fun i H=>∃xs,gy K H a xs/\xs.length<=i⟩
def Um(lo:Int)(n:Nat):It:=⟨fun i _=>i<n,fun i H x H'=>H'=H/\x=.int (lo+i),fun i _=>n<=i⟩
theorem FB{w:World}(a it:Addr):C4 P w K tg (VT K a) [it] it (fun i h=>h.IsListIter it a i) where
 mem:=by simp
 obj:=fun i h st b hb=>by
  have e:b=it:=by simpa using hb
  subst e
  obtain⟨o,e,c,d⟩:=st
  exact⟨o,e,fun v z=>by rw[d]at z;cases z⟩
 keep:=fun i h h' st k=>st.at fun o e=>k it #[15] o e
 item:=by
  intro X hP hw hK hc i ak s σ H E I hf st hg
  subst hP hw hK
  obtain⟨xs,x,hq,hx⟩:=hg
  obtain⟨bN,rv,p,hz⟩:=I.list hq
  obtain⟨u,hu,ru⟩:=rv.get hx
  obtain⟨f0,f1,f2,f3,f4,f5⟩:=hf it #[15]
  refine wpAny_pyNext_list_item st p.isList (x:=u) (by simpa using hu) fun h' bg sb=>?_
  have I1:bH X ak σ H { s with heap:=h' }:=I.turned (t':=s.toks) (fun b o hb e=>(sb.2 b hb).trans e) f0 f1 f3 f4 f5
  obtain⟨o,e,c,d⟩:=id bg
  exact⟨u,rfl,EG (s:={ s with heap:=h' }) e c d #[3] ⟨x,H,I1,ru,⟨rfl,fun ys hy=>by rw[I.list_inj hy hq];exact hx⟩,bg,fun b hb=>(hf b hb).1⟩⟩
 done:=by
  intro X hP hw hK hc i ak s σ H E I hf st hg
  subst hP hw hK
  obtain⟨xs,hq,hx⟩:=hg
  obtain⟨bN,rv,p,hz⟩:=I.list hq
  obtain⟨f0,f1,f2,f3,f4,f5⟩:=hf it #[15]
  have hl:=rv.length
  exact wpAny_pyNext_list_end (I.ok.hd hc) st p.isList (by simp;omega) fun h' eb=>⟨rfl,I.turned (t':=s.toks) (fun b o hb e=>eb b o hb e) f0 f1 f3 f4 f5⟩
 self:=fun _ _ _ _ _ st h=>wpAny_pyIter_listiter st h
theorem C5{w:World}(a it:Addr):C4 P w K tg (VU K a) [it] it (fun i h=>h.IsTupleIter it a i) where
 mem:=by simp
 obj:=fun i h st b hb=>by
  have e:b=it:=by simpa using hb
  subst e
  obtain⟨o,e,c,d⟩:=st
  exact⟨o,e,fun v z=>by rw[d]at z;cases z⟩
 keep:=fun i h h' st k=>st.at fun o e=>k it #[15] o e
 item:=by
  intro X hP hw hK hc i ak s σ H E I hf st hg
  subst hP hw hK
  obtain⟨xs,x,hq,hx⟩:=hg
  obtain⟨bN,rv,p,hz⟩:=I.tuple hq
  obtain⟨u,hu,ru⟩:=rv.get hx
  obtain⟨f0,f1,f2,f3,f4,f5⟩:=hf it #[15]
  refine wpAny_pyNext_tuple_item st (show s.heap.IsTuple a bN.toArray from p) (x:=u) (by simpa using hu) fun h' bg sb=>?_
  have I1:bH X ak σ H { s with heap:=h' }:=I.turned (t':=s.toks) (fun b o hb e=>(sb.2 b hb).trans e) f0 f1 f3 f4 f5
  obtain⟨o,e,c,d⟩:=id bg
  exact⟨u,rfl,EG (s:={ s with heap:=h' }) e c d #[3] ⟨x,H,I1,ru,⟨rfl,fun ys hy=>by rw[I.tuple_inj hy hq];exact hx⟩,bg,fun b hb=>(hf b hb).1⟩⟩
 done:=by
  intro X hP hw hK hc i ak s σ H E I hf st hg
  subst hP hw hK
  obtain⟨xs,hq,hx⟩:=hg
  obtain⟨bN,rv,p,hz⟩:=I.tuple hq
  obtain⟨f0,f1,f2,f3,f4,f5⟩:=hf it #[15]
  have hl:=rv.length
  exact wpAny_pyNext_tuple_end (I.ok.hd hc) st (show s.heap.IsTuple a bN.toArray from p) (by simp;omega) fun h' eb=>⟨rfl,I.turned (t':=s.toks) (fun b o hb e=>eb b o hb e) f0 f1 f3 f4 f5⟩
 self:=fun _ _ _ _ _ st h=>wpAny_pyIter_tupleiter st h
theorem C6{w:World}(it:Addr)(lo:Int)(n:Nat):C4 P w K tg (Um lo n) [it] it (fun i h=>IsRangeIter h it (lo+(i:Nat)*1) ((n:Int)-(i:Nat)) 1) where
 mem:=by simp
 obj:=fun i h st b hb=>by
  have e:b=it:=by simpa using hb
  subst e
  exact⟨_,st,fun v z=>by
   have z':Data.fields _=Data.cell v:=z
   cases z'⟩
 keep:=fun i h h' st k=>k it #[15] _ st
 item:=by
  intro X hP hw hK hc i ak s σ H E I hf st hg
  subst hP hw hK
  obtain⟨f0,f1,f2,f3,f4,f5⟩:=hf it #[15]
  have W:=Walks.range (prog:=X.prog) (w:=X.w) (I.ok.hd hc) it lo 1 n
  refine up (W.item i s _ _ hg st fun v h' tk hv bg kk hk=>?_)
  obtain⟨t,rfl⟩:=hv
  have I1:bH X ak σ H { s with heap:=h',toks:=tk }:=I.turned (fun b o hb e=>kk b o (by simpa using hb) e) f0 f1 f3 f4 f5
  refine⟨_,rfl,EG (s:={ s with heap:=h',toks:=tk }) (n:="range_iterator") bg rfl rfl #[3] ⟨.int (lo+i),H,I1,⟨t,?_⟩,⟨rfl,rfl⟩,bg,fun b hb=>(hf b hb).1⟩⟩
  rw[Int.mul_one]
 done:=by
  intro X hP hw hK hc i ak s σ H E I hf st hg
  subst hP hw hK
  obtain⟨f0,f1,f2,f3,f4,f5⟩:=hf it #[15]
  exact wpAny_pyNext_range_end (I.ok.hd hc) st (by have:n<=i:=hg;omega) fun h' eb=>⟨rfl,I.turned (t':=s.toks) (fun b o hb e=>eb b o hb e) f0 f1 f3 f4 f5⟩
 self:=fun _ _ _ _ _ st h=>wpAny_pyIter_rangeiter st h
end L2
namespace L2
open PySem PySem.Spec PyProof.Rows
section
def Ro(K:Frag)(tl:TE):TI:=fun σ H R=>tl σ H fun x H1=>∃a,x=.ref a/\(∃xs,um K H1 a xs)/\R (VT K a) H1
def UY(K:Frag)(tl:TE):TI:=fun σ H R=>tl σ H fun x H1=>∃a,x=.ref a/\(∃xs,gy K H1 a xs)/\R (VU K a) H1
theorem KW{l:Expr}{tl:TE}(hl:PE X l tl):PI X tg l (Ro X.K tl):=by
 intro ak s σ H R I h
 refine kr (hl ak s σ H _ I h) fun v s1 kt1 zq=>?_
 obtain⟨x,H1,I1,r1,q1⟩:=zq
 obtain⟨a,e,⟨xs,hq⟩,q⟩:=q1
 subst e
 cases r1
 obtain⟨bN,rv,p,hz⟩:=I1.list hq
 refine wpAny_pyIter_list p.isList ?_
 refine⟨s1.heap.objs.size,[s1.heap.objs.size],_,_,H1,rfl,I1.kept (t':=s1.toks) fun b o e=>aw _ e,FB a _,⟨_,aC _ rfl,rfl,rfl⟩,fun b hb=>?_,q⟩
 have e:b=s1.heap.objs.size:=by simpa using hb
 subst e
 exact I1.fpOk (aA _) (I1.hok.fresh (aA _))
theorem Oa{l:Expr}{tl:TE}(hl:PE X l tl):PI X tg l (UY X.K tl):=by
 intro ak s σ H R I h
 refine kr (hl ak s σ H _ I h) fun v s1 kt1 zq=>?_
 obtain⟨x,H1,I1,r1,q1⟩:=zq
 obtain⟨a,e,⟨xs,hq⟩,q⟩:=q1
 subst e
 cases r1
 obtain⟨bN,rv,p,hz⟩:=I1.tuple hq
 refine fN (show s1.heap.IsTuple a bN.toArray from p) ?_
 refine⟨s1.heap.objs.size,[s1.heap.objs.size],_,_,H1,rfl,I1.kept (t':=s1.toks) fun b o e=>aw _ e,C5 a _,⟨_,aC _ rfl,rfl,rfl⟩,fun b hb=>?_,q⟩
 have e:b=s1.heap.objs.size:=by simpa using hb
 subst e
 exact I1.fpOk (aA _) (I1.hok.fresh (aA _))
theorem G3{R:It->Hp->Prop}{lo hi:Int}{t u v:Tok}{tk:Nat}(I:bH X ak σ H s)(hk:s.toks<=tk)(h1:-(2^62)<=lo)(h2:lo<2^62)(h3:-(2^62)<=hi)(h4:hi<2^62)
  (q:R (Um lo (hi-lo).toNat) H):wpAny #[4] X.A (pyIter (.ref s.heap.objs.size)) (VS X ak σ tg R) E { s with heap:=s.heap.push { cls:=.type "range",data:=.fields #[.int lo t,.int hi u,.int 1 v] },toks:=tk }:=by
 refine wpAny_pyIter_range (IsRange.new ..) (small_one h1 h2 h3 h4) ?_
 have I1:bH X ak σ H { s with heap:=s.heap.push { cls:=.type "range",data:=.fields #[.int lo t,.int hi u,.int 1 v] },toks:=tk }:=I.kept fun b o e=>aw _ e
 refine⟨(s.heap.push { cls:=.type "range",data:=.fields #[.int lo t,.int hi u,.int 1 v] }).objs.size,[(s.heap.push { cls:=.type "range",data:=.fields #[.int lo t,.int hi u,.int 1 v] }).objs.size],_,_,H,rfl,
  I1.kept (t':=tk) fun b o e=>aw _ e,C6 _ lo (hi-lo).toNat,?_,fun b hb=>?_,q⟩
 ·have e1:lo+((0:Nat):Int)*1=lo:=by simp
  have e2:(((hi-lo).toNat:Nat):Int)-((0:Nat):Int)=Builtin.Range.rangeSize lo hi 1:=by rw[rangeSize_one];split<;>omega
  show IsRangeIter _ _ (lo+((0:Nat):Int)*1) ((((hi-lo).toNat:Nat):Int)-((0:Nat):Int)) 1
  rw[e1,e2]
  exact aC _ rfl
 ·have e:b=(s.heap.push { cls:=.type "range",data:=.fields #[.int lo t,.int hi u,.int 1 v] }).objs.size:=by simpa using hb
  subst e
  exact I1.fpOk (aA _) (I1.hok.fresh (aA _))
def Rp(ta:TA):TI:=fun σ H R=>ta σ H fun vs H1=>∃j:Int,vs=[.int j]/\-(2^62)<=j/\j<2^62/\R (Um 0 j.toNat) H1
theorem FC{a:Expr}{ta:TA}{p pos:Pos}(hg:Gl X "range")(hm:X.mg "range"=none)(ha:PA X [a] ta)(hs:starEach [a] X.env=[(false,eval a X.env)]:=by rfl):PI X tg (.Call (.Name "range" p) [a] [] pos) (Rp ta):=by
 intro ak s σ H R I h
 refine Call_ (p5 I hg hm boot_range (dS (kr (ha pos ak s σ H _ I h) fun us s1 kt1 ⟨vs,H1,I1,r1,q1⟩=>?_) hs rfl))
 obtain⟨j,e,q1,q2,q⟩:=q1
 subst e
 cases r1 with
 |cons r rr=>
  cases rr
  obtain⟨t,rfl⟩:=r
  exact call_range_1 (G3 I1 (by first|exact aA _|exact bn _|assumption|omega) #[0] #[0] q1 q2 (by simpa using q))
def UZ(wi:TI)(g:TG)(tb:TS):TS:=fun D σ H=>wi σ H fun J H1=>∃W:Nat->Nat->St->Hp->Prop,(∃m,W 0 m σ H1)/\∀i m σ H,W i m σ H ->
 (J.stop i H/\D.nx σ H)\/(J.go i H/\∃N:St->Hp->Prop,(∀σ' H',N σ' H'->∃m',m'<m/\W (i+1) m' σ' H')/\∀x H',J.yld i H x H'->g x σ H' fun σ2 H2=>tb { D with nx:=N,ct:=N,bk:=D.nx } σ2 H2)
def zx(fp:List Addr)(h:Heap):List (Addr×Obj):=fp.filterMap fun b=>(h.get? b).map fun o=>(b,o)
theorem kE{b:Addr}{o:Obj}(hb:b∈fp)(e:h.get? b=some o):(b,o)∈zx fp h:=mF.mpr ⟨b,hb,by rw[e];rfl⟩
theorem FD{p:Addr×Obj}(hp:p∈zx fp h):p.1∈fp/\h.get? p.1=some p.2:=by
 obtain⟨b,hb,e⟩:=mF.mp hp
 cases q:h.get? b with
 |none=>rw[q]at e;cases e
 |some o=>
  rw[q]at e
  have e':(b,o)=p:=bf e
  subst e'
  exact⟨hb,q⟩
theorem bH.pinned(I:bH X ak σ H s)(hf:∀b∈fp,uo X ak H b)(ho:∀b∈fp,∃o,s.heap.get? b=some o/\∀v,o.data≠.cell v):bH X (ak++zx fp s.heap) σ H s:=
 I.pins_of fun p hp=>(aV.mp hp).elim (fun z=>I.pin p (aP _ z)) fun z=>by
  obtain⟨hb,e⟩:=FD z
  obtain⟨f0,f1,f2,_⟩:=hf p.1 hb
  obtain⟨o,e',d⟩:=ho p.1 hb
  rw[e]at e';cases e'
  exact⟨e,f0,f1,f2,d⟩
theorem bH.unpinned{pl:List (Addr×Obj)}(I:bH X (ak++pl) σ H s):bH X ak σ H s:=I.pins_of fun p hp=>I.pin p (aP _ (bA _ hp))
theorem Ob{wi:TI}{g:TG}{tb:TS}{pos:Pos}(hp:PassesOwn #[4] X.A X.env X.xe)(hc:X.calm=true)(hi:PI X tg ec wi)(hg:PG X tg g)(hb:Fz X body tb)
  (hs:∀x,foldedSetIterable ec X.env x=pure x:=by intro _;rfl):PS X (.For tg ec body [] pos) (UZ wi g tb):=by
 intro ak s σ H D I h
 refine wpAny_For (C3 (hi ak s σ H _ I h) fun v s1 h1=>C3 h1 fun VI s2 h2=>?_) hs
 obtain⟨it,fp,tn,J,H2,e,I2,T,c_,f2,W,⟨m0,w0⟩,turn⟩:=h2
 subst e
 have stat:∀{H':Hp},(∀b∈fp,H' b=none)->∀b∈fp,uo X ak H' b:=fun hn b hb=>⟨hn b hb,(f2 b hb).2⟩
 refine codeAny_forLoop_any (fun n s'=>∃i σ' H',bH X ak σ' H' s'/\tn i s'.heap/\(∀b∈fp,H' b=none)/\W i n σ' H') ?_ m0 ⟨0,σ,H2,I2,c_,fun b hb=>(f2 b hb).1,w0⟩
 rintro n s3 ⟨i,σ3,H3,I3,nL,fr3,w3⟩
 rcases turn i n σ3 H3 w3 with⟨stop,qn⟩|⟨go,N,hN,step⟩
 ·refine f_ hp (kr (T.done X rfl rfl rfl hc i ak s3 σ3 H3 X.xe I3 (stat fr3) nL stop) fun r s4 kt4 zq=>?_)
  obtain⟨hr,I4⟩:=zq
  subst hr
  exact jw ⟨σ3,H3,I4,qn⟩
 ·refine f_ hp (kr (T.item X rfl rfl rfl hc i ak s3 σ3 H3 X.xe I3 (stat fr3) nL go) fun r s4 kt4 zq=>?_)
  obtain⟨u,hr,h4⟩:=zq
  subst hr
  refine f_ hp (C3 h4 fun _ s5 zq=>?_)
  obtain⟨x,H5,I5,r5,y5,st5,fr5⟩:=zq
  have I5':=I5.pinned (stat fr5) (T.obj _ _ st5)
  refine f_ hp (kr (hg _ s5 σ3 H5 x u _ I5' r5 (step x H5 y5)) fun _ s6 kt6 zq=>?_)
  obtain⟨σ6,H6,I6,q6⟩:=zq
  refine f_ hp (C3 (hb _ s6 σ6 H6 _ I6 q6) fun f s7 q7=>?_)
  have again:∀{σ7:St} {H7:Hp},bH X (ak++zx fp s5.heap) σ7 H7 s7->N σ7 H7->∃m,m<n/\∃i σ' H',bH X ak σ' H' s7/\tn i s7.heap/\(∀b∈fp,H' b=none)/\W i m σ' H':=fun{σ7 H7} I7 n7=>by
   obtain⟨m',hm,w7⟩:=hN σ7 H7 n7
   refine⟨m',hm,i+1,σ7,H7,I7.unpinned,T.keep _ _ _ st5 fun b hb o e=>(I7.pin (b,o) (aP _ (aP _ (kE hb e)))).1,fun b hb=>?_,w7⟩
   obtain⟨o,e,d⟩:=T.obj _ _ st5 b hb
   exact(I7.pin (b,o) (aP _ (aP _ (kE hb e)))).2.1
  cases f with
  |next=>obtain⟨σ7,H7,I7,n7⟩:=q7;exact again I7 n7
  |cont=>obtain⟨σ7,H7,I7,n7⟩:=q7;exact again I7 n7
  |brk=>obtain⟨σ7,H7,I7,q7⟩:=q7;exact⟨σ7,H7,I7.unpinned,q7⟩
  |ret v=>obtain⟨x7,σ7,H7,I7,r7,q7⟩:=q7;exact⟨x7,σ7,H7,I7.unpinned,r7,q7⟩
end
end L2
namespace L2
open PySem PySem.Spec PyProof.Rows
abbrev R2:=V->V->Hp->VK->Prop
def pR(X:Cx)(f:Value->Value->Sem Value)(r:R2):Prop:=
 ∀(ak:List (Addr×Obj)) (s:Shared) (σ:St) (H:Hp) (x y:V) (v u:Value) (Q:VK),bH X ak σ H s->dz s.toks x v->dz s.toks y u->r x y H Q ->
  wpAny #[4] X.A (f v u) (EP X ak σ Q) X.xe s
def U0(X:Cx)(f:Value->Sem Value)(r:V->Hp->VK->Prop):Prop:=
 ∀(ak:List (Addr×Obj)) (s:Shared) (σ:St) (H:Hp) (x:V) (v:Value) (Q:VK),bH X ak σ H s->dz s.toks x v->r x H Q ->
  wpAny #[4] X.A (f v) (EP X ak σ Q) X.xe s
def jb(X:Cx)(f:Value)(r:List V->Hp->VK->Prop):Prop:=
 ∀(ak:List (Addr×Obj)) (s:Shared) (σ:St) (H:Hp) (xs:List V) (us:List Value) (Q:VK),bH X ak σ H s->cK s.toks xs us->r xs H Q ->
  wpAny #[4] X.A (call f us) (EP X ak σ Q) X.xe s
def Rq(r:R2)(ta tb:TE):TE:=fun σ H Q=>ta σ H fun x H1=>tb σ H1 fun y H2=>r x y H2 Q
def Wi(r:V->Hp->VK->Prop)(ta:TE):TE:=fun σ H Q=>ta σ H fun x H1=>r x H1 Q
def rI(C:Int->Int->Prop)(g:Int->Int->V):R2:=fun x y H Q=>∃i j,x=.int i/\y=.int j/\C i j/\Q (g i j) H
def G4(g:Int->Int->V):R2:=fun x y H Q=>∃i j,x=.int i/\y=.int j/\Q (g i j) H
def rU(g:Int->V):V->Hp->VK->Prop:=fun x H Q=>∃i,x=.int i/\Q (g i) H
section
variable{a b:Expr}{ta tb tc:TE}
theorem Oc(ha:PE X a ta)(hb:PE X b tb){R:V->V->Hp->Prop}(I:bH X ak σ H s)
  (h:ta σ H fun x H1=>tb σ H1 fun y H2=>R x y H2) {Q:Value->Shared->Prop} {f:Value->Value->Sem Value}
  (hf:∀v u s2 x y H2,bH X ak σ H2 s2->dz s2.toks x v->dz s2.toks y u->R x y H2->wpAny #[4] X.A (f v u) Q X.xe s2) :
  wpAny #[4] X.A (eval a X.env) (fun v s₁=>wpAny #[4] X.A (eval b X.env) (fun u s₂=>wpAny #[4] X.A (f v u) Q X.xe s₂) X.xe s₁) X.xe s:=by
 refine kr (ha ak s σ H _ I h) fun v s1 kt1 zq=>?_
 obtain⟨x,H1,I1,r1,q1⟩:=zq
 refine kr (hb ak s1 σ H1 _ I1 q1) fun u s2 kt2 zq=>?_
 obtain⟨y,H2,I2,r2,q2⟩:=zq
 exact hf v u s2 x y H2 I2 (r1.up kt2) r2 q2
theorem Rs{op:Operator}{r:R2}(ho:pR X (binaryOp op) r)(ha:PE X a ta)(hb:PE X b tb):PE X (.BinOp a op b pos) (Rq r ta tb):=by
 intro ak s σ H Q I h
 exact wpAny_BinOp (Oc ha hb I h fun v u s2 x y H2 I2 rx ry q=>ho ak s2 σ H2 x y v u Q I2 rx ry q)
theorem Rt{op:UnaryOp}{r:V->Hp->VK->Prop}(ho:U0 X (unaryOp op) r)(ha:PE X a ta):PE X (.UnaryOp op a pos) (Wi r ta):=by
 intro ak s σ H Q I h
 exact UnaryOp_ (kr (ha ak s σ H _ I h) fun v s1 kt1 ⟨x,H1,I1,r1,q1⟩=>ho ak s1 σ H1 x v Q I1 r1 q1)
theorem Q2{f:Value->Value->Sem Value}{C:Int->Int->Prop}{g:Int->Int->Int}
  (rule:∀(i j:Int) (t u:Tok) (s:Shared) (Q:Value->Shared->Prop) (E:Value->Shared->Prop),C i j->Q (.int (g i j) s.toks) { s with toks:=s.toks+1 }->wpAny #[4] X.A (f (.int i t) (.int j u)) Q E s) :
  pR X f (rI C fun i j=>.int (g i j)):=by
 intro ak s σ H x y v u Q I rx ry h
 obtain⟨i,j,rfl,rfl,hc,q⟩:=h
 obtain⟨t,rfl⟩:=rx
 obtain⟨t',rfl⟩:=ry
 exact rule i j t t' s _ _ hc ⟨.int (g i j),H,I.tok _,⟨_,rfl⟩,q⟩
theorem Od{f:Value->Value->Sem Value}{g:Int->Int->Int}
  (rule:∀(i j:Int) (t u:Tok) (s:Shared) (Q:Value->Shared->Prop) (E:Value->Shared->Prop),Q (.int (g i j) s.toks) { s with toks:=s.toks+1 }->wpAny #[4] X.A (f (.int i t) (.int j u)) Q E s) :
  pR X f (G4 fun i j=>.int (g i j)):=by
 intro ak s σ H x y v u Q I rx ry h
 obtain⟨i,j,rfl,rfl,q⟩:=h
 obtain⟨t,rfl⟩:=rx
 obtain⟨t',rfl⟩:=ry
 exact rule i j t t' s _ _ ⟨.int (g i j),H,I.tok _,⟨_,rfl⟩,q⟩
theorem KY{f:Value->Value->Sem Value}{g:Int->Int->Bool}
  (rule:∀(i j:Int) (t u:Tok) (s:Shared) (Q:Value->Shared->Prop) (E:Value->Shared->Prop),Q (.bool (g i j)) s->wpAny #[4] X.A (f (.int i t) (.int j u)) Q E s) :
  pR X f (G4 fun i j=>.bl (g i j)):=by
 intro ak s σ H x y v u Q I rx ry h
 obtain⟨i,j,rfl,rfl,q⟩:=h
 obtain⟨t,rfl⟩:=rx
 obtain⟨t',rfl⟩:=ry
 exact rule i j t t' s _ _ ⟨.bl (g i j),H,I,rfl,q⟩
def U1(i j:Int):Prop:=0<j/\j<1073741824
def Oe(i j:Int):Prop:=0<=j/\j<=1000000/\i.natAbs<2^64
def Of(i j:Int):Prop:=(-(2^64)<i/\i<2^64)\/(-(2^64)<j/\j<2^64)
theorem Of.ok{i j:Int}(h:Of i j):IntMulOk i j:=by
 rcases h with⟨h1,h2⟩|⟨h1,h2⟩
 ·exact .of_left (intBits_le_64 h1 h2)
 ·exact .of_right (intBits_le_64 h1 h2)
theorem C7(k:Nat):(0:Int)<=2^k:=by
 rw[two_pow_cast]
 exact Int.natCast_nonneg _
theorem Og:pR X (binaryOp .Add) (G4 fun i j=>.int (i+j)):=Od fun _ _ _ _ _ _ _ q=>add_int q
theorem Oh:pR X (binaryOp .Sub) (G4 fun i j=>.int (i-j)):=Od fun _ _ _ _ _ _ _ q=>sub_int q
theorem Oi:pR X (binaryOp .Mult) (rI Of fun i j=>.int (i*j)):=Q2 fun _ _ _ _ _ _ _ hc q=>mul_int q hc.ok
theorem KZ:pR X (binaryOp .FloorDiv) (rI U1 fun i j=>.int (i/j)):=Q2 fun i j _ _ _ _ _ hc q=>by
 have h1:(0:Int)<j:=hc.1
 have h2:j<1073741824:=hc.2
 exact floordiv_int #[0] (by rw[mG i #[0]];exact q) (.inl (PyProof.noPylong_small #[0]))
theorem Oj:pR X (binaryOp .Mod) (rI (fun _ j=>0<j) fun i j=>.int (i%j)):=Q2 fun i j _ _ _ _ _ hc q=>by
 have h1:(0:Int)<j:=hc
 exact mod_int' #[0] (by rw[Int.fmod_eq_emod_of_nonneg i #[0]];exact q)
theorem Ol:pR X (binaryOp .Pow) (rI Oe fun i j=>.int (i^j.toNat)):=Q2 fun _ _ _ _ _ _ _ hc q=>pow_int_small hc.1 hc.2.1 hc.2.2 q
theorem G5:pR X (binaryOp .LShift) (rI Oe fun i j=>.int (i*2^j.toNat)):=Q2 fun _ _ _ _ _ _ _ hc q=>lshift_int_small hc.1 hc.2.1 hc.2.2 q
theorem Om:pR X (binaryOp .RShift) (rI (fun _ j=>0<=j) fun i j=>.int (i/2^j.toNat)):=Q2 fun i j _ _ _ _ _ hc q=>
 rshift_int hc (by rw[mG i (C7 _)];exact q)
theorem On:pR X (binaryOp .BitAnd) (G4 fun i j=>.int (Builtin.bitAnd i j)):=Od fun _ _ _ _ _ _ _ q=>and_int q
theorem Wj{f:Value->Sem Value}{g:Int->Int}
  (rule:∀(i:Int) (t:Tok) (s:Shared) (Q:Value->Shared->Prop) (E:Value->Shared->Prop),Q (.int (g i) s.toks) { s with toks:=s.toks+1 }->wpAny #[4] X.A (f (.int i t)) Q E s) :
  U0 X f (rU fun i=>.int (g i)):=by
 intro ak s σ H x v Q I rx h
 obtain⟨i,rfl,q⟩:=h
 obtain⟨t,rfl⟩:=rx
 exact rule i t s _ _ ⟨.int (g i),H,I.tok _,⟨_,rfl⟩,q⟩
theorem Oo:U0 X (unaryOp .USub) (rU fun i=>.int (-i)):=Wj fun _ _ _ _ _ q=>neg_int q
end
section
variable{a b:Expr}{ta tb tc:TE}
theorem Op{Q:VK}{k k':Bool}(I:bH X ak σ H s)(q:Q (.bl k) H)(e:k=k'):EP X ak σ Q (.bool k') s:=by
 subst e
 exact⟨.bl k,H,I,rfl,q⟩
theorem Ru:pR X (compareOp .Lt) (G4 fun i j=>.bl (decide (i<j))):=KY fun _ _ _ _ _ _ _ q=>lt_int q
theorem Rv:pR X (compareOp .LtE) (G4 fun i j=>.bl (decide (i<=j))):=KY fun _ _ _ _ _ _ _ q=>le_int q
theorem Rw:pR X (compareOp .Gt) (G4 fun i j=>.bl (decide (j<i))):=KY fun _ _ _ _ _ _ _ q=>gt_int q
theorem Rx:pR X (compareOp .GtE) (G4 fun i j=>.bl (decide (j<=i))):=KY fun _ _ _ _ _ _ _ q=>ge_int q
theorem FF:pR X (compareOp .In) (fun x y H Q=>∃i j,x=.str i/\y=.str j/\Q (.bl (!(Builtin.Str.occurrences j i 0 j.length 1).isEmpty)) H):=by
 intro ak s σ H x y v u Q I rx ry h
 obtain⟨i,j,rfl,rfl,q⟩:=h
 obtain⟨t,rfl⟩:=rx
 obtain⟨t',rfl⟩:=ry
 exact in_str (Op I q rfl)
theorem G6(b:Expr)(h:op≠.In:=by decide)(h2:op≠.NotIn:=by decide):behindInMarks op b=false:=by
 have e1:(op==CmpOp.In)=false:=by cases op<;>first|rfl|exact absurd rfl h
 have e2:(op==CmpOp.NotIn)=false:=by cases op<;>first|rfl|exact absurd rfl h2
 cases b<;>simp[behindInMarks,e1,e2]
theorem K0{r:R2}(ho:pR X (compareOp op) r)(ha:PE X a ta)(hb:PE X b tb)(hm:behindInMarks op b=false):PE X (.Compare a [op] [b] pos) (Rq r ta tb):=by
 intro ak s σ H Q I h
 exact wpAny_Compare1 (Oc ha hb I h fun v u s2 x y H2 I2 rx ry q=>ho ak s2 σ H2 x y v u Q I2 rx ry q) hm
def Ry(t:TE):TT:=fun σ H Q=>t σ H fun x H'=>∃k,x=.bl k/\Q k H'
theorem K1{r:R2}(ho:pR X (compareOp op) r)(ha:PE X a ta)(hb:PE X b tb)(hm:behindInMarks op b=false):PT X (.Compare a [op] [b] pos) (Ry (Rq r ta tb)):=by
 intro ak s σ H Q I h
 refine pU (kr (ha ak s σ H _ I h) fun v s1 kt1 ⟨x,H1,I1,r1,q1⟩=>kr (hb ak s1 σ H1 _ I1 q1) fun u s2 kt2 ⟨y,H2,I2,r2,q2⟩=>
  kr (ho ak s2 σ H2 x y v u _ I2 (r1.up kt2) r2 q2) fun c s3 kt3 ⟨z,H3,I3,r3,k,e,q3⟩=>?_) hm
 subst e
 cases r3
 exact iG ⟨H3,I3,q3⟩
theorem uq:(sizeLine:Nat)<2^63:=by rw[lq];decide
theorem bH.addS{Q:VK}{i j:Str}{t:Tk s.toks i}{t':Tk s.toks j}(I:bH X ak σ H s)(q:Q (.str (i++j)) H)(hz:i.length+j.length<=sizeLine) :
  (if i.length==0 then Made.val (.str j t'.1)else if j.length==0 then Made.val (.str i t.1)else Made.str (i++j)).post (EP X ak σ Q) s:=by
 split
 ·rename_i h
  have e:i++j=j:=by
   have h0:i.cps=#[]:=gT (by simpa[Str.length]using h)
   show Str.append i j=j
   cases hj:j;simp[Str.append,h0]
  rw[e]at q
  exact⟨.str j,H,I,⟨t',rfl⟩,q⟩
 ·split
  ·rename_i h
   have e:i++j=i:=by
    have h0:j.cps=#[]:=gT (by simpa[Str.length]using h)
    show Str.append i j=i
    cases hj:i;simp[Str.append,h0]
   rw[e]at q
   exact⟨.str i,H,I,⟨t,rfl⟩,q⟩
  ·exact⟨by rw[strLen_append];exact hz,⟨.str (i++j),H,I.tok _,I.tkS,q⟩⟩
theorem C8:pR X (binaryOp .Add) (fun x y H Q=>∃i j,x=.str i/\y=.str j/\i.length+j.length<=sizeLine/\Q (.str (i++j)) H):=by
 intro ak s σ H x y v u Q I rx ry h
 obtain⟨i,j,rfl,rfl,hz,q⟩:=h
 obtain⟨t,rfl⟩:=rx
 obtain⟨t',rfl⟩:=ry
 exact PySem.P.add_str (I.addS q hz)
theorem p6{x:V}(r:cK nk [x] us):∃u,us=[u]/\dz nk x u:=by
 cases r with
 |cons r1 r2=>cases r2;exact⟨_,rfl,r1⟩
theorem Mr{x y:V}(r:cK nk [x,y] us):∃u w',us=[u,w']/\dz nk x u/\dz nk y w':=by
 cases r with
 |cons r1 r2=>
  cases r2 with
  |cons r3 r4=>cases r4;exact⟨_,_,rfl,r1,r3⟩
theorem FH(hc:X.calm=true):jb X (.builtin "max") (fun xs H Q=>∃i j,xs=[.int i,.int j]/\Q (.int (if j>i then j else i)) H):=by
 intro ak s σ H xs us Q I r h
 obtain⟨i,j,rfl,q⟩:=h
 obtain⟨u,w',rfl,⟨t,rfl⟩,⟨t',rfl⟩⟩:=Mr r
 refine up (max_two_ints (I.ok.hd hc) fun h' tk k hk=>⟨_,H,I.kept k,?_,q⟩)
 by_cases hj:j>i
 ·rw[aK hj,aK hj];exact⟨_,rfl⟩
 ·rw[aU hj,aU hj];exact⟨_,rfl⟩
theorem FJ(hc:X.calm=true):jb X (.builtin "min") (fun xs H Q=>∃i j,xs=[.int i,.int j]/\Q (.int (if j<i then j else i)) H):=by
 intro ak s σ H xs us Q I r h
 obtain⟨i,j,rfl,q⟩:=h
 obtain⟨u,w',rfl,⟨t,rfl⟩,⟨t',rfl⟩⟩:=Mr r
 refine up (min_two_ints (I.ok.hd hc) fun h' tk k hk=>⟨_,H,I.kept k,?_,q⟩)
 by_cases hj:j<i
 ·rw[aK hj,aK hj];exact⟨_,rfl⟩
 ·rw[aU hj,aU hj];exact⟨_,rfl⟩
theorem yB:jb X (.type "int") (fun xs H Q=>(∃i,xs=[.int i]/\Q (.int i) H)\/∃k,xs=[.bl k]/\Q (.int (if k then 1 else 0)) H):=by
 intro ak s σ H xs us Q I r h
 rcases h with⟨i,rfl,q⟩|⟨k,rfl,q⟩
 ·obtain⟨u,rfl,t,rfl⟩:=p6 r
  exact call_int_int ⟨.int i,H,I,⟨_,rfl⟩,q⟩
 ·obtain⟨u,rfl,r1⟩:=p6 r
  cases r1
  exact call_int_bool ⟨.int (if k then 1 else 0),H,I.tok _,⟨_,rfl⟩,q⟩
end
end L2
namespace L2
open PySem PySem.Spec PyProof.Rows
structure C9(h:Heap)(x dx C:Addr)(mA:Str->Option Value):Prop where
 obj:h.get? x=some (instObj C dx)
 ns:h.Ns1 dx mA
 ne:dx≠x
theorem FK{dx:Addr}(n:h.Ns1 dx mA):∃od,h.get? dx=some od/\∀name,lookIn name od=some (mA name):=by
 obtain⟨o,es,ep,ho,hd,hk,_,hm⟩:=n
 refine⟨o,ho,fun name=>?_⟩
 have e:=hm name
 unfold nsFind findBy at e
 rw[<- Array.find?_toList]at e
 unfold lookIn
 rw[hd]
 dsimp only
 split
 ·rename_i y q
  rw[q]at e
  exact ik some e
 ·rename_i q
  rw[q]at e
  have a:es.toList.any (·.refKey)=false:=by
   rw[List.any_eq_false]
   intro y hy
   obtain⟨z,t,hkey⟩:=hk y (Array.mem_toList_iff.mp hy)
   simp[DictEntry.refKey,hkey]
  have a':¬ es.toList.any (·.refKey)=true:=by rw[a];exact eU
  rw[aU a']
  exact ik some e
theorem C9.look{x dx:Addr}(I:C9 h x dx C mA):∃od,PySem.W.InstAt h x (instObj C dx) C (some od)/\∀name,lookIn name od=some (mA name):=
 let ⟨od,ho,hl⟩:=FK I.ns
 ⟨od,⟨I.obj,rfl,rfl,ho⟩,hl⟩
section
variable{w:World}{x dx f:Addr}
theorem K2{Vz:Bool}(X:K.In s.heap)(I:C9 s.heap x dx C mA)(hg:plainGet K C name=true)(hh:PySem.W.hasDictIn K C=true)
  (ha:findIn K (.ref C) name=some none) (hv:mA name=some v) (UG:PySem.W.handedIn v=true) (h:Q v { s with toks:=s.toks+1 }) :
  wpAny #[6] A (getAttr (.ref x) name Vz) Q E s:=by
 obtain⟨od,J,hl⟩:=I.look
 exact PySem.W.get_value X J (PySem.W.plainGet_of hg).1 (PySem.W.findObj_own hh ha rfl (by rw[hl,hv])) UG h
theorem G7{Q:Value×List Value->Shared->Prop}(X:K.In s.heap)(I:C9 s.heap x dx C mA)(hg:plainGet K C name=true)
  (hf:findIn K (.ref C) name=some (some (.ref f))) (ht:isFn K (.ref f)=true) (hv:mA name=none) (h:Q (.ref f,[.ref x]) s) :
  wpAny #[6] A (getMethod (.ref x) name pl) Q E s:=by
 obtain⟨od,J,hl⟩:=I.look
 exact PySem.W.method_fn X J (PySem.W.plainGet_of hg).1 (PySem.W.plainGet_of hg).2 hf (du.mp ht) (by show(lookIn name od).map (·.isSome)=some false;rw[hl,hv];rfl) h
theorem K4{ns:List Str}{Q:Unit->Shared->Prop}(X:K.In s.heap)(I:C9 s.heap x dx C mA)
  (hs:findIn K (.ref C) "__setattr__"=some (some (.builtin "object.__setattr__"))) (hp:PySem.W.plainOver K C=true) (ht:PySem.W.takerIn K C name=some none) (hh:PySem.W.hasDictIn K C=true)
  (hw:PySem.Within mA ns) (AZ:ns.length<=sizeLine)
  (h:∀h',C9 h' x dx C (fun y=>if y=name then some v else mA y)->Heap.SameBut dx s.heap h'->Q () { s with heap:=h',toks:=s.toks+2 }) :
  wpAny #[6] A (setAttr (.ref x) name v) Q E s:=by
 obtain⟨od,J,hl⟩:=I.look
 refine PySem.W.set_plain X J hs (PySem.W.osa_open (s:={ s with toks:=s.toks+1 }) (r:=none) X J hp ht fun b=>?_)
 obtain⟨cd,hc,hd'⟩:=PySem.W.any_some hh
 have hx:s.heap.get? x=some ⟨.ref C,some dx,.plain,#[]⟩:=I.obj
 refine af (ay (af (af (qF hx (af (PySem.W.Looks.here (s:={ s with toks:=s.toks+1 }) (PySem.W.looks_clsIn X hc) ?_))))))
 rw[hd']
 refine ay (a:=some dx) (af (ay (af ?_)))
 refine wpAny_nsSet1 (s:={ s with toks:=s.toks+1 }) I.ns fun h' TY u7=>?_
 obtain⟨oD,esD,epD,hoD,hdD,hcD⟩:=TY.count (PySem.Within.cons name v hw)
 refine af (wpAny_lookBehind hoD (by rw[hdD];exact pastItsLine_dict (aN hcD (by rw[bZ];omega))) ?_)
 exact ay (h _ ⟨(u7.2 _ (Ne.symm I.ne)).trans I.obj,TY,I.ne⟩ u7)
theorem G8{R:Result->Shared->Prop}{vs:List Value}(X:K.In s.heap)(hm:makesIn K C=true)
  (hi:findIn K (.ref C) "__init__"=some (some (.ref f))) (hf:PySem.W.typeIn K (.ref f)=some (.type "function"))
  (h:codeAny #[6] (A.under (.builtin "type.__call__" ⟨.ref C::vs,kw⟩)) (.call (.ref f) ⟨.ref #[7]::vs,kw⟩) (PySem.W.InitBack #[7] R)
   { s with heap:=(s.heap.push emptyDict).push (instObj C s.heap.objs.size) }) :
  codeAny #[6] A (.call (.ref C) ⟨vs,kw⟩) R s:=by
 obtain⟨hh,g,d,t,os⟩:=s
 exact PySem.W.make_core (PySem.W.makes_of X hm) (PySem.W.looks_findIn X hi) (fun self=>PySem.W.bind_fn X self hf) (.inl rfl) h
end
def pS(f:Str)(v:V):List (Str×V)->List (Str×V)
 |[]=>[(f,v)]
 |(g,x)::r=>if g=f then(g,v)::r else(g,x)::pS f v r
theorem vb(f g:Str)(v:V):∀fs:List (Str×V),(pS f v fs).lookup g=if g=f then some v else fs.lookup g
 |[]=>by
  show List.lookup g [(f,v)]=_
  by_cases h:g=f
  ·have hb:(g==f)=true:=du.mpr h
   simp only[List.lookup,hb,aK h]
  ·have hb:(g==f)=false:=bp.mpr h
   simp only[List.lookup,hb,aU h]
 |(k,x)::r=>by
  have ih:=vb f g v r
  rw[show pS f v ((k,x)::r)=(if k=f then(k,v)::r else(k,x)::pS f v r)from rfl]
  by_cases hk:k=f
  ·rw[aK hk]
   by_cases h:g=k
   ·have hb:(g==k)=true:=du.mpr h
    simp only[List.lookup,hb,aK (h.trans hk)]
   ·have hb:(g==k)=false:=bp.mpr h
    simp only[List.lookup,hb,aU (fun e:g=f=>h (e.trans hk.symm))]
  ·rw[aU hk]
   by_cases h:g=k
   ·have hb:(g==k)=true:=du.mpr h
    simp only[List.lookup,hb,aU (fun e:g=f=>hk (h.symm.trans e))]
   ·have hb:(g==k)=false:=bp.mpr h
    simp only[List.lookup,hb]
    exact ih
theorem ur(f:Str)(v:V):∀fs:List (Str×V),f∈(pS f v fs).map (·.1)/\∀g,g∈fs.map (·.1)->g∈(pS f v fs).map (·.1)
 |[]=>⟨by simp[pS],fun g h=>by simp at h⟩
 |(k,x)::r=>by
  obtain⟨i1,i2⟩:=ur f v r
  rw[show pS f v ((k,x)::r)=(if k=f then(k,v)::r else(k,x)::pS f v r)from rfl]
  by_cases hk:k=f
  ·rw[aK hk]
   subst hk
   exact⟨by simp,fun g h=>by simpa using h⟩
  ·rw[aU hk]
   refine⟨?_,fun g h=>?_⟩
   ·rw[bq]
    exact aW _ i1
   ·rw[bq]at h ⊢
    rcases aX.mp h with e|e
    ·exact aX.mpr (.inl e)
    ·exact aW _ (i2 g e)
theorem vc(f:Str)(v:V):∀fs:List (Str×V),(pS f v fs).length<=fs.length+1
 |[]=>by simp[pS]
 |(k,x)::r=>by
  have ih:=vc f v r
  rw[show pS f v ((k,x)::r)=(if k=f then(k,v)::r else(k,x)::pS f v r)from rfl]
  by_cases hk:k=f
  ·rw[aK hk,bZ,bZ];omega
  ·rw[aU hk,bZ,bZ];omega
theorem ul.some_of{v:V}{o:Option Value}(r:ul nk (some v) o):∃u,o=some u/\dz nk v u:=by
 cases o with
 |none=>exact(show False from r).elim
 |some u=>exact⟨u,rfl,r⟩
theorem ul.none_of{o:Option Value}(r:ul nk none o):o=none:=by
 cases o with
 |none=>rfl
 |some u=>exact(show False from r).elim
theorem FL{v:V}(r:dz nk v u):PySem.W.handedIn u=true:=by
 cases v with
 |non=>cases(show u=Value.none from r);rfl
 |bl b=>cases(show u=Value.bool b from r);rfl
 |int i=>obtain⟨t,e⟩:=(show ∃t,u=Value.int i t from r);cases e;rfl
 |str x=>obtain⟨t,e⟩:=(show ∃t:Tk _ x,u=Value.str x t.1 from r);cases e;rfl
 |byt b=>obtain⟨t,e⟩:=(show ∃t,u=Value.bytes b t from r);cases e;rfl
 |flt b=>obtain⟨t,e⟩:=(show ∃t,u=Value.float b t from r);cases e;rfl
 |ref a=>cases(show u=Value.ref a from r);rfl
 |ty n=>cases(show u=Value.type n from r);rfl
section
variable{w:World}{a dx:Addr}{fs T0:List (Str×V)}
theorem vQ(hok:uj P w nk H h)(e:H a=some (.ins C dx fs)):∃mA,C9 h a dx C mA/\(∀f,ul nk (fs.lookup f) (mA f))/\PySem.Within mA (fs.map (·.1))/\fs.length<=1000/\H dx=some (.own a):=by
 obtain⟨d,z,ne,ob,mA,n,r,q⟩:=(show gZ P w _ H h a (.ins C dx fs)from hok a _ e)
 exact⟨mA,⟨ob,n,ne⟩,r,q,z,d⟩
end
structure Cls(K:Frag)(C:Addr):Prop where
 pg:plainGet K C Str.empty=true
 hd:PySem.W.hasDictIn K C=true
 po:PySem.W.plainOver K C=true
 sa:findIn K (.ref C) "__setattr__"=some (some (.builtin "object.__setattr__"))
theorem Cls.get(c:Cls K C)(f:Str):plainGet K C f=true:=c.pg
def rX(K:Frag)(C:Addr)(f:Str):Prop:=findIn K (.ref C) f=some none
theorem rX.taker{f:Str}(n:rX K C f):PySem.W.takerIn K C f=some none:=by
 unfold PySem.W.takerIn
 rw[show findIn K (.ref C) f=some none from n]
 rfl
structure Rz(K:Frag)(C:Addr)(m:Str)(f:Addr):Prop where
 at_:findIn K (.ref C) m=some (some (.ref f))
 fn:isFn K (.ref f)=true
 kp:keepIn K (.ref f)=true
section
variable{a dx:Addr}{fs:List (Str×V)}{f:Str}{v:V}
theorem C_{b:Bool}(I:bH X ak σ H s)(e:H a=some (.ins C dx fs))(c:Cls X.K C)(n:rX X.K C f)(l:fs.lookup f=some v)
  (h:∀u s',bH X ak σ H s'->dz s'.toks v u->Q u s'):wpAny #[4] A (getAttr (.ref a) f b) Q E s:=by
 obtain⟨mA,O,r,_,_,_⟩:=vQ I.hok e
 obtain⟨u,hu,ru⟩:=ul.some_of (v:=v) (o:=mA f) (by rw[<- l];exact r f)
 exact K2 I.kIn O (c.get f) c.hd n hu (FL ru) (h u _ (I.tok _) (ru.up (bn _)))
theorem wb{m:Str}{g:Addr}{Q:Value×List Value->Shared->Prop}(I:bH X ak σ H s)(e:H a=some (.ins C dx fs))(c:Cls X.K C)(k:Rz X.K C m g)(l:fs.lookup m=none)
  (h:Q (.ref g,[.ref a]) s):wpAny #[4] A (getMethod (.ref a) m pl) Q E s:=by
 obtain⟨mA,O,r,_,_,_⟩:=vQ I.hok e
 have hn:mA m=none:=ul.none_of (by rw[<- l];exact r m)
 exact G7 I.kIn O (c.get m) k.at_ k.fn hn h
theorem Da{y:V}{Q:Unit->Shared->Prop}(I:bH X ak σ H s)(e:H a=some (.ins C dx fs))(c:Cls X.K C)(n:rX X.K C f)(hl:fs.length<1000)(ry:dz s.toks y u)
  (h:∀s',bH X ak σ (fU H a (.ins C dx (pS f y fs))) s'->Q () s'):wpAny #[4] A (setAttr (.ref a) f u) Q E s:=by
 obtain⟨mA,O,r,wi,_,ho⟩:=vQ I.hok e
 have hz:(fs.map (·.1)).length<=sizeLine:=by rw[aE,lq];omega
 refine K4 I.kIn O c.sa c.po n.taker c.hd wi hz fun h' O' sb=>h _ ?_
 have hd:∃o,h'.get? dx=some o:=let ⟨o,_,_,e',_⟩:=O'.ns;⟨o,e'⟩
 refine I.write (x:=a) (e:=dx) (by rw[e];exact True.intro) (.inr ho) (fun b q hb z=>(sb.2 b hb).trans z) hd ?_
 refine⟨by rw[cX O.ne];exact ho,?_,O.ne,O'.obj,_,O'.ns,fun g=>?_,fun g hg=>?_⟩
 ·have:=vc f y fs;omega
 ·show ul _ ((pS f y fs).lookup g) (if g=f then some u else mA g)
  rw[vb]
  by_cases q:g=f
  ·rw[aK q,aK q];exact dz.up (n_ _ _) ry
  ·rw[aU q,aU q];exact(r g).up (n_ _ _)
 ·by_cases q:g=f
  ·rw[q];exact(ur f y fs).1
  ·refine(ur f y fs).2 g (wi g fun z=>hg ?_)
   show(if g=f then some u else mA g)=none
   rw[aU q];exact z
theorem bH.made(I:bH X ak σ H s):bH X ak σ (fU (fU H s.heap.objs.size (.own #[7])) #[7] (.ins C s.heap.objs.size []))
  { s with heap:=(s.heap.push emptyDict).push (instObj C s.heap.objs.size) }:=by
 have e1:(s.heap.push emptyDict).get? s.heap.objs.size=some emptyDict:=aC s.heap rfl
 have e2:((s.heap.push emptyDict).push (instObj C s.heap.objs.size)).get? #[7]=some (instObj C s.heap.objs.size):=by
  have:=aC (s.heap.push emptyDict) (o:=instObj C s.heap.objs.size) rfl
  rwa[bw]at this
 have e3:(s.heap.push emptyDict).Ns s.heap.objs.size (fun _=>none):=⟨emptyDict,#[],_,e1,rfl,(fun e he=>absurd he #[15]),fun _=>rfl⟩
 have I1:=I.laid (a:=s.heap.objs.size) (o:=.own #[7]) (h':=s.heap.push emptyDict) (t':=s.toks) (fun b u q=>aw _ q) (aA _) ⟨_,e1⟩
 refine I1.laid (a:=s.heap.objs.size+1) (o:=.ins C s.heap.objs.size []) (t':=s.toks) (fun b u q=>aw _ q) (Nat.le_of_eq (bw _ _)) ?_
 have ne:s.heap.objs.size≠s.heap.objs.size+1:=a9 (cb _)
 refine⟨by rw[cX ne,ia],bY _,ne,e2,fun _=>none,(Heap.Ns1.of_empty e3).at fun o q=>aw _ q,fun _=>True.intro,fun y hy=>absurd rfl hy⟩
theorem K5{w:World}(hb:attributeBase e f env (eval e env)=eval e env)
  (h:wpAny #[6] A (eval e env) (fun o s₁=>wpAny #[6] A (getAttr o f true) Q E s₁) E s):wpAny #[6] A (eval (.Attribute e f pos) env) Q E s:=
 Attribute_any_ h (by rw[arm_eval_Attribute,hb])
end
def U2(K:Frag)(ta:TE)(f:Str):TE:=fun σ H Q=>ta σ H fun x H1=>∃a C dx fs v,x=.ref a/\H1 a=some (.ins C dx fs)/\Cls K C/\rX K C f/\fs.lookup f=some v/\Q v H1
def U3(K:Frag)(ta tv:TE)(f:Str):TS:=fun D σ H=>tv σ H fun y H1=>ta σ H1 fun x H2=>∃a C dx fs,x=.ref a/\H2 a=some (.ins C dx fs)/\Cls K C/\rX K C f/\fs.length<1000 /\
 D.nx σ (fU H2 a (.ins C dx (pS f y fs)))
section
variable{value:Expr}{f:Str}{VC:Pos}{ta tv:TE}
theorem Oq(he:PE X e ta)(hb:attributeBase e f X.env (eval e X.env)=eval e X.env):PE X (.Attribute e f pos) (U2 X.K ta f):=by
 intro ak s σ H Q I h
 refine K5 hb (kr (he ak s σ H _ I h) fun u s1 kt1 zq=>?_)
 obtain⟨x,H1,I1,rx,a,C,dx,fs,v,ex,ea,c,n,l,q⟩:=zq
 subst ex
 obtain rfl:u=Value.ref a:=rx
 exact C_ I1 ea c n l fun u' s2 I2 ru=>⟨v,H1,I2,ru,q⟩
theorem Os(ha:PE X o ta)(hv:PE X value tv)(hs:swapsWith value (some (.Attribute o f i9)) pos.line X.env=pure false):PS X (.Assign [.Attribute o f i9] value pos) (U3 X.K ta tv f):=by
 intro ak s σ H D I h
 refine plainObj_wpAny_Assign_Attribute (kr (hv ak s σ H _ I h) fun u s1 kt1 ⟨y,H1,I1,ry,q⟩=>kr (ha ak s1 σ H1 _ I1 q) fun ov s2 kt2 ⟨x,H2,I2,rx,a,C,dx,fs,ex,ea,c,n,l,q2⟩=>?_) hs
 subst ex
 obtain rfl:ov=Value.ref a:=rx
 exact Da I2 ea c n l (ry.up kt2) fun s3 I3=>⟨σ,_,I3,q2⟩
end
section
variable{c:Value}{b:Bool}
inductive vy(K:Frag)(H:Hp):V->Value->Prop where
 |non:vy K H .non (.type "NoneType")
 |bl (x:Bool):vy K H (.bl x) (.type "bool")
 |int (i:Int):vy K H (.int i) (.type "int")
 |str (x:Str):vy K H (.str x) (.type "str")
 |flt (x:UInt64):vy K H (.flt x) (.type "float")
 |lst {a:Addr} {xs:List V} (e:H a=some (.lst xs)):vy K H (.ref a) (.type "list")
 |frz {a:Addr} {o:Obj} {xs:List V} (e:H a=some (.frz o (.lst xs))):vy K H (.ref a) (.type "list")
 |tup {a:Addr} {xs:List V} (e:H a=some (.tup xs)):vy K H (.ref a) (.type "tuple")
 |dK {a:Addr} {g_:List (v8×V)} (e:H a=some (.dK g_)):vy K H (.ref a) (.type "dict")
 |dT {a:Addr} {g_:List (List v8×V)} (e:H a=some (.dT g_)):vy K H (.ref a) (.type "dict")
 |ins {a C dx:Addr} {fs:List (Str×V)} (e:H a=some (.ins C dx fs)) (cl:Cls K C) (ha:findIn K (.ref C) "__class__"=some (some (.builtin "object.__class__")))
   (hn:PySem.W.specialIn K (.builtin "object.__class__") "__get__"=some (some (.builtin "getset_descriptor.__get__"))) (UJ:PySem.W.takesIn K (.builtin "object.__class__")=some true)
   (hm:PySem.W.mroIn K C (.type "object")=some true):vy K H (.ref a) (.ref C)
theorem qM{x:V}{t:Value}(I:bH X ak σ H s)(rx:dz s.toks x u)(ty:vy X.K H x t)(e:kitOne X.K t c=some b)(h:∀tk,Q (.bool b) { s with toks:=tk }) :
  wpAny #[4] A (call (.builtin "isinstance") [u,c]) Q E s:=by
 cases ty with
 |non=>cases(show u=Value.none from rx);exact kia_one PySem.W.kitx_none I.kIn True.intro e (fun z=>nomatch z) h
 |bl y=>cases(show u=Value.bool y from rx);exact kia_one PySem.W.kitx_bool I.kIn True.intro e (fun z=>nomatch z) h
 |int i=>obtain⟨t,q⟩:=(show ∃t,u=Value.int i t from rx);cases q;exact kia_one PySem.W.kitx_int I.kIn True.intro e (fun z=>nomatch z) h
 |str y=>obtain⟨t,q⟩:=(show ∃t:Tk _ y,u=Value.str y t.1 from rx);cases q;exact kia_one PySem.W.kitx_str I.kIn True.intro e (fun z=>nomatch z) h
 |flt y=>obtain⟨t,q⟩:=(show ∃t,u=Value.float y t from rx);cases q;exact kia_one PySem.W.kitx_float I.kIn True.intro e (fun z=>nomatch z) h
 |@lst a xs ea=>
  cases(show u=Value.ref a from rx)
  obtain⟨_,_,n,_,h1⟩:=(show gZ X.prog X.w _ H s.heap a (.lst xs)from I.hok a _ ea)
  exact kia_one PySem.W.kitx_list I.kIn ⟨_,h1,rfl⟩ e (fun z=>nomatch z) h
 |@frz a ob xs ea=>
  cases(show u=Value.ref a from rx)
  obtain⟨_,_,_,n,_,h1⟩:=(show gZ X.prog X.w _ H s.heap a (.frz ob (.lst xs))from I.hok a _ ea)
  exact kia_one PySem.W.kitx_list I.kIn ⟨_,h1,rfl⟩ e (fun z=>nomatch z) h
 |@tup a xs ea=>
  cases(show u=Value.ref a from rx)
  obtain⟨_,_,_,p⟩:=(show gZ X.prog X.w _ H s.heap a (.tup xs)from I.hok a _ ea)
  obtain⟨o,h1,h2,_⟩:=p
  exact kia_one PySem.W.kitx_tuple I.kIn ⟨o,h1,h2⟩ e (fun z=>nomatch z) h
 |@dK a g_ ea=>
  cases(show u=Value.ref a from rx)
  obtain⟨_,_,vs,_,p⟩:=(show gZ X.prog X.w _ H s.heap a (.dK g_)from I.hok a _ ea)
  obtain⟨o,es,ep,h1,h2,_⟩:=p
  exact kia_one PySem.W.kitx_dict I.kIn ⟨o,h1,h2.1⟩ e (fun z=>nomatch z) h
 |@dT a g_ ea=>
  cases(show u=Value.ref a from rx)
  obtain⟨_,_,xs,_,o,es,ep,h1,h2,_⟩:=(show gZ X.prog X.w _ H s.heap a (.dT g_)from I.hok a _ ea)
  exact kia_one PySem.W.kitx_dict I.kIn ⟨o,h1,h2.1⟩ e (fun z=>nomatch z) h
 |@ins a C dx fs ea cl ha hn UJ hm=>
  cases(show u=Value.ref a from rx)
  obtain⟨mA,O,_⟩:=vQ I.hok ea
  obtain⟨od,J,_⟩:=O.look
  exact kia_one (PySem.W.kitx_own (cl.get _) cl.hd ha hn UJ hm) I.kIn J e (fun z=>nomatch z) h
end
end L2
namespace L2
open PySem PySem.Spec PyProof.Rows
structure jW(k:Nat)(A:Around):Prop where
 hd:A.handled=none
 dp:A.depth+2*k+5<recursionLimit
 un:A.units+16*k+200<cLine
theorem jW.mono(r:jW k A)(h:j<=k):jW j A:=⟨r.hd,by have:=r.dp;omega,by have:=r.un;omega⟩
theorem jW.deeper(r:jW (k+1) A)(env:Env):jW k (A.deeper env):=
 ⟨r.hd,by have:=r.dp;show A.depth+1+2*k+5<_;omega,by have:=r.un;show A.units+3+16*k+200<_;omega⟩
theorem Db:(A.under (.builtin "type.__call__" ⟨.ref C::us,kw⟩)).depth=A.depth+1:=by
 first|rfl|simp[Around.under,Code.weight,Code.isCreation,Code.isGuard,Code.isCaller,Code.frames,Code.isFrame,guardIds]
theorem Dc:(A.under (.builtin "type.__call__" ⟨.ref C::us,kw⟩)).units=A.units+1:=by
 first|rfl|simp[Around.under,Code.cUnits,Code.frames,Code.isFrame]
theorem jW.make(r:jW (k+1) A)(C:Addr)(us:List Value)(kw:List (Str×Value)):jW k (A.under (.builtin "type.__call__" ⟨.ref C::us,kw⟩)):=
 ⟨r.hd,by have:=r.dp;rw[Db];omega,by have:=r.un;rw[Dc];omega⟩
theorem jW.depth(r:jW k A):A.depth<recursionLimit:=by have:=r.dp;omega
theorem jW.units(r:jW k A):A.units+64<cLine:=by have:=r.un;omega
def U4:TA:=fun _ H Q=>Q [] H
def RA(ta:TE)(tr:TA):TA:=fun σ H Q=>ta σ H fun x H1=>tr σ H1 fun xs H2=>Q (x::xs) H2
section
variable{t:TA}
theorem ut:PA X [] U4:=fun _ _ _ _ H Q I h=>iH ⟨[],H,I,.nil,h⟩
theorem kW(ha:PE X e te)(hr:PA X es t)(hs:starEach (e::es) X.env=(false,eval e X.env)::starEach es X.env:=by rfl):PA X (e::es) (RA te t):=by
 intro pos ak s σ H Q I h
 rw[hs]
 show wpAny _ _ (spliced ((false,eval e X.env)::backTo pos (starEach es X.env))) _ _ s
 refine fO (kr (ha ak s σ H _ I h) fun u s1 kt1 zq=>?_)
 obtain⟨x,H1,I1,r1,q1⟩:=zq
 exact kr (hr pos ak s1 σ H1 _ I1 q1) fun us s2 kt2 ⟨xs,H2,I2,r2,q2⟩=>⟨x::xs,H2,I2,.cons (r1.up kt2) r2,q2⟩
end
abbrev Sp:=List V->Hp->VK->XK->Prop
abbrev FM:=List Env->Hp->Shared->XK->Value->Shared->Prop
structure De(P:Program)(w:World)(K:Frag)(mg:Str->Option Value)(base:Heap)(A:Around)(outer:List Env)(s:Shared)(H:Hp):Prop where
 frames:A.frames=some outer
 mod:Mod K mg base
 bs:∀b o,base.get? b=some o->s.heap.get? b=some o/\H b=none
 bsz:base.objs.size<=s.heap.objs.size
 funs:s.heap.FunFrames base outer
 frf:∀b∈sN outer,H b=none
 hok:uj P w s.toks H s.heap
 bare:AllBare s.gens
def CE(outer:List Env)(P:Program)(w:World)(H:Hp)(s:Shared)(Q:VK)(u:Value)(s':Shared):Prop:=
 ∃v H',s'.os=s.os/\AllBare s'.gens/\Un (sN outer) [] H H' s.heap s'.heap/\uj P w s'.toks H' s'.heap/\dz s'.toks v u/\Q v H'
def CR(CX:FM)(outer:List Env)(P:Program)(w:World)(H:Hp)(s:Shared)(Q:VK)(E:XK)(r:Result)(s':Shared):Prop:=
 match r with
 |.ok (.ret u)=>CE outer P w H s Q u s'
 |.ok _=>False
 |.error e=>CX outer H s E e s'
structure c6(P:Program)(w:World)(K:Frag)(mg:Str->Option Value)(base:Heap)(CX:FM)(k:Nat)(f:Addr)(fd:FuncData)(ps:List Str)(sp:Sp):Prop where
 len:∀vs H Q E,sp vs H Q E->vs.length=ps.length
 run:∀(A:Around) (outer:List Env) (s:Shared) (H:Hp) (args:Args) (us:List Value) (vs:List V) (Q:VK) (E:XK),jW k A->De P w K mg base A outer s H->(0<s.toks\/∃n,ps=[n]/\fd.scope.names.lookup n=some .local)->BindsTo s fd args (ps.zip us)->cK s.toks vs us->sp vs H Q E ->
  codeAny (model P w) A (.call (.ref f) args) (CR CX outer P w H s Q E) s
theorem c6.mono{w:World}{CX:FM}{f:Addr}{sp:Sp}(F:c6 P w K mg base CX j f fd ps sp)(h:j<=k) :
  c6 P w K mg base CX k f fd ps sp:=⟨F.len,fun A outer s H args us vs Q E hr=>F.run A outer s H args us vs Q E (hr.mono h)⟩
theorem c6.imp{w:World}{CX:FM}{f:Addr}{sp Wf:Sp}(F:c6 P w K mg base CX k f fd ps sp)
  (h:∀vs H Q E,Wf vs H Q E->sp vs H Q E):c6 P w K mg base CX k f fd ps Wf:=
 ⟨fun vs H Q E q=>F.len vs H Q E (h _ _ _ _ q),fun A outer s H args us vs Q E hr he hp hb hv hs=>F.run A outer s H args us vs Q E hr he hp hb hv (h _ _ _ _ hs)⟩
theorem De.make{w:World}(e:De P w K mg base A outer s H)(C:Addr)(us:List Value)(kw:List (Str×Value)) :
  De P w K mg base (A.under (.builtin "type.__call__" ⟨.ref C::us,kw⟩)) outer s H:=⟨by first|exact e.frames|(simpa[Around.under,Code.envs,Code.isFrame,pushEnvs]using e.frames),e.mod,e.bs,e.bsz,e.funs,e.frf,e.hok,e.bare⟩
section
variable{s':Shared}
theorem bH.env0(I:bH X ak σ H s):De X.prog X.w X.K X.mg X.base X.A X.stack s H:=
 ⟨I.ok.frames,I.ok.mod,I.bs,aN I.ok.bsz I.sz,I.stack,I.stkFree,I.hok,I.bare⟩
theorem bH.after{Q:VK}(I:bH X ak σ H s)(h:CE X.stack X.prog X.w H s Q u s')(hk:s.toks<=s'.toks):EP X ak σ Q u s':=by
 obtain⟨v,H',os,bare,un,hok,r,q⟩:=h
 obtain⟨hh,g,d,t,os'⟩:=s'
 obtain rfl:os'=s.os:=os
 exact⟨v,H',I.call (h':=hh) (g':=g) (d':=d) (t':=t) (ch:=[]) un hok bare (fun b z=>absurd z #[15]) hk,r,q⟩
end
def rd(K:Frag)(fd:FuncData)(ps:List Str)(ds:List Value):Prop:=
 ∀(s:Shared) (us:List Value),K.In s.heap->(us++ds).length=ps.length->BindsTo s fd ⟨us,[]⟩ (ps.zip (us++ds))
theorem rd.all(h:∀us:List Value,us.length=ps.length->bindArgs fd ⟨us,[]⟩=pure (ps.zip us)):rd K fd ps []:=fun s us _ hl=>by
 rw[a8]at hl ⊢
 exact .of_eq (h us hl)
def Ot(CX:FM)(X:Cx)(E:XK):Prop:=∀(ak:List (Addr×Obj)) (σ:St) (H:Hp) (s:Shared) (e:Value) (s':Shared),bH X ak σ H s->s.toks<=s'.toks->CX X.stack H s E e s'->X.xe e s'
section
variable{CX:FM}{f:Addr}{sp:Sp}{dvs:List V}{ds:List Value}{E:XK}{m:Str}{ta:TE}{t:TA}
structure Mk(K:Frag)(C f:Addr):Prop where
 makes:makesIn K C=true
 init:findIn K (.ref C) "__init__"=some (some (.ref f))
 fn:isFn K (.ref f)=true
 kp:keepIn K (.ref C)=true
theorem G9{Q:VK}(M:Mk X.K C f)(F:c6 X.prog X.w X.K X.mg X.base CX k f fd ps sp)(hr:jW (k+1) X.A)(hb:rd X.K fd ps ds)(hd:cK 0 dvs ds)
  (hx:Ot CX X E) (I:bH X ak σ H s) (r:cK s.toks vs us)
  (h:∀x dx,H x=none->H dx=none->dx≠x->sp (.ref x::(vs++dvs)) (fU (fU H dx (.own x)) x (.ins C dx [])) (fun v H2=>v=.non/\Q (.ref x) H2) E) :
  wpAny #[4] X.A (call (.ref C) us) (EP X ak σ Q) X.xe s:=by
 have hq:=h #[7] s.heap.objs.size (I.hok.fresh (bn _)) (I.hok.fresh (aA _)) (a9 (cb _))
 have I2:=bH.made (C:=C) I
 have r2:cK _ (V.ref #[7]::(vs++dvs)) (Value.ref #[7]::(us++ds)):=.cons rfl ((r.append (hd.up (bY _))).up (by first|exact aA _|exact n_ _ _|omega))
 have hl:(Value.ref #[7]::us++ds).length=ps.length:=by
  have e:=r2.length
  rw[F.len _ _ _ _ hq]at e
  exact e.symm
 refine up (sL (G8 (f:=f) I.kIn M.makes M.init (du.mp M.fn) (i_ (F.run _ X.stack _ _ ⟨Value.ref #[7]::us,[]⟩ (Value.ref #[7]::(us++ds)) _ _ E (hr.make C us [])
  (I2.env0.make C us []) (.inl I2.pos) (hb _ (Value.ref #[7]::us) I2.kIn hl) r2 hq) fun r s' hq'=>?_)))
 cases r with
 |error e=>exact fun kt=>hx ak σ _ _ e s' I2 kt hq'
 |ok fl=>
  cases fl with
  |ret u=>
   have kq:s.toks<=s'.toks->_:=fun kt=>I2.after hq' kt
   refine⟨?_,fun kt=>?_⟩
   ·obtain⟨v,H',_,_,_,_,rv,ev,_⟩:=hq'
    subst ev
    exact rv
   ·obtain⟨v,H',I3,rv,ev,q3⟩:=kq kt
    exact⟨V.ref #[7],H',I3,rfl,q3⟩
  |next=>exact False.elim hq'
  |brk=>exact False.elim hq'
  |cont=>exact False.elim hq'
end
section
variable{CX:FM}{f:Addr}{sp:Sp}{E:XK}{m:Str}{Wz:Pos}{WC:List Keyword}{ta:TE}{t tk:TA}{nm:Option Str}
variable{g:List Value->List Value->List Value}{gV:List V->List V->List V}
end
structure ba(N P:List Str)(sc:Scope):Prop where
 kind:sc.kind=.function
 co:sc.isCoroutine=false
 gen:sc.isGenerator=false
 nd:N.Nodup
 pre:N.take P.length=P
 par:∀x∈P,sc.names.lookup x=some .local\/sc.names.lookup x=some .cell
 nofree:∀y∈sc.names,y.2≠.free
theorem yC:∀{binds:List (Str×Value)} {m:Str->Option Value},(∀v,(x,v)∉binds)->bindL kindOf binds m x=m x
 |[],_,_=>rfl
 |(n,v)::r,m,h=>by
  unfold bindL
  rw[yC fun w hw=>h w (aW _ hw)]
  split
  ·have:x≠n:=by rintro rfl;exact h v cr
   simp[this]
  ·rfl
theorem yD:∀{binds:List (Str×Value)} {m:Str->Option Value},(∀v,(x,v)∉binds)->bindC kindOf binds m x=m x
 |[],_,_=>rfl
 |(n,v)::r,m,h=>by
  unfold bindC
  rw[yD fun w hw=>h w (aW _ hw)]
  split
  ·rfl
  ·have:x≠n:=by rintro rfl;exact h v cr
   simp[this]
theorem yE:∀{P:List Str} {vs:List Value} {i:Nat} {m:Str->Option Value},P.Nodup->P[i]?=some x->vs[i]?=some v->kindOf x=some .local ->
  bindL kindOf (P.zip vs) m x=some v
 |[],_,_,_,_,h,_,_=>by simp at h
 |_::_,[],_,_,_,_,h,_=>by simp at h
 |p::P,w::vs,0,m,nd,h1,h2,hk=>by
  simp at h1 h2;subst h1;subst h2
  show bindL kindOf ((p,w)::P.zip vs) m p=_
  unfold bindL
  rw[yC fun v hv=>(jx.mp nd).1 (pM hv).1,aK hk]
  simp
 |p::P,w::vs,i+1,m,nd,h1,h2,hk=>by
  show bindL kindOf ((p,w)::P.zip vs) m x=_
  unfold bindL
  exact yE (i:=i) (jx.mp nd).2 (by simpa using h1) (by simpa using h2) hk
theorem yF:∀{P:List Str} {vs:List Value} {i:Nat} {m:Str->Option Value},P.Nodup->P[i]?=some x->vs[i]?=some v->kindOf x≠some .local ->
  bindC kindOf (P.zip vs) m x=some v
 |[],_,_,_,_,h,_,_=>by simp at h
 |_::_,[],_,_,_,_,h,_=>by simp at h
 |p::P,w::vs,0,m,nd,h1,h2,hk=>by
  simp at h1 h2;subst h1;subst h2
  show bindC kindOf ((p,w)::P.zip vs) m p=_
  unfold bindC
  rw[yD fun v hv=>(jx.mp nd).1 (pM hv).1,aU hk]
  simp
 |p::P,w::vs,i+1,m,nd,h1,h2,hk=>by
  show bindC kindOf ((p,w)::P.zip vs) m x=_
  unfold bindC
  exact yF (i:=i) (jx.mp nd).2 (by simpa using h1) (by simpa using h2) hk
def vd(N:List Str)(vs:List V):St:=vs.map some++List.replicate (N.length-vs.length) none
def Df(CX:FM)(P:Program)(w:World)(K:Frag)(mg:Str->Option Value)(base:Heap)(N:List Str)(fM:Str)(scope:Scope)(f:Addr)(cd:Value)(A:Around)(outer:List Env)(s:Shared)(H:Hp)(E:XK):Cx where
 prog:=P
 w:=w
 K:=K
 mg:=mg
 base:=base
 A:=A.deeper (envOfC fM scope s.heap.objs.size f cd)
 N:=N
 s₀:=s
 H₀:=H
 env:=envOfC fM scope s.heap.objs.size f cd
 outer:=outer
 stack:=envOfC fM scope s.heap.objs.size f cd::outer
 ex:=[]
 calm:=true
 fn:=fun _=>true
 pn:=[]
 xe:=fun e s'=>wpAny (model P w) (A.deeper (envOfC fM scope s.heap.objs.size f cd)) (leaving (envOfC fM scope s.heap.objs.size f cd) e) (fun _ s''=>CX outer H s E e s'') (fun e' s''=>CX outer H s E e' s'') s'
theorem nM{sc:Scope}{n:Nat}(h:sc.names.lookup x=some .cell):∃c,(cellsFrom n sc.names []).lookup x=some c:=by
 have q:=PySem.W.cellsFrom_some sc.names n [] (.inl h)
 exact Option.isSome_iff_exists.mp q
theorem Dg{globals:Addr}{n:Str}{func:Option Addr}{code:Value}{builtins:Addr}{Q:Env->Shared->Prop}
  (hk:scope.kind=.function) (hl:scope.names.lookup n=some .local)
  (hQ:∀env,env=newEnv scope s.heap.objs.size globals (cellsFrom #[7] scope.names []) fM func code none builtins ->
   ∀s',s.toks<s'.toks->InCallC s env.locals (bindL env.kindOf [(n,v)] fun _=>none) env.cells (bindC env.kindOf [(n,v)] fun _=>none) s'->Q env s') :
  wpAny M A (newFunctionEnv scope globals [] [(n,v)] fM func code none builtins) Q E s:=by
 simp only[newFunctionEnv,Option.isSome_none,fP,gW]
 refine af (wpAny_alloc ?_)
 refine af (wpAny_layCells _ (fun name kind cells=>by cases hkc:kind==NameKind.cell<;>simp[hkc]) _ _ _ _ ?_)
 have ok:=cellsFrom_ok scope.names (s.heap.push { cls:=.type "frame",data:=.dict #[] }) #[7] [] ⟨fun _ _ hm=>(nomatch hm),List.Pairwise.nil⟩ (by rw[bw];exact aA _)
 rw[bw]at ok
 rw[show({ s with heap:=s.heap.push { cls:=.type "frame",data:=.dict #[] } }:Shared).heap.objs.size=s.heap.objs.size+1 from bw ..]
 have x:InCallC s s.heap.objs.size (fun _=>none) (cellsFrom #[7] scope.names []) (fun _=>none) { s with heap:=pushCells (s.heap.push { cls:=.type "frame",data:=.dict #[] }) scope.names }:=
  ⟨⟨⟨_,_,rfl⟩,(Heap.Ns.new s.heap (.type "frame")).keeps (lP _ _),fun b o e=>lP _ _ b o (aw _ e),aA _⟩,
   fun n c hc=>(ok.empty n c (PySem.mem_of_lookup hc)).1,ok.apart,fun n c hm=>(ok.empty n c hm).2⟩
 refine af ?_
 rw[lQ]
 refine af (af (pT (env:=newEnv scope s.heap.objs.size globals (cellsFrom #[7] scope.names []) fM func code none builtins) hl x.toInCall.ns (fun h' T7 hs'=>ay ?_) (by show(scope.kind==_||(scope.kind==_&&_))=false;rw[hk];rfl)))
 show wpAny M A (forIn [] _ _) _ _ _
 rw[qG]
 refine ay (ay (hQ _ rfl _ (cb _) ?_))
 have e1:bindL (newEnv scope s.heap.objs.size globals (cellsFrom #[7] scope.names []) fM func code none builtins).kindOf [(n,v)] (fun _=>none)=fun y=>if y=n then some v else none:=by
  show(if _=some NameKind.local then _ else _)=_;exact aK hl
 have e2:bindC (newEnv scope s.heap.objs.size globals (cellsFrom #[7] scope.names []) fM func code none builtins).kindOf [(n,v)] (fun _=>none)=fun _=>none:=by
  show(if _=some NameKind.local then _ else _)=_;exact aK hl
 rw[e1,e2]
 refine⟨⟨?_,T7,fun b o e=>?_,x.toInCall.fresh⟩,fun k c hc=>?_,x.apart,x.above⟩
 ·exact⟨h',_,rfl⟩
 ·exact hs'.extBut b o (a9 (aL (aJ e) x.toInCall.fresh)) (x.toInCall.keep b o e)
 ·exact(x.cell k c hc).sameBut hs' (et (x.above k c (PySem.mem_of_lookup hc)))
theorem FN{CX:FM}{w:World}{N:List Str}{f:Addr}{cd:Value}{s1:Shared}{E:XK}
  (S:ba N ps scope) (hd:A.handled=none) (e0:De P w K mg base A outer s H) (hl:vs.length=ps.length) (r:cK s.toks vs us) (ml:s.toks<=s1.toks) (VJ:0<s1.toks)
  (x:InCallC s s.heap.objs.size (bindL (envOfC fM scope s.heap.objs.size f cd).kindOf (ps.zip us) fun _=>none) (cellsFrom #[7] scope.names []) (bindC (envOfC fM scope s.heap.objs.size f cd).kindOf (ps.zip us) fun _=>none) s1) :
  bH (Df CX P w K mg base N fM scope f cd A outer s H E) [] (vd N vs) H s1:=by
 have on:ps.length<=N.length:=by have:=ik List.length S.pre;rw[aF]at this;omega
 obtain⟨h1,tk,rfl,hk⟩:=x.done
 have noA:∀b:Addr,b∉(Df CX P w K mg base N fM scope f cd A outer s H E).ex:=fun b z=>absurd (show b∈([]:List Addr)from z) #[15]
 refine⟨⟨e0.mod,S.kind,rfl,rfl,aA _,fun y z c h1 h2=>?_,fun y hy=>?_,fun y c _ h=>?_,fun _=>hd,Around.frames_deeper e0.frames,.inr ⟨rfl,rfl⟩,fun b z=>absurd z (noA b),e0.bs,e0.bsz,fun b _ _=>noA b,fun b z=>absurd z (noA b),e0.funs,e0.frf⟩,
  rfl,e0.bare,Un.kept hk,⟨_,x.toInCall.ns,fun i y v h1 h2 h3=>?_⟩,fun y c h=>⟨_,x.cell y c h⟩,e0.hok.fresh (aA _),fun y c h=>?_,fun p hp=>absurd (show p∈([]:List (Addr×Obj))from hp) #[15],(e0.hok.kept hk).up ml,?_,VJ,ml⟩
 ·exact name_of_addr x.apart (PySem.mem_of_lookup h1) (PySem.mem_of_lookup h2)
 ·have hy:scope.names.lookup y=some .cell\/scope.names.lookup y=some .free:=hy
  rcases hy with hy|hy
  ·exact nM hy
  ·exact absurd rfl (S.nofree _ (PySem.mem_of_lookup hy))
 ·exact gn (x.above y c (PySem.mem_of_lookup h))
 ·have hi:i<vs.length:=by
   unfold vd at h2
   by_cases hi:i<vs.length
   ·exact hi
   ·rw[aS (by simpa using hi)]at h2
    rw[jR]at h2
    split at h2<;>cases h2
  have ha:vs[i]?=some v:=by
   unfold vd at h2
   rw[aR (by simpa using hi),aG]at h2
   cases e:vs[i]? with
   |none=>rw[e]at h2;cases h2
   |some a=>rw[e]at h2;cases h2;rfl
  obtain⟨u,hu,rv⟩:=r.get ha
  have hp:ps[i]?=some y:=by
   rw[<- S.pre,cw #[0]];exact h1
  have ndP:ps.Nodup:=by rw[<- S.pre];exact S.nd.sublist (List.take_sublist _ _)
  refine⟨u,rv.up ml,?_⟩
  rcases S.par y (cy hp)with k|k
  ·exact .inl ⟨k,yE ndP hp hu k⟩
  ·obtain⟨c,e⟩:=nM (n:=s.heap.objs.size+1) k
   refine .inr ⟨.inl k,c,e,?_⟩
   have q:=x.cell y c e
   rw[yF ndP hp hu (by show scope.names.lookup y≠_;rw[k];decide)]at q
   exact q
 ·exact e0.hok.fresh (gn (x.above y c (PySem.mem_of_lookup h)))
 ·unfold vd
  show _=N.length
  rw[ai,aE,List.length_replicate]
  omega
theorem RB{CX:FM}{w:World}{f:Addr}{params:Arguments}{dV kV uk pm fC ct oc:Value}{an od:Option Addr}
  {NI:Array (Option Value)} {N ps:List Str} {sp:Sp} (lk:K.lookup f=some ⟨oc,od,.func (fnOf name fM params body scope dV kV uk pm an fC ct),NI⟩) (C2:codeIn K fC fM=true) (S:ba N ps scope)
  (len:∀vs H Q E,sp vs H Q E->vs.length=ps.length)
  (CU:∀(A:Around) (outer:List Env) (s:Shared) (H:Hp) (vs:List V) (Q:VK) (E:XK),jW k (A.deeper (envOfC fM scope s.heap.objs.size f fC))->sp vs H Q E ->
   ∃t,Fz (Df CX P w K mg base N fM scope f fC A outer s H E) body t/\t { nx:=fun _ H'=>Q .non H',rt:=Q } (vd N vs) H) :
  c6 P w K mg base CX (k+1) f (fnOf name fM params body scope dV kV uk pm an fC ct) ps sp:=by
 refine⟨len,fun A outer s H args us vs Q E hr e0 hp hb r NL=>?_⟩
 have hl:=len _ _ _ _ NL
 have KX:K.In s.heap:=e0.mod.kin.keeps fun b o e=>(e0.bs b o e).1
 have lim:s.heap.NoLimit:=e0.mod.nolimit.keeps fun b o e=>(e0.bs b o e).1
 have kA:∀y∈ps.zip us,scope.names.lookup y.1=some .local\/(scope.names.lookup y.1=some .cell/\((cellsFrom #[7] scope.names []).lookup y.1).isSome=true):=fun zq hy=>by
  obtain⟨n,v⟩:=zq
  rcases S.par n (pM hy).1 with q|q
  ·exact .inl q
  ·exact .inr ⟨q,PySem.W.cellsFrom_some _ _ _ (.inl q)⟩
 refine codeAny_call_function hr.depth (KX _ _ lk) rfl S.co S.gen rfl (PySem.W.codeRec_of KX C2) (hb _ _ _ _ ?_)
 suffices hh:∀env,env=newEnv scope s.heap.objs.size mainGlobals (cellsFrom #[7] scope.names []) (fM++".<locals>.") (some f) fC none builtinsNs->∀s1,s.toks<=s1.toks->0<s1.toks->InCallC s env.locals (bindL env.kindOf (ps.zip us) fun _=>none) env.cells (bindC env.kindOf (ps.zip us) fun _=>none) s1->s1.heap.NoLimit/\codeAny (model P w) A (Code.func body env) (CR CX outer P w H s Q E) s1 by
  rcases hp with hp|⟨n,e1,hn⟩
  ·exact up (wpAny_newFunctionEnv_cells S.kind kA fun env he s1 x ml=>hh env he s1 ml (aL hp ml) x)
  ·subst e1
   have hus:us.length=1:=r.length.symm.trans hl
   obtain⟨u,rfl⟩:∃u,us=[u]:=h_.mp hus
   exact Dg S.kind hn fun env he s1 hlt x=>hh env he s1 (gn hlt) (jG (bY _) hlt) x
 intro env he s1 ml VJ x
 subst he
 refine⟨lim.keeps x.toInCall.keep,codeAny_func ?_⟩
 obtain⟨t,ht,hq⟩:=CU A outer s H vs Q E (hr.deeper _) NL
 have I:bH (Df CX P w K mg base N fM scope f fC A outer s H E) [] (vd N vs) H s1:=FN S hr.hd e0 hl r ml VJ x
 refine jF (ht [] s1 (vd N vs) H _ I hq) (fun fl s' hs=>?_) fun e s' hs=>hs
 have kQ:∀{σ':St} {H':Hp} {v:V} {u:Value},bH (Df CX P w K mg base N fM scope f fC A outer s H E) [] σ' H' s'->dz _ v u->Q v H'->CE outer P w H s Q u s':=
  fun{σ' H' v u} J rv q=>⟨v,H',J.os,J.bare,J.base,J.hok,rv,q⟩
 cases fl with
 |ret u=>
  obtain⟨v,σ',H',J,rv,q⟩:=hs
  exact kQ J rv q
 |next=>
  obtain⟨σ',H',J,q⟩:=hs
  exact kQ (v:=V.non) (u:=Value.none) J rfl q
 |brk=>
  obtain⟨_,_,_,q⟩:=hs
  exact False.elim q
 |cont=>
  obtain⟨_,_,_,q⟩:=hs
  exact False.elim q
end L2
namespace L2
open PySem PySem.Spec PyProof.Rows
section
variable{t:TA}{id:String}{r:List V->Hp->VK->Prop}
def U5(r:List V->Hp->VK->Prop)(t:TA):TE:=fun σ H Q=>t σ H fun vs H1=>r vs H1 Q
theorem p7(hc:jb X (.builtin id) r)(hg:Gl X x)(hm:X.mg x=none)(hv:bootBuiltins x=some (.builtin id))(ha:PA X (e::es) t)(hn:x ≠ "__name__":=by decide)(J9:(x==("__debug__":Str))=false:=by decide)
  (he:starEach (e::es) X.env=(false,eval e X.env)::starEach es X.env:=by rfl) (on:(backTo pos (starEach es X.env)).any (·.1)=false:=by rfl):PE X (.Call (.Name x p) (e::es) [] pos) (U5 r t):=by
 intro ak s σ H Q I h
 refine fQ (p5 I hg hm hv ?_ hn J9)
 exact kS (kr (ha pos ak s σ H _ I h) fun us s1 kt1 ⟨vs,H1,I1,r1,q1⟩=>hc ak s1 σ H1 vs us Q I1 r1 q1) he on
theorem FP(hc:jb X (.type T) r)(hg:Gl X x)(hm:X.mg x=none)(hv:bootBuiltins x=some (.type T))(ha:PA X (e::es) t)(hn:x ≠ "__name__":=by decide)(J9:(x==("__debug__":Str))=false:=by decide)
  (he:starEach (e::es) X.env=(false,eval e X.env)::starEach es X.env:=by rfl) (on:(backTo pos (starEach es X.env)).any (·.1)=false:=by rfl):PE X (.Call (.Name x p) (e::es) [] pos) (U5 r t):=by
 intro ak s σ H Q I h
 refine fQ (p5 I hg hm hv ?_ hn J9)
 exact dS (kr (ha pos ak s σ H _ I h) fun us s1 kt1 ⟨vs,H1,I1,r1,q1⟩=>hc ak s1 σ H1 vs us Q I1 r1 q1) he on
end
end L2
namespace HT
open PySem PyProof.Rows
section
open PySem.SeqAt
open PySem.AutoSeq1 (wpAny_loadPart')
open PySem.MeetsSeq PySem.MeetsSeq2 PySem.MeetsSeq3
end
section
variable{w:World}
theorem cat_tup{t b:Addr}{vs ws:List Value}(ht:IsTup s.heap t vs.toArray)(hb:IsTup s.heap b ws.toArray)(hv:vs≠[])
  (h1:ws=[]->Q (.ref t) s) (h2:ws≠[]->Q (.ref s.heap.objs.size) { s with heap:=s.heap.push { cls:=.type "tuple",data:=.seq (vs++ws).toArray } })
  (AZ:vs.length+ws.length<=sizeLine):wpAny #[6] A (binaryOp .Add (.ref t) (.ref b)) Q E s:=by
 obtain⟨⟨cls,dd,data,sl⟩,ho,hc,n,hd⟩:=id ht
 obtain⟨⟨cls2,dd2,data2,sl2⟩,ho2,hc2,n2,hd2⟩:=id hb
 simp only at hc hd hc2 hd2
 subst hc hd hc2 hd2
 have e:vs.toArray++ws.toArray=(vs++ws).toArray:=by simp
 by_cases hw:ws=[]
 ·exact t_ ⟨_,ho,rfl⟩ ⟨_,ho2,rfl⟩ og rR PySem.F.slot_tuple_add PySem.F.entry_tuple_add (PySem.F.args_tuple_add_2 _ _)
   (tuple_addW1 t b vs.toArray ws.toArray n n2 dd dd2 sl sl2 (by simpa using hv) (by simp[hw])) ⟨ho,ho2,h1 hw⟩
 ·refine t_ ⟨_,ho,rfl⟩ ⟨_,ho2,rfl⟩ og rR PySem.F.slot_tuple_add PySem.F.entry_tuple_add (PySem.F.args_tuple_add_2 _ _)
   (tuple_addW2 t b vs.toArray ws.toArray n n2 dd dd2 sl sl2 (by simpa using hv) (by simpa using hw) (by rw[aT,aT];exact AZ)) ⟨ho,ho2,?_⟩
  rw[e]
  exact h2 hw
def sIx(n d:Nat):Option Int->Nat
 |none=>d
 |some v=>if v<0 then(v+(n:Int)).toNat else min v.toNat n
theorem sIx_none(n d:Nat):sIx n d none=d:=rfl
theorem sIx_nat(n d k:Nat):sIx n d (some (k:Int))=min k n:=by
 show(if (k:Int)<0 then((k:Int)+(n:Int)).toNat else min (k:Int).toNat n)=min k n
 rw[aU #[0],ce]
theorem sIx_le(n d:Nat)(hd:d<=n)(o:Option Int):sIx n d o<=n:=by
 cases o with
 |none=>exact hd
 |some v=>
  show(if v<0 then(v+(n:Int)).toNat else min v.toNat n)<=n
  by_cases hv:v<0
  ·rw[aK hv];omega
  ·rw[aU hv];exact Nat.min_le_right _ _
theorem EH(v:Int)(n d:Nat):(if v<0 then max (v+(n:Int)) 0 else min v (n:Int))=((sIx n d (some v):Nat):Int):=by
 show(if v<0 then max (v+(n:Int)) 0 else min v (n:Int))=(((if v<0 then(v+(n:Int)).toNat else min v.toNat n):Nat):Int)
 by_cases hv:v<0
 ·simp only[aK hv];omega
 ·simp only[aU hv];omega
theorem Dh(lo hi:Option Int)(n:Nat):Builtin.Slice.sliceAdjust lo hi 1 (n:Int)=(((sIx n 0 lo:Nat):Int),((sIx n n hi:Nat):Int)):=by
 have h1:¬ ((1:Int)<0):=by omega
 unfold Builtin.Slice.sliceAdjust
 simp only[h1,gW]
 refine Prod.ext ?_ ?_
 ·cases lo with
  |none=>rfl
  |some v=>exact EH v n 0
 ·cases hi with
  |none=>rfl
  |some v=>exact EH v n n
theorem Di(i j:Nat):Builtin.Slice.slicePlaces (i:Int) (j:Int) 1=j-i:=by
 unfold Builtin.Slice.slicePlaces
 have h1:(1:Int)>0:=by omega
 simp only[h1,gF,Int.ediv_one]
 split<;>omega
theorem wc{o:Option Int}{Q:Option Int->Shared->Prop}(p:IsPart v o)(h:Q o s):wpAny #[6] A (Builtin.Slice.slicePartIndex v) Q E s:=by
 cases p with
 |none=>exact slicePart_none h
 |int i t=>exact slicePart_int h
theorem sliceApplied_gen{sl:Addr}{vl vu:Value}{lo hi:Option Int}{Q:Int×Int×Nat->Shared->Prop}(hs:s.heap.IsSliceOf sl vl vu .none)(pl:IsPart vl lo)(pu:IsPart vu hi)
  (h:Q (((sIx n 0 lo:Nat):Int),1,sIx n n hi-sIx n 0 lo) s):wpAny #[6] A (Builtin.Slice.sliceApplied (.ref sl) (pure (n:Int))) Q E s:=by
 obtain⟨os,hos,hcs,NJ⟩:=id hs
 unfold Builtin.Slice.sliceApplied Builtin.Slice.sliceFields
 refine af (af (de hos NJ (x:=vl) rfl (af (de hos NJ (x:=vu) rfl (af (de hos NJ (x:=.none) rfl (ay ?_)))))))
 refine af (slicePart_none ?_)
 show wpAny _ _ (if ((1:Int)==0)=true then _ else _) _ _ s
 rw[aU #[3]]
 refine af (wc pl (af (wc pu (af (ay ?_)))))
 show wpAny _ _ (match Builtin.Slice.sliceAdjust lo hi 1 (n:Int)with|(lo,hi)=>pure (lo,(1:Int),Builtin.Slice.slicePlaces lo hi 1)) _ _ s
 rw[Dh lo hi n]
 show wpAny _ _ (pure (((sIx n 0 lo:Nat):Int),(1:Int),Builtin.Slice.slicePlaces ((sIx n 0 lo:Nat):Int) ((sIx n n hi:Nat):Int) 1)) _ _ s
 rw[Di]
 exact ay h
theorem G_(xs:Array Value)(i k:Nat):((List.range k).filterMap fun(m:Nat)=>xs[((i:Int)+(m:Int)*1).toNat]?).toArray=((xs.toList.drop i).take k).toArray:=by
 have e:(fun(m:Nat)=>xs[((i:Int)+(m:Int)*1).toNat]?)=fun m=>xs[i+m]?:=by
  funext m
  have:((i:Int)+(m:Int)*1).toNat=i+m:=by omega
  rw[this]
 rw[e]
 have:=pick_run xs i k
 rw[List.filterMap_map]at this
 have e2:((fun x=>xs[x]?)∘fun x=>i+x)=fun m=>xs[i+m]?:=rfl
 rw[e2]at this
 rw[this]
theorem getItem_tuple_cut{t sl:Addr}{items:Array Value}{vl vu:Value}{lo hi:Option Int}(ht:IsTup s.heap t items)(hs:s.heap.IsSliceOf sl vl vu .none)(pl:IsPart vl lo)(pu:IsPart vu hi)
  (hw:¬ (sIx items.size 0 lo=0/\sIx items.size items.size hi=items.size))
  (h:Q (.ref s.heap.objs.size) { s with heap:=s.heap.push { cls:=.type "tuple",data:=.seq ((items.toList.drop (sIx items.size 0 lo)).take (sIx items.size items.size hi-sIx items.size 0 lo)).toArray } })
  (AZ:items.size<=sizeLine):wpAny #[6] A (getItem (.ref t) (.ref sl)) Q E s:=by
 have htake:sizeOk (.seq ((items.toList.drop (sIx items.size 0 lo)).take (sIx items.size items.size hi-sIx items.size 0 lo)).toArray):=by
  show((items.toList.drop (sIx items.size 0 lo)).take (sIx items.size items.size hi-sIx items.size 0 lo)).toArray.size<=sizeLine
  rw[aT,aF,cf,eF]
  omega
 have hj:sIx items.size items.size hi<=items.size:=sIx_le _ _ (aA _) hi
 obtain⟨os,hos,hcs,NJ⟩:=id hs
 have hTs:s.TypeIs (.ref sl) "slice":=⟨os,hos,hcs⟩
 unfold getItem
 try with_reducible refine dv ?_
 first|refine af (ay ?_)|skip
 refine af (wpAny_sequenceKey ht.typeIs #[3] ?_)
 refine af (bT (name:=Str.ofString "__getitem__") ht.typeIs eN
  (cm eN ht.typeIs entry_tuple_getitem ?_ (args_tuple_getitem _ _)))
 show wpAny _ _ (Builtin.Tuple.tupleItemsOf (.ref t) >>= _) _ _ s
 refine af (tupleItemsOf_ ht ?_)
 refine af (i' hTs ?_)
 rw[aK #[3]]
 refine af (sliceApplied_gen hs pl pu ?_)
 have hno:¬ ((((sIx items.size 0 lo:Nat):Int)==0&&(1:Int)==1&&(sIx items.size items.size hi-sIx items.size 0 lo)==items.size)=true):=by
  intro q
  rw[dC,dC]at q
  have q1:((sIx items.size 0 lo:Nat):Int)=0:=oh q.1.1
  have q2:sIx items.size items.size hi-sIx items.size 0 lo=items.size:=oh q.2
  exact hw ⟨by omega,by omega⟩
 show wpAny _ _ (if (((sIx items.size 0 lo:Nat):Int)==0&&(1:Int)==1&&(sIx items.size items.size hi-sIx items.size 0 lo)==items.size)=true then _ else _) _ _ s
 rw[aU hno,G_]
 first
  |exact af (m:=Builtin.Tuple.tupleExact _) (cC (ay ⟨_,rfl,ay h⟩) htake)
  |exact af (m:=Builtin.Tuple.tupleExact _) (cC (af (ay (ay ⟨_,rfl,ay h⟩))) htake)
  |exact af (af (m:=Builtin.Tuple.tupleExact _) (cC (ay (ay ⟨_,rfl,ay h⟩)) htake))
  |exact af (af (m:=Builtin.Tuple.tupleExact _) (cC (ay ⟨_,rfl,ay h⟩) htake))
end
end HT
namespace L2
open PySem PySem.Spec PyProof.Rows
abbrev TO:=St->Hp->(Option Int->Hp->Prop)->Prop
def PO(X:Cx)(e:Option Expr)(t:TO):Prop:=
 ∀(ak:List (Addr×Obj)) (s:Shared) (σ:St) (H:Hp) (Q:Option Int->Hp->Prop),bH X ak σ H s->t σ H Q ->
  wpAny #[4] X.A (evalPart e X.env) (fun u s'=>∃o H',bH X ak σ H' s'/\IsPart u o/\Q o H') X.xe s
def K6:TO:=fun _ H Q=>Q none H
def RC(t:TE):TO:=fun σ H Q=>t σ H fun x H1=>∃i,x=.int i/\Q (some i) H1
section
variable{lo hi:Option Expr}{tl th:TO}
theorem K7:PO X none K6:=by
 intro ak s σ H Q I h
 rw[evalPart_none]
 exact ay ⟨none,H,I,.none,h⟩
theorem K8(h:PE X e te):PO X (some e) (RC te):=by
 intro ak s σ H Q I hw
 rw[evalPart_some]
 refine kr (h ak s σ H _ I hw) fun u s1 kt1 zq=>?_
 obtain⟨x,H1,I1,r1,q1⟩:=zq
 obtain⟨i,rfl,q⟩:=q1
 obtain⟨t,rfl⟩:=r1
 exact⟨some i,H1,I1,.int i t,q⟩
def RD(X:Cx)(r:V->Option Int->Option Int->Hp->VK->Prop):Prop:=
 ∀(ak:List (Addr×Obj)) (s:Shared) (σ:St) (H:Hp) (x:V) (v vl vu:Value) (lo hi:Option Int) (sl:Addr) (Q:VK),bH X ak σ H s->dz s.toks x v->s.heap.IsSliceOf sl vl vu .none->IsPart vl lo->IsPart vu hi->r x lo hi H Q ->
  ∃T id,typeLookup (.type T) "__getitem__"=pure (some (.builtin id))/\s.TypeIs v T/\wpAny #[4] X.A (getItem v (.ref sl)) (EP X ak σ Q) X.xe s
def Wk(r:V->Option Int->Option Int->Hp->VK->Prop)(te:TE)(tl th:TO):TE:=fun σ H Q=>te σ H fun x H1=>tl σ H1 fun l H2=>th σ H2 fun u H3=>r x l u H3 Q
theorem G'{r:V->Option Int->Option Int->Hp->VK->Prop}(hr:RD X r)(he:PE X e te)(hl:PO X lo tl)(hu:PO X hi th):PE X (.Subscript e (.Slice lo hi none p2) pos) (Wk r te tl th):=by
 intro ak s σ H Q I h
 refine Subscript_ (kr (he ak s σ H _ I h) fun v s1 kt1 zq=>?_)
 obtain⟨x,H1,I1,r1,q1⟩:=zq
 refine wpAny_Slice (kr (hl ak s1 σ H1 _ I1 q1) fun vl s2 kt2 ⟨l,H2,I2,pl,q2⟩=>kr (hu ak s2 σ H2 _ I2 q2) fun vu s3 kt3 zq=>?_)
 obtain⟨u,H3,I3,pu,q3⟩:=zq
 rw[evalPart_none]
 refine ay ?_
 have I4:bH X ak σ H3 { s3 with heap:=s3.heap.push { cls:=.type "slice",data:=.fields #[vl,vu,.none] } }:=I3.kept (t':=s3.toks) fun b ob q=>aw _ q
 obtain⟨T,id,hT,ht,hg⟩:=hr ak { s3 with heap:=s3.heap.push { cls:=.type "slice",data:=.fields #[vl,vu,.none] } } σ H3 x v vl vu l u s3.heap.objs.size Q I4 (r1.up (aN kt2 kt3)) (Heap.IsSliceOf.new ..) pl pu q3
 show wpAny #[4] X.A (subscriptTail e (.Slice lo hi none p2) v (.ref s3.heap.objs.size)) (EP X ak σ Q) X.xe { s3 with heap:=s3.heap.push { cls:=.type "slice",data:=.fields #[vl,vu,.none] } }
 exact tail_any (ops:=[.ref s3.heap.objs.size,v]) ht hT hg (by with_unfolding_all rfl)
def we(xs:List V)(lo hi:Option Int):List V:=(xs.drop (HT.sIx xs.length 0 lo)).take (HT.sIx xs.length xs.length hi-HT.sIx xs.length 0 lo)
theorem ve(xs:List V)(lo hi:Option Int):(we xs lo hi).length<=xs.length:=by
 unfold we
 rw[aF,cf]
 omega
def U6(K:Frag):V->Option Int->Option Int->Hp->VK->Prop:=fun x lo hi H Q=>∃a xs,x=.ref a/\gy K H a xs /\
 ¬ (HT.sIx xs.length 0 lo=0/\HT.sIx xs.length xs.length hi=xs.length)/\∀p,H p=none->Q (.ref p) (fU H p (.tup (we xs lo hi)))
theorem Ou:RD X (U6 X.K):=by
 intro ak s σ H x v vl vu lo hi sl Q I rx hs pl pu h
 obtain⟨a,xs,rfl,hx,hw,q⟩:=h
 cases rx
 obtain⟨bN,r,ht,hz⟩:=I.tuple hx
 have gB:bN.toArray.size=xs.length:=by rw[aT];exact r.length.symm
 refine⟨"tuple",_,eN.lookup,ht.typeIs,?_⟩
 refine HT.getItem_tuple_cut ht hs pl pu (by rw[gB];exact hw) ?_ (by rw[gB];exact hz)
 rw[gB]
 refine⟨.ref s.heap.objs.size,_,I.laid (t':=s.toks) (o:=.tup (we xs lo hi)) (fun b ob q=>aw _ q) (aA _) ?_,rfl,q _ (I.hok.fresh (aA _))⟩
 exact⟨aN (ve xs lo hi) hz,_,(r.drop (HT.sIx xs.length 0 lo)).take (HT.sIx xs.length xs.length hi-HT.sIx xs.length 0 lo),IsTup.new _ _⟩
def RE(K:Frag):R2:=fun x y H Q=>∃a b xs ys,x=.ref a/\y=.ref b/\gy K H a xs/\gy K H b ys/\xs≠[]/\xs.length+ys.length<=sizeLine /\
 (ys=[]->Q (.ref a) H)/\(ys≠[]->∀p,H p=none->Q (.ref p) (fU H p (.tup (xs++ys))))
theorem cK.nil_iff(r:cK nk xs us):us=[]↔xs=[]:=by
 cases r with
 |nil=>simp
 |cons _ _=>simp
theorem K9:pR X (binaryOp .Add) (RE X.K):=by
 intro ak s σ H x y v u Q I rx ry h
 obtain⟨a,b,xs,ys,rfl,rfl,ha,hb,hx,hz,q1,q2⟩:=h
 cases rx
 cases ry
 obtain⟨bN,r1,p1,_⟩:=I.tuple ha
 obtain⟨its2,r2,p2,_⟩:=I.tuple hb
 refine HT.cat_tup p1 p2 (fun z=>hx (r1.nil_iff.mp z)) (fun z=>⟨.ref a,H,I,rfl,q1 (r2.nil_iff.mp z)⟩) (fun z=>?_) (by rw[<- r1.length,<- r2.length];exact hz)
 refine⟨.ref s.heap.objs.size,_,I.laid (t':=s.toks) (o:=.tup (xs++ys)) (fun b ob q=>aw _ q) (aA _) ?_,rfl,q2 (fun w=>z (r2.nil_iff.mpr w)) _ (I.hok.fresh (aA _))⟩
 exact⟨by rw[ai];exact hz,_,r1.append r2,IsTup.new _ _⟩
theorem A_:jb X (.type "tuple") (fun xs H Q=>∃a ys,xs=[.ref a]/\gy X.K H a ys/\Q (.ref a) H):=by
 intro ak s σ H xs us Q I r h
 obtain⟨a,ys,rfl,ha,q⟩:=h
 obtain⟨u,rfl,ru⟩:=p6 r
 cases ru
 obtain⟨bN,_,p1,_⟩:=I.tuple ha
 exact call_tuple_same (items:=bN.toArray) p1 ⟨.ref a,H,I,rfl,q⟩
end
end L2
namespace L2
open PySem PySem.Spec PyProof.Rows
def EI(n:Nat)(i:Int):Option Nat:=if 0<=i then(if i<n then some i.toNat else none)else if -(n:Int)<=i then some (i+n).toNat else none
def uu(xs:List α)(i:Int):Option α:=(EI xs.length i).bind fun j=>xs[j]?
theorem EJ{i:Int}(h:EI n i=some j):seqIndex? i n=some j/\j<n/\-(n:Int)<=i/\i<n:=by
 unfold EI at h
 by_cases h0:0<=i
 ·rw[aK h0]at h
  by_cases h1:i<n
  ·rw[aK h1]at h
   have e:i.toNat=j:=bf h
   exact⟨by rw[seqIndex_of h0 h1,e],by omega,by omega,h1⟩
  ·rw[aU h1]at h;cases h
 ·rw[aU h0]at h
  by_cases h1:-(n:Int)<=i
  ·rw[aK h1]at h
   have e:(i+n).toNat=j:=bf h
   exact⟨by rw[uc #[0] h1,e],by omega,h1,by omega⟩
  ·rw[aU h1]at h;cases h
theorem zy{xs:List α}{i:Int}{v:α}(h:uu xs i=some v):∃j,seqIndex? i xs.length=some j/\xs[j]?=some v/\j<xs.length/\-(xs.length:Int)<=i/\i<xs.length:=by
 unfold uu at h
 cases e:EI xs.length i with
 |none=>rw[e]at h;cases h
 |some j=>
  rw[e]at h
  obtain⟨h1,h2,h3,h4⟩:=EJ e
  exact⟨j,h1,h,h2,h3,h4⟩
def EK(b:Expr):Prop:=∀o i,subscripted b false o i=operate [o,i] (getItem o i)
def Kx(X:Cx)(r:R2):Prop:=
 ∀(value slice:Expr) (ak:List (Addr×Obj)) (s:Shared) (σ:St) (H:Hp) (x y:V) (v u:Value) (Q:VK),bH X ak σ H s->dz s.toks x v->dz s.toks y u->r x y H Q ->
  subscripted slice false v u=operate [v,u] (getItem v u)->wpAny #[4] X.A (subscriptTail value slice v u) (EP X ak σ Q) X.xe s
def FQ(X:Cx)(id:String)(r:V->List V->Hp->VK->Prop):Prop:=
 ∀(ak:List (Addr×Obj)) (s:Shared) (σ:St) (H:Hp) (x:V) (xs:List V) (v:Value) (us:List Value) (Q:VK),bH X ak σ H s->dz s.toks x v->cK s.toks xs us->r x xs H Q ->
  wpAny #[4] X.A (call (.builtin id) (v::us)) (EP X ak σ Q) X.xe s
section
variable{a b:Expr}{ta tb:TE}
theorem Kx.or{r r':R2}(h:Kx X r)(h':Kx X r'):Kx X (fun x y H Q=>r x y H Q\/r' x y H Q):=by
 intro value slice ak s σ H x y v u Q I rx ry q hs
 rcases q with q|q
 ·exact h value slice ak s σ H x y v u Q I rx ry q hs
 ·exact h' value slice ak s σ H x y v u Q I rx ry q hs
theorem RF{r:R2}(hr:Kx X r)(ha:PE X a ta)(hb:PE X b tb)(hs:EK b):PE X (.Subscript a b pos) (Rq r ta tb):=by
 intro ak s σ H Q I h
 exact Subscript_ (Oc ha hb I h fun v u s2 x y H2 I2 rx ry q=>hr a b ak s2 σ H2 x y v u Q I2 rx ry q (hs _ _))
def RG(K:Frag):R2:=fun x y H Q=>∃p xs i v,x=.ref p/\y=.int i/\um K H p xs/\uu xs i=some v/\Q v H
def RH(K:Frag):R2:=fun x y H Q=>∃p xs i v,x=.ref p/\y=.int i/\gy K H p xs/\uu xs i=some v/\Q v H
def RI:R2:=fun x y H Q=>∃z i c,x=.str z/\y=.int i/\z.length<=sizeLine/\uu z.cps.toList i=some c/\Q (.str ⟨#[c]⟩) H
theorem K_:Kx X (RG X.K):=by
 intro value slice ak s σ H x y v u Q I rx ry h hs
 obtain⟨p,xs,i,z,rfl,rfl,hq,he,q⟩:=h
 cases rx
 obtain⟨t,rfl⟩:=ry
 obtain⟨bN,r,pl,hz⟩:=I.list hq
 obtain⟨j,h1,h2,h3,h4,h5⟩:=zy he
 obtain⟨w,ew,u8⟩:=r.get h2
 have hl:=r.length
 have hn:=uq
 have kQ:EP X ak σ Q w s:=⟨z,H,I,u8,q⟩
 by_cases h0:0<=i
 ·have hj:i.toNat=j:=by
   rw[seqIndex_of h0 h5]at h1
   exact bf h1
  exact item_listR pl.isList h0 #[0] (by rw[hj];simpa using ew) kQ hs
 ·have hj:(i+(bN.toArray.size:Int)).toNat=j:=by
   rw[uc #[0] h4]at h1
   rw[aT,<- hl]
   exact bf h1
  exact o_ (x:=w) pl.isList.typeIs slot_list_getitem.lookup
   (wpAny_getItem_list_neg (Q:=fun r s'=>r=w/\EP X ak σ Q r s') pl.isList #[0] (by rw[aT]<;>omega) #[0] (by rw[hj];simpa using ew) ⟨rfl,kQ⟩) hs
theorem Ov:Kx X (RH X.K):=by
 intro value slice ak s σ H x y v u Q I rx ry h hs
 obtain⟨p,xs,i,z,rfl,rfl,hq,he,q⟩:=h
 cases rx
 obtain⟨t,rfl⟩:=ry
 obtain⟨bN,r,pl,hz⟩:=I.tuple hq
 obtain⟨j,h1,h2,h3,h4,h5⟩:=zy he
 obtain⟨w,ew,u8⟩:=r.get h2
 have hl:=r.length
 have hn:=uq
 have kQ:EP X ak σ Q w s:=⟨z,H,I,u8,q⟩
 exact o_ (x:=w) pl.typeIs slot_tuple_getitem.lookup
  (getItem_tuple (j:=j) (Q:=fun r s'=>r=w/\EP X ak σ Q r s') pl #[0] #[0] (by rw[aT,<- hl];exact h1) (by simpa using ew) ⟨rfl,kQ⟩) hs
theorem Ox:Kx X RI:=by
 intro value slice ak s σ H x y v u Q I rx ry h hs
 obtain⟨z,i,c,rfl,rfl,hz,he,q⟩:=h
 obtain⟨t,rfl⟩:=rx
 obtain⟨t',rfl⟩:=ry
 obtain⟨j,h1,h2,h3,h4,h5⟩:=zy he
 have hl:z.cps.toList.length=z.length:=by simp[Str.length]
 rw[hl]at h1 h4 h5
 have hn:=uq
 exact tail_any (mH s z t) slot_str_getitem.lookup (getItem_str (c:=c) (by
  have e1:decide (i < -(2^63:Int))=false:=a7 #[0]
  have e2:decide (i≥2^63)=false:=a7 #[0]
  rw[e1,e2,nG]) (by rw[h1];simpa using h2) ⟨.str ⟨#[c]⟩,H,I.tok _,I.tkS,q⟩) hs
def Wl(K:Frag):R2:=fun x y H Q=>RG K x y H Q\/RH K x y H Q\/RI x y H Q
theorem Oy:Kx X (Wl X.K):=K_.or (Ov.or Ox)
theorem Dj(bN:List Value)(n j:Nat)(u:Value):Obj.mapSeq (·.setIfInBounds j u) { cls:=.type "list",data:=.seq bN.toArray n }={ cls:=.type "list",data:=.seq (bN.set j u).toArray n }:=by
 simp[Obj.mapSeq]
theorem bH.lst{p:Addr}(I:bH X ak σ H s)(h:H p=some (.lst xs)) :
  ∃(bN:List Value) (n:Nat),cK s.toks xs bN/\s.heap.get? p=some { cls:=.type "list",data:=.seq bN.toArray n }/\xs.length<=sizeLine:=by
 obtain⟨z,bN,n,r,e⟩:=I.hok p _ h
 exact⟨bN,n,r,e,z⟩
theorem bH.lstUpd{p:Addr}{ys:List V}{its':List Value}{f:Obj->Obj}(I:bH X ak σ H s)(h:H p=some (.lst xs))
  (ho:s.heap.get? p=some { cls:=.type "list",data:=.seq bN.toArray n }) (hf:f { cls:=.type "list",data:=.seq bN.toArray n }={ cls:=.type "list",data:=.seq its'.toArray n' }) (r:cK s.toks ys its') (hz:ys.length<=sizeLine) (t:Nat) (hk:s.toks<=t:=by first|exact aA _|exact bn _|assumption|omega) :
  bH X ak σ (fU H p (.lst ys)) { s with heap:=s.heap.update p f,toks:=t }:=by
 have e:(s.heap.update p f).get? p=some { cls:=.type "list",data:=.seq its'.toArray n' }:=by
  rw[dH f ho (by rw[hf]<;>rfl),hf]
 refine I.write (x:=p) (e:=p) (by rw[h];trivial) (.inl rfl) (fun b u hb q=>(cM _ _ (Ne.symm hb)).trans q) ⟨_,e⟩ ?_
 exact⟨hz,its',n',r.up hk,e⟩
def RJ:V->V->V->Hp->(Hp->Prop)->Prop:=fun o i v H Q=>∃p xs k j,o=.ref p/\i=.int k/\H p=some (.lst xs)/\EI xs.length k=some j/\Q (fU H p (.lst (xs.set j v)))
theorem Ha:GW X RJ:=by
 intro ak s σ H o i v ov iv u Q I ro ri rv h
 obtain⟨p,xs,k,j,rfl,rfl,hp,hj,q⟩:=h
 cases ro
 obtain⟨t,rfl⟩:=ri
 obtain⟨bN,n,r,ho,hz⟩:=I.lst hp
 obtain⟨h1,h2,h3,h4⟩:=EJ hj
 have hl:=r.length
 have hn:=uq
 have I':bH X ak σ (fU H p (.lst (xs.set j v))) { s with heap:=s.heap.update p (Obj.mapSeq (·.setIfInBounds j u)) }:=
  I.lstUpd hp ho (Dj bN n j u) (r.set rv j) (by rw[pN];exact hz) s.toks
 by_cases h0:0<=k
 ·have hk:k.toNat=j:=by
   rw[seqIndex_of h0 h4]at h1
   exact bf h1
  exact PySem.W.ki_setAt ho h0 #[0] (by rw[aT,<- hl];exact h4) (by rw[hk];exact⟨_,I',q⟩)
 ·have hk:(k+(bN.toArray.size:Int)).toNat=j:=by
   rw[uc #[0] h3]at h1
   rw[aT,<- hl]
   exact bf h1
  exact PySem.W.ki_setBack ho #[0] (by rw[aT,<- hl];exact h3) #[0] (by rw[hk];exact⟨_,I',q⟩)
theorem zz(lo hi:Option Int)(n:Nat):(sliceBounds lo hi none n).1=((HT.sIx n 0 lo:Nat):Int)/\(sliceBounds lo hi none n).2.1=((HT.sIx n n hi:Nat):Int)/\(sliceBounds lo hi none n).2.2=1:=by
 refine⟨?_,?_,rfl⟩
 ·cases lo with
  |none=>simp[sliceBounds,HT.sIx]
  |some i=>
   simp only[sliceBounds,HT.sIx,Option.getD_none,show(1:Int)>0 by decide,gF]
   by_cases h:i<0
   ·simp only[h,gF]<;>omega
   ·simp only[h,gW]<;>omega
 ·cases hi with
  |none=>simp[sliceBounds,HT.sIx]
  |some i=>
   simp only[sliceBounds,HT.sIx,Option.getD_none,show(1:Int)>0 by decide,gF]
   by_cases h:i<0
   ·simp only[h,gF]<;>omega
   ·simp only[h,gW]<;>omega
theorem xU(bN:List Value)(lo hi:Option Int):slicePick bN.toArray lo hi none=((bN.drop (HT.sIx bN.length 0 lo)).take (HT.sIx bN.length bN.length hi-HT.sIx bN.length 0 lo)).toArray:=by
 obtain⟨h1,h2,h3⟩:=zz lo hi bN.toArray.size
 unfold slicePick
 rw[h1,h2,h3]
 simp only[sliceRange_one,pick_run,aT]<;>rfl
def U7(K:Frag):V->Option Int->Option Int->Hp->VK->Prop:=fun x lo hi H Q=>∃a xs,x=.ref a/\um K H a xs/\∀p,H p=none->Q (.ref p) (fU H p (.lst (we xs lo hi)))
theorem K':RD X (U7 X.K):=by
 intro ak s σ H x v vl vu lo hi sl Q I rx hs pl pu h
 obtain⟨a,xs,rfl,hx,q⟩:=h
 cases rx
 obtain⟨bN,r,ht,hz⟩:=I.list hx
 have gB:=r.length
 refine⟨"list",_,slot_list_getitem.lookup,ht.isList.typeIs,?_⟩
 refine wpAny_getItem_list_slice ht.isList hs pl pu .none #[15] ?_ (by rw[aT]<;>omega)
 rw[xU,<- gB]
 refine⟨.ref s.heap.objs.size,_,I.laid (t':=s.toks) (o:=.lst (we xs lo hi)) (fun b ob q=>aw _ q) (aA _) ?_,rfl,q _ (I.hok.fresh (aA _))⟩
 exact⟨aN (ve xs lo hi) hz,_,0,(r.drop (HT.sIx xs.length 0 lo)).take (HT.sIx xs.length xs.length hi-HT.sIx xs.length 0 lo),aC _ rfl⟩
theorem sP:jb X (.builtin "len") (fun xs H Q=>∃p ys,xs=[.ref p]/\(um X.K H p ys\/gy X.K H p ys)/\Q (.int ys.length) H):=by
 intro ak s σ H xs us Q I r h
 obtain⟨p,ys,rfl,hq,q⟩:=h
 obtain⟨u,rfl,rx⟩:=p6 r
 cases rx
 have hn:=uq
 rcases hq with hq|hq
 ·obtain⟨bN,r',pl,hz⟩:=I.list hq
  have gB:=r'.length
  exact Calls.call_len_list pl.isList (by simp only[aT]<;>omega) ⟨.int ys.length,H,I.tok _,⟨s.toks+1,by rw[aT,gB]⟩,q⟩
 ·obtain⟨bN,r',pl,hz⟩:=I.tuple hq
  have gB:=r'.length
  exact len_tuple pl (by simp only[aT]<;>omega) ⟨.int ys.length,H,I.tok _,⟨s.toks+1,by rw[aT,gB]⟩,q⟩
theorem zA:jb X (.builtin "len") (fun xs H Q=>∃z,xs=[.str z]/\z.length<=sizeLine/\Q (.int z.length) H):=by
 intro ak s σ H xs us Q I r h
 obtain⟨z,rfl,hz,q⟩:=h
 obtain⟨u,rfl,t,rfl⟩:=p6 r
 have hn:=uq
 exact len_str #[0] ⟨.int z.length,H,I.tok _,⟨_,rfl⟩,q⟩
theorem zB:jb X (.type "list") (fun xs H Q=>∃p ys,xs=[.ref p]/\(um X.K H p ys\/gy X.K H p ys)/\∀l,H l=none->Q (.ref l) (fU H l (.lst ys))):=by
 intro ak s σ H xs us Q I r h
 obtain⟨p,ys,rfl,hq,q⟩:=h
 obtain⟨u,rfl,rx⟩:=p6 r
 cases rx
 have kQ:∀(bN:List Value),cK _ ys bN->ys.length<=sizeLine->∀(h':Heap) (c':Nat),(∀b o',s.heap.get? b=some o'->h'.get? b=some o') ->
   h'.get? s.heap.objs.size=some { cls:=.type "list",dict:=none,data:=.seq bN.toArray c',slots:=#[] }->EP X ak σ Q (.ref s.heap.objs.size) { s with heap:=h' }:=fun bN r' hz h' c' kp e=>
  ⟨.ref s.heap.objs.size,_,I.laid (t':=s.toks) kp (aA _) (show gZ X.prog X.w _ _ h' _ (.lst ys)from⟨hz,bN,c',r',e⟩),rfl,q _ (I.hok.fresh (aA _))⟩
 rcases hq with hq|hq
 ·obtain⟨bN,r',pl,hz⟩:=I.list hq
  have gB:=r'.length
  obtain⟨o,ho,hc,n,hd⟩:=pl.isList
  exact call_list_seq p (.inl rfl) ho hc hd (fun h' c' kp e=>kQ bN r' hz h' c' kp e) (by simp only[aT]<;>omega)
 ·obtain⟨bN,r',pl,hz⟩:=I.tuple hq
  have gB:=r'.length
  obtain⟨o,ho,hc,n,hd⟩:=pl
  exact call_list_seq p (.inr rfl) ho hc hd (fun h' c' kp e=>kQ bN r' hz h' c' kp e) (by simp only[aT]<;>omega)
theorem xV:jb X (.type "tuple") (fun xs H Q=>∃p ys,xs=[.ref p]/\((um X.K H p ys/\∀l,H l=none->Q (.ref l) (fU H l (.tup ys)))\/(gy X.K H p ys/\Q (.ref p) H))):=by
 intro ak s σ H xs us Q I r h
 obtain⟨p,ys,rfl,h⟩:=h
 obtain⟨u,rfl,rx⟩:=p6 r
 cases rx
 rcases h with⟨hq,q⟩|⟨hq,q⟩
 ·obtain⟨bN,r',pl,hz⟩:=I.list hq
  have gB:=r'.length
  refine call_tuple_list pl.isList (fun h' kp=>?_) (by simp only[aT]<;>omega)
  have I1:bH X ak σ H { s with heap:=h' }:=I.kept (t':=s.toks) kp
  have I2:bH X ak σ (fU H h'.objs.size (.tup ys)) { s with heap:=h'.push { cls:=.type "tuple",data:=.seq bN.toArray } }:=
   I1.laid (t':=s.toks) (fun b o e=>aw _ e) (aA _) (show gZ X.prog X.w _ _ _ _ (.tup ys)from⟨hz,bN,r',IsTup.new _ _⟩)
  exact⟨.ref h'.objs.size,_,I2,rfl,q _ (I1.hok.fresh (aA _))⟩
 ·obtain⟨bN,r',pl,hz⟩:=I.tuple hq
  exact call_tuple_same pl ⟨.ref p,H,I,rfl,q⟩
def Uo(K:Frag)(T:String)(x:V)(H:Hp):Prop:=match x with
 |.str _=>T="str"
 |.int _=>T="int"
 |.ref p=>(T="list"/\∃xs,um K H p xs)\/(T="tuple"/\∃o,K.lookup p=some o/\o.cls=.type "tuple"/\o.dict=none) \/
   (T="dict"/\((∃g_,H p=some (.dK g_))\/∃g_,H p=some (.dT g_)))\/(T="set"/\∃S n,H p=some (.set S n))
 |_=>False
theorem Dk{x:V}(I:bH X ak σ H s)(r:dz s.toks x v)(ty:Uo X.K T x H) :
  s.TypeIs v T/\∀a,v=.ref a->∃ob,s.heap.get? a=some ob/\ob.dict=none:=by
 cases x with
 |str z=>
  obtain⟨t,rfl⟩:=r
  cases(show T="str" from ty)
  exact⟨mH s z t,fun _ e=>nomatch e⟩
 |int i=>
  obtain⟨t,rfl⟩:=r
  cases(show T="int" from ty)
  exact⟨typeIs_int s i t,fun _ e=>nomatch e⟩
 |ref p=>
  cases r
  rcases ty with⟨rfl,xs,hq⟩|⟨rfl,o,hk,hc,hd⟩|⟨rfl,hk⟩|⟨rfl,S,n,hk⟩
  ·obtain⟨bN,_,pl,_⟩:=I.list hq
   refine⟨pl.isList.typeIs,fun a e=>?_⟩
   cases e
   obtain⟨o,n,e,c,hd,_⟩:=pl
   exact⟨o,e,hd⟩
  ·refine⟨⟨o,I.kIn p o hk,hc⟩,fun a e=>?_⟩
   cases e
   exact⟨o,I.kIn _ o hk,hd⟩
  ·have z:∃o,s.heap.get? p=some o/\o.ExactDict:=by
    rcases hk with⟨g_,hk⟩|⟨g_,hk⟩
    ·obtain⟨_,_,_,_,o,_,_,e,ex,_⟩:=I.hok p _ hk
     exact⟨o,e,ex⟩
    ·obtain⟨_,_,_,_,o,_,_,e,ex,_⟩:=I.hok p _ hk
     exact⟨o,e,ex⟩
   obtain⟨o,e,ex⟩:=z
   refine⟨⟨o,e,ex.1⟩,fun a e2=>?_⟩
   cases e2
   exact⟨o,e,ex.2.1⟩
  ·obtain⟨o,_,_,_,e,ex,_⟩:=I.hok p _ hk
   refine⟨⟨o,e,ex.1⟩,fun a e2=>?_⟩
   cases e2
   exact⟨o,e,ex.2.1⟩
 |_=>exact False.elim ty
variable{to:TE}{t:TA}{id:String}
end
end L2
namespace L2
open PySem PySem.Spec PyProof.Rows
def VV(X:Cx)(id:String)(r:V->List V->Hp->VK->Prop):Prop:=
 ∀(ak:List (Addr×Obj)) (s:Shared) (σ:St) (H:Hp) (x:V) (xs:List V) (v:Value) (us:List Value) (Q:VK),bH X ak σ H s->dz s.toks x v->cK s.toks xs us->r x xs H Q ->
  wpAny #[4] X.A (call (.builtin id) (v::us)) (EP X ak σ Q) X.xe s
theorem cK.one{x:V}(h:cK nk [x] us):∃u,us=[u]/\dz nk x u:=by cases h with|cons r t=>cases t;exact⟨_,rfl,r⟩
theorem cK.two{x y:V}(h:cK nk [x,y] us):∃u v,us=[u,v]/\dz nk x u/\dz nk y v:=by cases h with|cons r t=>obtain⟨v,rfl,q⟩:=cK.one t;exact⟨_,v,rfl,r,q⟩
theorem cK.zero:∀{us:List Value},cK nk [] us->us=[]
 |_,.nil=>rfl
theorem cK.dropLast(h:cK nk xs us):cK nk xs.dropLast us.dropLast:=by
 induction h with
 |nil=>exact .nil
 |cons r t ih=>
  cases t with
  |nil=>exact .nil
  |cons q t'=>exact .cons r ih
theorem Dl(l:List α):l.eraseIdx (l.length-1)=l.dropLast:=by
 induction l with
 |nil=>rfl
 |cons a r ih=>
  cases r with
  |nil=>rfl
  |cons b r=>
   have e:(a::b::r).length-1=((b::r).length-1)+1:=by
    have h1:(a::b::r).length=r.length+2:=rfl
    have h2:(b::r).length=r.length+1:=rfl
    omega
   rw[e,List.eraseIdx_cons_succ,ih]
   all_goals rfl
section
variable{l b:Addr}{ys zs:List V}
theorem bH.lset{its':List Value}{f:Array Value->Array Value}(I:bH X ak σ H s)(hH:H l=some (.lst xs))
  (e:s.heap.get? l=some { cls:=.type "list",data:=.seq bN.toArray n }) (hf:f bN.toArray=its'.toArray) (hv:cK t' ys its') (hz:ys.length<=sizeLine) (hk:s.toks<=t':=by first|exact aA _|exact bn _|assumption|omega) :
  bH X ak σ (fU H l (.lst ys)) { s with heap:=s.heap.update l (Obj.mapSeq f),toks:=t' }:=by
 have q:=PySem.IsL.update e f
 rw[hf]at q
 refine I.write (x:=l) (e:=l) (by rw[hH];exact trivial) (.inl rfl) (fun b' u hb hu=>(cM s.heap (Obj.mapSeq f) (Ne.symm hb)).trans hu) ⟨_,q⟩ ?_
 exact⟨hz,its',_,hv,q⟩
theorem bH.lnew{t':Nat}(I:bH X ak σ H s)(hv:cK t' ys bN)(hz:ys.length<=sizeLine)(hk:s.toks<=t':=by first|exact aA _|exact bn _|assumption|omega) :
  bH X ak σ (fU H s.heap.objs.size (.lst ys)) { s with heap:=s.heap.push { cls:=.type "list",data:=.seq bN.toArray },toks:=t' }:=
 I.laid (fun _ _ q=>aw _ q) (aA _) ⟨hz,bN,0,hv,aC _ rfl⟩
theorem bH.fresh(I:bH X ak σ H s):H s.heap.objs.size=none:=I.hok.fresh (aA _)
theorem bH.lstM(I:bH X ak σ H s)(hH:H l=some (.lst xs)):xs.length<=sizeLine/\∃(bN:List Value) (n:Nat),cK s.toks xs bN/\xs.length=bN.length/\s.heap.get? l=some { cls:=.type "list",data:=.seq bN.toArray n }:=by
 obtain⟨z,bN,n,r,e⟩:=I.hok l _ hH
 exact⟨z,bN,n,r,r.length,e⟩
end
section
def EL:V->List V->Hp->VK->Prop:=fun x vs H Q=>∃l xs y,x=.ref l/\vs=[y]/\H l=some (.lst xs)/\xs.length<sizeLine/\Q .non (fU H l (.lst (xs++[y])))
theorem FR:VV X "list.append" EL:=by
 intro ak s σ H x vs v us Q I rx rv h
 obtain⟨l,xs,y,rfl,rfl,hH,hz,q⟩:=h
 cases rx
 obtain⟨u,rfl,ru⟩:=rv.one
 obtain⟨z,bN,n,r,hl,e⟩:=I.lstM hH
 refine sM F.slot_list_append ⟨_,e,rfl⟩ F.entry_list_append (F.args_list_append_2 _ _) (PySem.list_append l bN.toArray n u (by rw[aT];omega)) ⟨e,?_⟩
 refine⟨.non,_,I.lset (its':=bN++[u]) hH e #[15] (r.append (.cons ru .nil)) ?_,rfl,q⟩
 rw[ai,bt]
 omega
def RL:V->List V->Hp->VK->Prop:=fun x vs H Q=>∃l xs y,x=.ref l/\vs=[]/\H l=some (.lst xs)/\xs[xs.length-1]?=some y/\Q y (fU H l (.lst xs.dropLast))
theorem Oz:VV X "list.pop" RL:=by
 intro ak s σ H x vs v us Q I rx rv h
 obtain⟨l,xs,y,rfl,rfl,hH,hy,q⟩:=h
 cases rx
 have hus:=rv.zero
 subst hus
 obtain⟨z,bN,n,r,hl,e⟩:=I.lstM hH
 obtain⟨u,hu,ru⟩:=r.get hy
 have hy':bN.toArray[bN.toArray.size-1]?=some u:=by
  show bN.toArray[bN.length-1]?=some u
  rw[<- fS,<- hl]
  exact hu
 refine sM F.slot_list_pop ⟨_,e,rfl⟩ F.entry_list_pop (F.args_list_pop_1 _) (MeetsSeq.list_pop_last l bN.toArray n u hy' (by rw[aT];omega)) ⟨e,?_⟩
 refine⟨y,_,I.lset (its':=bN.dropLast) hH e ?_ r.dropLast ?_,ru,q⟩
 ·show bN.toArray.eraseIdxIfInBounds (bN.toArray.size-1)=bN.dropLast.toArray
  rw[aT,List.eraseIdxIfInBounds_toArray,Dl]
 ·rw[List.length_dropLast]
  omega
def U8:R2:=fun x y H Q=>∃l b xs zs,x=.ref l/\y=.ref b/\H l=some (.lst xs)/\H b=some (.lst zs)/\xs.length+zs.length<=sizeLine/\∀p,H p=none->Q (.ref p) (fU H p (.lst (xs++zs)))
theorem OA:pR X (binaryOp .Add) U8:=by
 intro ak s σ H x y v u Q I rx ry h
 obtain⟨l,b,xs,zs,rfl,rfl,hH,hB,hz,q⟩:=h
 cases rx
 cases ry
 obtain⟨z,bN,n,r,hl,e⟩:=I.lstM hH
 obtain⟨z2,its2,n2,r2,hl2,e2⟩:=I.lstM hB
 refine PySem.P.add_list e e2 ?_ (by rw[aT,aT];omega)
 have ea:bN.toArray++its2.toArray=(bN++its2).toArray:=by simp
 rw[ea]
 exact⟨.ref _,_,I.lnew (t':=s.toks) (r.append r2) (by rw[ai];omega),rfl,q _ I.fresh⟩
end
section
variable{w:World}
end
section
end
end L2
namespace Att
open PySem PySem.W PySem.Calls PyProof.Rows
theorem vz{P:Params}:∀(ns:List Int) (vs:List Value),WellAll P h vs (ns.map WData.int)->IntsAre vs ns:=by
 intro ns
 induction ns with
 |nil=>
  intro vs w
  rw[List.map_nil]at w
  cases w
  exact .nil
 |cons n ns ih=>
  intro vs w
  rw[bq]at w
  cases w with
  |cons a b=>
   cases a
   exact .cons _ _ (ih _ b)
theorem FU{l:OpenLaw}(hn:l.most=some n){P:Params}{args:List WData}{vM:List Value}
  (CV:l.row.toRowW.claim.pre args=true) (VR:WellAll P h vM args) :
  ∃a vs ns,vM=[Value.ref a]/\args=[WData.list (ns.map WData.int)]/\h.get? a=some { cls:=.type "list",data:=.seq vs.toArray }/\IntsAre vs ns/\ns.length<=n:=by
 have hsh:WShape.hasAll [] args [.list .int]=true:=(pre_splitW CV).1
 have hc:l.pre.holds [] { args:=args }=true:=(pre_splitW CV).2
 obtain⟨d,r,rfl,h1,h2⟩:=hasAllW_cons hsh
 obtain rfl:=hasAllW_nil h2
 obtain⟨xs,rfl,h3⟩:=hasW_list h1
 obtain⟨ns,rfl⟩:=items_int h3
 have gB:ns.length<=n:=by
  unfold OpenLaw.pre at hc
  have h4:(WTm.not (.lt (.lit (.int (n:Int))) (.len (.arg 0)))).holds [] { args:=[.list (ns.map .int)] }=true:=by
   have h4:=(holds_andW hc).1
   rw[hn]at h4
   exact h4
  have h5:=condW_of h4 (w_not (w_lt w_lit (w_len_list (w_arg rfl))))
  rw[aE]at h5
  refine Nat.le_of_not_lt fun q=>?_
  have q':(n:Int)<((ns.length:Nat):Int):=by omega
  first
   |(rw[bF q']at h5;exact absurd h5 (by decide))
   |(simp at h5;omega)
 cases VR with
 |cons w1 w2=>
  cases w2
  cases w1 with
  |list ho hall=>exact⟨_,_,ns,rfl,rfl,ho,vz ns _ hall,gB⟩
theorem FV(l:OpenLaw)(args:List WData):l.row.toRowW.claim.post args (.bool true) args=true:=
 postW_of (r:=l.row.toRowW) (X:=(true==true))
  (show WShape.has [] (.bool true) .bool=true by first|rfl|decide|simp[WShape.has,WShape.arms,WShape.armsAll])
  (show(WTm.eq .res (.lit (.bool true))).value [] { args:=args,res:=some (.bool true),after:=args }=some (.bool (true==true))from w_eq_bool (w_res rfl) w_lit) rfl
theorem attach_call{l:OpenLaw}{q:Program}{zj:List Str}{d:DefRec}
  (hn:l.most=some n) (Uh:d.params.defaults=[])
  (call:∀(w:World) (s₀ s₁:Shared) (mg mb:Str->Option Value) (fa:Addr) (o:Obj) (pm cd uk:Value) (a:Addr) (vs:List Value) (ns:List Int),
   Ground q zj [] XP w s₀ mg mb s₁.heap->YP w s₁.heap ->
   s₁.heap.get? fa=some o->o.data=.func (docDef d.name d.params d.body d.scope pm cd uk)->s₁.heap.CodeRec cd d.name->mg d.name=some (.ref fa) ->
   s₁.heap.get? a=some { cls:=.type "list",data:=.seq vs.toArray }->IntsAre vs ns->ns.length<=n->s₁.gens=#[] ->
   codeAny (model l.prog w) callerA (.call (.ref fa) ⟨[.ref a],[]⟩) (fun r s'=>r=.ok (.ret (.bool true))/\OldK s₁.heap s'.heap/\s'.os=s₁.os/\AllBare s'.gens) s₁) :
  WalkO q zj XP YP l.row.toRowW d [] (fun f vs=>PySem.call f vs):=by
 intro w s₀ s₁ mg mb G Y fa o pm cd uk dV kV ho hd C2 hD hmg hg args vM as CV hlay hrd VR hlo
 obtain rfl:dV=.none:=Dflts.none hD Uh
 obtain rfl:kV=.none:=Dflts.noKw hD
 obtain⟨a,vs,ns,rfl,rfl,hobj,hints,gB⟩:=FU hn CV VR
 refine enter_call (i_ (call w s₀ s₁ mg mb fa o pm cd uk a vs ns G Y ho (fd_plain hd) C2 hmg hobj hints gB hg) fun r s' hq=>?_)
 obtain⟨rfl,h2,h3,h4⟩:=hq
 exact⟨.inl ⟨.bool true,.bool true,[],rfl,fun _=>rfl,.bool true,FV l _,fun _=>⟨List.Pairwise.nil,fun _ hm=>(nomatch hm)⟩⟩,h2,h3,h4⟩
section
variable{w:World}
end
end Att
namespace L2
open PySem PySem.Spec PyProof.Rows
theorem yG:∀{vs:List Value} {ns:List Int},IntsAre vs ns->cK nk (ns.map V.int) vs
 |_,_,.nil=>.nil
 |_,_,.cons n t h=>.cons ⟨t,rfl⟩ (yG h)
def La(H:Hp):Prop:=∀b,H b=none\/∃o xs,H b=some (.frz o (.lst xs))
theorem Hb{P:Program}{w:World}{mb:Str->Option Value}{CX:FM}{fa a:Addr}{fd:FuncData}{sp:Sp}{s₁:Shared}{vs:List Value}
  (KX:K.In s₁.heap) (VH:s₁.heap.Ns mainGlobals mg) (hb:s₁.heap.Ns builtinsNs mb) (Wu:∀x:Str,x ≠ "__name__"->mb x=bootBuiltins x) (VA:s₁.heap.NoLimit) (hg:s₁.gens=#[])
  (ha:s₁.heap.get? a=some { cls:=.type "list",data:=.seq vs.toArray }) (hi:IntsAre vs ns) (hl:ns.length<=sizeLine) (hr:jW k callerA)
  (F:∀base:Heap,K.In base->base.Ns mainGlobals mg->c6 P w K mg base CX k fa fd [x] sp) (Uc:∀(s:Shared) (u:Value),BindsTo s fd ⟨[u],[]⟩ [(x,u)]) (Q1:fd.scope.names.lookup x=some .local)
  (NL:∀H:Hp,La H->um K H a (ns.map V.int)->sp [.ref a] H (fun v _=>v=.bl true) fun _ _ _=>False)
  (VE:∀H e s',CX [] H s₁ (fun _ _ _=>False) e s'->False) :
  codeAny (model P w) callerA (.call (.ref fa) ⟨[.ref a],[]⟩) (fun r s'=>r=.ok (.ret (.bool true))/\OldK s₁.heap s'.heap/\s'.os=s₁.os/\AllBare s'.gens) s₁:=by
 have rv:cK 0 _ _:=yG hi
 have lenV:=hi.length
 have core:∀H:Hp,La H->um K H a (ns.map V.int)->uj P w s₁.toks H s₁.heap->(∀b,H b≠none->b=a)->(H a≠none->K.lookup a=none) ->
   codeAny (model P w) callerA (.call (.ref fa) ⟨[.ref a],[]⟩) (fun r s'=>r=.ok (.ret (.bool true))/\OldK s₁.heap s'.heap/\s'.os=s₁.os/\AllBare s'.gens) s₁:=by
  intro H hO hS hok hA hK
  have base_of:∀{b:Addr} {o:Obj},s₁.heap.get? b=some o->H b=none->(zu s₁.heap H).get? b=some o:=fun e n=>GQ e n
  have noA:∀{b:Addr} {o:Obj} {es:Array DictEntry} {ep:Nat},s₁.heap.get? b=some o->o.data=.dict es ep->H b=none:=fun{b o es ep} e d=>by
   cases q:H b with
   |none=>rfl
   |some u=>
    have e':b=a:=hA b (by rw[q];simp)
    subst e'
    rw[ha]at e;cases e
    have d':Data.seq vs.toArray _=Data.dict es ep:=d
    cases d'
  have nsK:∀{b:Addr} {m:Str->Option Value},s₁.heap.Ns b m->(zu s₁.heap H).Ns b m:=fun{b m} ⟨o,es,ep,e,d,r⟩=>⟨o,es,ep,base_of e (noA e d),d,r⟩
  have hKb:K.In (zu s₁.heap H):=fun b o e=>base_of (KX b o e) (by
   cases q:H b with
   |none=>rfl
   |some u=>
    have e':b=a:=hA b (by rw[q];simp)
    subst e'
    rw[hK (by rw[q];simp)]at e;cases e)
  have hM:Mod K mg (zu s₁.heap H):=⟨hKb,nsK VH,⟨mb,nsK hb,Wu⟩,let ⟨mc,h1,h2⟩:=VA;⟨mc,nsK h1,h2⟩⟩
  have e0:De P w K mg (zu s₁.heap H) callerA [] s₁ H:=⟨rfl,hM,fun b o e=>KJ e,Nat.le_of_eq (Fx _ _),trivial,fun b hb=>absurd (show b∈([]:List Addr)from hb) #[15],hok,.of_eq hg⟩
  refine i_ ((F _ hKb (nsK VH)).run callerA [] s₁ H ⟨[.ref a],[]⟩ [.ref a] [.ref a] _ _ hr e0 (.inr ⟨x,rfl,Q1⟩) (Uc s₁ (.ref a)) (.cons rfl .nil) (NL H hO hS)) fun r s' h=>?_
  cases r with
  |error e=>exact(VE H e s' h).elim
  |ok fl=>
   cases fl with
   |next=>exact False.elim h
   |brk=>exact False.elim h
   |cont=>exact False.elim h
   |ret u=>
    obtain⟨v,H',os,bare,un,hok',r',q⟩:=h
    have q':v=.bl true:=q
    subst q'
    obtain rfl:u=Value.bool true:=r'
    refine⟨rfl,OldK.of_keep fun b o e=>?_,os,bare⟩
    cases q:H b with
    |none=>exact un.keep b o e q (by intro z;exact absurd (show b∈([]:List Addr)from z) (by simp)) (by simp)
    |some u=>
     rcases hO b with z|⟨ob,xs,z⟩
     ·rw[q]at z;cases z
     ·have z2:=un.frzs b ob _ z
      obtain⟨e1,_⟩:=hok b _ z
      obtain⟨e2,_⟩:=hok' b _ z2
      rw[e]at e1;cases e1
      exact e2
 cases hk:K.lookup a with
 |some o=>
  have e:=KX a o hk
  rw[ha]at e
  cases e
  refine core (fun _=>none) (fun _=>.inl rfl) (.inr ⟨_,vs.toArray,_,hk,rfl,rfl,rfl,by rw[aT,lenV];exact hl,by simpa using rv⟩) (fun b u z=>by have z':(none:Option HO)=some u:=z;cases z') (fun b z=>absurd rfl z) fun z=>absurd rfl z
 |none=>
  refine core (fun b=>if b=a then some (.frz { cls:=.type "list",data:=.seq vs.toArray } (.lst (ns.map V.int)))else none) (fun b=>?_) (.inl (.inr ⟨{ cls:=.type "list",data:=.seq vs.toArray },aK rfl⟩)) (fun b u z=>?_) (fun b z=>?_) fun _=>hk
  ·by_cases hb:b=a
   ·exact .inr ⟨_,_,aK hb⟩
   ·exact .inl (aU hb)
  ·by_cases hb:b=a
   ·have z':=(aK hb).symm.trans z
    cases z'
    subst hb
    exact⟨ha,by rw[aE];exact hl,vs,_,rv.up (bY _),ha⟩
   ·have z':=(aU hb).symm.trans z
    cases z'
  ·by_cases hb:b=a
   ·exact hb
   ·exact absurd (aU hb) z
end L2
namespace L2
open PySem PySem.Spec PyProof.Rows
theorem walk_of{l:PySem.W.OpenLaw}{n k:Nat}{q:Program}{zj:List Str}{d:DefRec}{K:Params->Frag}{CX:World->FM}{sp:World->Sp}{x:Str}
  (hn:l.most=some n) (TY:n<=sizeLine) (Uh:d.params.defaults=[]) (hr:jW k callerA)
  (hY:∀(w:World) (h:Heap),YP w h->(K w.params).In h)
  (F:∀(w:World) (mg:Str->Option Value) (fa:Addr) (h:Heap),(K w.params).In h->h.Ns mainGlobals mg->mg d.name=some (.ref fa) ->
   ∃fd:FuncData,fd.scope.names.lookup x=some .local/\(∀(s:Shared) (u:Value),BindsTo s fd ⟨[u],[]⟩ [(x,u)]) /\
    ∀base:Heap,(K w.params).In base->base.Ns mainGlobals mg->c6 l.prog w (K w.params) mg base (CX w) k fa fd [x] (sp w))
  (NL:∀(w:World) (H:Hp) (a:Addr) (ns:List Int),ns.length<=n->La H->um (K w.params) H a (ns.map V.int)->sp w [.ref a] H (fun v _=>v=.bl true) fun _ _ _=>False)
  (VE:∀(w:World) (H:Hp) (s:Shared) (e:Value) (s':Shared),CX w [] H s (fun _ _ _=>False) e s'->False) :
  PySem.W.WalkO q zj XP YP l.row.toRowW d [] (fun f vs=>PySem.call f vs):=by
 refine Att.attach_call hn Uh fun w s₀ s₁ mg mb fa o pm cd uk a vs ns G Y ho hd C2 hmg hobj hints gB hg=>?_
 have KX:=hY w _ Y
 obtain⟨fd,Q1,hb,hF⟩:=F w mg fa _ KX G.T.g hmg
 exact Hb KX G.T.g G.T.b G.T.builtins G.T.nolimit hg hobj hints (aN gB TY) hr hF hb Q1 (fun H hO hS=>NL w H a ns gB hO hS) fun H e s'=>VE w H s₁ e s'
end L2
namespace L2
open PySem PySem.Spec PyProof.Rows
def iV(s:Stmt):Arguments:=match s with
 |.FunctionDef _ a _ _ _ _ _ _ _ _=>a
 |_=>{ posonlyargs:=[],args:=[],vararg:=none,kwonlyargs:=[],kw_defaults:=[],kwarg:=none,defaults:=[] }
def hJ(s:Stmt):List Stmt:=match s with
 |.FunctionDef _ _ b _ _ _ _ _ _ _=>b
 |_=>[]
def aO(s:Stmt):Scope:=match s with
 |.FunctionDef _ _ _ _ _ _ sc _ _ _=>sc
 |_=>{ kind:=.function,names:=[],isGenerator:=false,isCoroutine:=false }
structure iW(K:Frag)(x fM:Str)(st:Stmt)(f:Addr)(fd:FuncData):Prop where
 ex:∃(oc:Value) (od:Option Addr) (kV uk pm:Value) (an:Option Addr) (fC ct:Value) (NI:Array (Option Value)),
  fd=fnOf x fM (iV st) (hJ st) (aO st) .none kV uk pm an fC ct/\K.lookup f=some ⟨oc,od,.func fd,NI⟩/\codeIn K fC fM=true
 kp:keepIn K (.ref f)=true
section
variable{w:World}
theorem iW.binds{st:Stmt}{f:Addr}(F:iW K x fM st f fd)
  (h:∀(kV uk pm:Value) (an:Option Addr) (fC ct:Value) (us:List Value),us.length=ps.length->bindArgs (fnOf x fM (iV st) (hJ st) (aO st) .none kV uk pm an fC ct) ⟨us,[]⟩=pure (ps.zip us)):rd K fd ps []:=by
 obtain⟨oc,od,kV,uk,pm,an,fC,ct,NI,rfl,lk,C2⟩:=F.ex
 exact .all (h kV uk pm an fC ct)
theorem zC{st:Stmt}{f:Addr}{oc:Value}{od an:Option Addr}{NI:Array (Option Value)}{kV uk pm fC ct:Value}(l:K.lookup f=some ⟨oc,od,.func (fnOf x fM (iV st) (hJ st) (aO st) .none kV uk pm an fC ct),NI⟩)
  (c:codeIn K fC fM=true) (k:keepIn K (.ref f)=true):iW K x fM st f (fnOf x fM (iV st) (hJ st) (aO st) .none kV uk pm an fC ct):=⟨⟨oc,od,kV,uk,pm,an,fC,ct,NI,rfl,l,c⟩,k⟩
end
section
theorem pv(i:Nat){pos:Pos}(hN:X.N[i]?=some x:=by rfl)(hv:Rb X.env.scope x:=by first|exact Or.inl rfl|exact Or.inr (Or.inl rfl)|exact Or.inr (Or.inr rfl))(hd:(x==("__debug__":Str))=false:=by decide)
  (C2:(x==("__classdict__":Str))=false:=by decide):PE X (.Name x pos) (Rc i):=NU hN hv hd C2
end
def vA(H H':Hp):Prop:=∀b o,H b=some o->H' b=some o
theorem vA.refl(H:Hp):vA H H:=fun _ _ h=>h
end L2
namespace L2
open PySem PySem.Spec PyProof.Rows
section
variable{κ:Type}[DecidableEq κ]
end
section
variable{w:World}{a:Addr}
end
section
variable{a:Addr}{y v:V}{r:Value}{o:Option V}
end
section
variable{a:Addr}{g_:List (v8×V)}{k:v8}
end
section
variable{i value:Expr}{VC:Pos}{td ty tv:TE}
end
section
end
section
variable{a:Addr}{y d:V}{r:Value}{o:Option V}
end
section
variable{f:Expr}{td ty tx:TE}
end
section
variable{a:Addr}{g_:List (v8×V)}
end
section
variable{a:Addr}{y:V}
end
end L2
namespace L2
open PySem PySem.Spec PyProof.Rows
section
end
section
variable{κ:Type}[DecidableEq κ]
end
end L2
set_option maxHeartbeats 4000000
namespace L2
open PySem PySem.Spec PyProof.Rows
theorem uv{t:Sem α}{Q Q':α->Shared->Prop}(h:wpAny M A t Q (fun _ _=>False) s)(hQ:∀a s',s.toks<=s'.toks->Q a s'->Q' a s'):wpAny M A t Q' E s:=
 up (jF h (fun a s' q k=>hQ a s' k q) fun _ _ z=>z.elim)
abbrev dZ(X:Cx)(nm:List Str)(scope:Scope)(cl:List (Str×Addr))(C:Addr)(s0:Shared)(H0:Hp)(fp:List Addr):Cx:=
 { X with N:=nm,s₀:=s0,H₀:=H0,env:=compEnvC scope cl C X.env,outer:=X.stack,stack:=X.stack,ex:=fp,fn:=fun _=>false,pn:=[],xe:=fun _ _=>False }
def Hc(X:Cx)(oo:List Expr)(t:TT):Prop:=
 ∀(ak:List (Addr×Obj)) (s:Shared) (σ:St) (H:Hp) (Q:Bool->Hp->Prop),bH X ak σ H s->t σ H Q ->
  wpAny #[4] X.A (forIn oo true fun c r=>if r=true then do let ok <- isTrue c X.env (eval c X.env);pure (ForInStep.yield ok)else pure (ForInStep.yield r)) (TP X ak σ Q) X.xe s
def U9:TT:=fun _ H Q=>Q true H
theorem Lb:Hc X [] U9:=fun _ _ _ H _ I h=>wpAny_tests_nil ⟨H,I,h⟩
theorem Lc{t:TT}(hc:PT X c t):Hc X [c] t:=fun ak s σ H Q I h=>wpAny_tests_one (hc ak s σ H Q I h)
def re(cap:List (Option Nat))(σ:St):St:=cap.map fun o=>o.bind fun j=>(σ[j]?).join
def wf(cap:List (Option Nat))(wi:TI)(g:TG)(tc:TT)(te:TE):TE:=fun σ H Q=>wi σ H fun J H1=>∃W:Nat->Nat->List V->Hp->Prop,(∃m,W 0 m [] H1)/\∀i m ys H2,W i m ys H2 ->
 (J.stop i H2/\ys.length<=sizeLine/\∀p,H2 p=none->Q (.ref p) (fU H2 p (.lst ys))) \/
 (J.go i H2/\∀x H3,J.yld i H2 x H3->g x (re cap σ) H3 fun σ2 H4=>tc σ2 H4 fun b H5=>if b=true then te σ2 H5 fun y H6=>ys.length<sizeLine/\∃m',m'<m/\W (i+1) m' (ys++[y]) H6 else ∃m',m'<m/\W (i+1) m' ys H5)
theorem Un.cellK{fs ex:List Addr}(u:Un fs ex H H' h h'){c:Addr}{v:Option Value}(x:h.IsCell c v)(n:H c=none)(he:c∉ex):h'.IsCell c v:=by
 obtain⟨o,ho,hd⟩:=x
 obtain⟨sl,q⟩:=u.any ho n he
 exact⟨_,q,hd⟩
structure wg(X:Cx)(scope:Scope)(cl:List (Str×Addr))(x:Str):Prop where
 vis:Rb X.env.scope x
 nl:X.env.scope.names.lookup x≠some .local
 cl:cl.lookup x=X.env.cells.lookup x
 kd:(relabel scope X.env).names.lookup x=some .cell\/(relabel scope X.env).names.lookup x=some .free
theorem nn:∀(names:List (Str×NameKind)) (n:Nat) (ju:List (Str×Addr)) {y:Str} {c:Addr},(y,c)∈cellsFrom n names ju->(y,NameKind.cell)∈names\/(y,c)∈ju
 |[],_,_,_,_,h=>.inr h
 |(x,k)::r,n,ju,y,c,h=>by
  have h:(y,c)∈(if k==.cell then cellsFrom (n+1) r ((x,n)::ju)else cellsFrom n r ju):=h
  split at h
  ·rename_i hk
   rcases nn r _ _ h with q|q
   ·exact .inl (aW _ q)
   ·rcases aX.mp q with e|q
    ·cases e
     exact .inl (by rw[oh hk];exact cr)
    ·exact .inr q
  ·rcases nn r _ _ h with q|q
   ·exact .inl (aW _ q)
   ·exact .inr q
theorem jJ:∀{l:List (Str×β)} {x:Str} {b:β},l.lookup x=some b->(x,b)∈l
 |[],_,_,h=>by simp at h
 |(y,c)::r,x,b,h=>by
  rw[kT]at h
  cases hx:x==y with
  |true=>rw[hx]at h;have:=oh hx;subst this;cases h;exact cr
  |false=>rw[hx]at h;exact aW _ (jJ h)
theorem kX:∀(names:List (Str×NameKind)) (n:Nat) (ju:List (Str×Addr)),cellsFrom n names ju=cellsFrom n names []++ju
 |[],_,_=>rfl
 |(x,k)::r,n,ju=>by
  show(if k==.cell then cellsFrom (n+1) r ((x,n)::ju)else cellsFrom n r ju)=(if k==.cell then cellsFrom (n+1) r [(x,n)]else cellsFrom n r [])++ju
  split
  ·rw[kX r (n+1) ((x,n)::ju),kX r (n+1) [(x,n)],al];rfl
  ·exact kX r n ju
abbrev fz(X:Cx)(nm:List Str)(scope:Scope)(cl:List (Str×Addr))(C:Addr)(s0:Shared)(H0:Hp)(fp:List Addr):Cx:=
 { dZ X nm scope cl C s0 H0 fp with fn:=fun y=>scope.names.lookup y==some .cell }
theorem Ld{M:Model}{A:Around}{E:Value->Shared->Prop}{globals:Addr}{Q:Env->Shared->Prop}
  (hQ:∀h':Heap,h'.Ns s.heap.objs.size (fun x=>([]:List (Str×Value)).reverse.lookup x)->(∀b o,s.heap.get? b=some o->h'.get? b=some o)->CellsOk h' #[7] (cellsFrom #[7] scope.names []) ->
   Q (newEnv scope s.heap.objs.size globals (cellsFrom #[7] scope.names []++cl) fM none .none (some env) builtinsNs) { s with heap:=h' }) :
  wpAny M A (newFunctionEnv scope globals cl [] fM none .none (some env)) Q E s:=by
 simp only[newFunctionEnv,Option.isSome_some,gF]
 refine af (wpAny_alloc ?_)
 refine af (wpAny_layCells _ (fun name kind cells=>by cases hkc:kind==NameKind.cell<;>simp[hkc]) _ _ _ _ ?_)
 have ok:=cellsFrom_ok scope.names (s.heap.push { cls:=.type "dict",data:=.dict #[] }) #[7] [] ⟨fun _ _ hm=>(nomatch hm),List.Pairwise.nil⟩ (by rw[bw];exact aA _)
 rw[bw]at ok
 rw[show({ s with heap:=s.heap.push { cls:=.type "dict",data:=.dict #[] } }:Shared).heap.objs.size=s.heap.objs.size+1 from bw ..,kX _ _ cl]
 exact af (ay (ay (hQ _ ((Heap.Ns.new s.heap (.type "dict")).keeps (lP _ _)) (fun b o e=>lP _ _ b o (aw _ e)) ok)))
section
variable{wi:TI}{g:TG}{tc:TT}
theorem zD{prog:Program}{w:World}{A:Around}{E:Value->Shared->Prop}{l:Addr}{u:Value}{Q:Value->Shared->Prop}
  (e:s.heap.get? l=some { cls:=.type "list",data:=.seq bN.toArray n }) (hz:bN.length<sizeLine)
  (h:∀(h':Heap) (n' tk:Nat),h'.get? l=some { cls:=.type "list",data:=.seq (bN++[u]).toArray n' }->(∀b o,b≠l->s.heap.get? b=some o->h'.get? b=some o)->Q .none { s with heap:=h',toks:=tk }) :
  wpAny #[6] A (call (.builtin "list.append") [.ref l,u]) Q E s:=by
 refine sM F.slot_list_append ⟨_,e,rfl⟩ F.entry_list_append (F.args_list_append_2 _ _) (PySem.list_append l bN.toArray n u (by rw[aT];omega)) ⟨e,?_⟩
 have q:=PySem.IsL.update e (fun a=>a.push u)
 have q2:(s.heap.update l (Obj.mapSeq fun x=>x.push u)).get? l=some { cls:=.type "list",data:=.seq (bN++[u]).toArray (if ((bN.toArray.push u).size==bN.toArray.size)=true then n else n+1) }:=by
  rw[show(s.heap.update l (Obj.mapSeq fun x=>x.push u)).get? l=_ from q];simp
 exact h _ _ s.toks q2 fun b o hb ho=>(cM s.heap (Obj.mapSeq _) (Ne.symm hb)).trans ho
structure A'(X:Cx)(ak:List (Addr×Obj))(H:Hp)(s:Shared)(C:Addr)(m:Str->Option Value):Prop where
 ns:s.heap.Ns C m
 fr:H C=none
 nl:C≠X.env.locals
 nf:C∉X.fs
 hi:X.s₀.heap.objs.size<=C
 nc:∀x c,X.env.cells.lookup x=some c->c≠C
 np:∀p∈X.pn++ak,p.1≠C
theorem A'.off{m:Str->Option Value}(B:A' X ak H s C m)(I:bH X ak σ H s)(hs:Heap.SameBut C s.heap h'):bH X ak σ H { s with heap:=h' }:=I.turned (t':=s.toks) (it:=C) (fun b o hb e=>hs.extBut b o hb e) B.fr B.nl (.inr B.hi) B.nc B.np
theorem Hd{NP:List (Addr×Obj)}{σ2:St}{H1:Hp}{s2:Shared}
  (vO:∀(i j:Nat),cap[i]?=some (some j)->∃x,nm[i]?=some x/\X.N[j]?=some x/\wg X scope cl x) (gB:cap.length=nm.length)
  (I2:bH X ak σ H1 s2) (T9:∀b∈fp,∀x c,X.env.cells.lookup x=some c->c≠b)
  (I:bH (fz X nm scope cl C s2 H1 fp) NP σ2 H s):bH (fz X nm scope cl C s2 H1 fp) NP (re cap σ) H s:=by
 refine⟨I.ok,I.os,I.bare,I.base,?_,I.cell,I.free,I.freeC,I.pin,I.hok,by show(re cap σ).length=nm.length;unfold re;rw[aE];exact gB,I.pos,I.tk⟩
 obtain⟨m,hn,_⟩:=I.loc
 refine⟨m,hn,fun i x v e1 e2 e3=>?_⟩
 unfold re at e2
 rw[aG]at e2
 cases hc:cap[i]? with
 |none=>rw[hc]at e2;cases e2
 |some oj=>
  cases oj with
  |none=>rw[hc]at e2;cases e2
  |some j=>
   rw[hc]at e2
   have e2':(σ[j]?).join=some v:=by simpa using e2
   have e2:σ[j]?=some (some v):=by
    cases hs:σ[j]? with
    |none=>rw[hs]at e2';cases e2'
    |some ov=>rw[hs]at e2';simp at e2';rw[e2']
   obtain⟨x',f1,f2,k⟩:=vO i j hc
   have hx:x'=x:=by
    have z:nm[i]?=some x:=e1
    rw[f1]at z;exact bf z
   subst hx
   obtain⟨m2,_,hl2⟩:=I2.loc
   obtain⟨u,r,l⟩:=hl2 j x' v f2 e2 k.vis
   refine⟨u,r.up I.tk,?_⟩
   rcases l with⟨kl,_⟩|⟨_,c,hcc,iE⟩
   ·exact absurd kl k.nl
   ·refine .inr ⟨k.kd,c,by rw[<- hcc];exact k.cl,?_⟩
    exact I.base.cellK iE (I2.freeC _ _ hcc) fun z=>T9 c z _ _ hcc rfl
theorem Dm{Qk:VK}(kB:X.calm=true)(xP:closureFor scope X.env=pure cl)(CP:∀x c,cl.lookup x=some c->X.env.cells.lookup x=some c)
  (kA:scope.kind=.function) (sJ:∀x∈scope.names,x.2=.local->scope.names.lookup x.1=some .local) (Ws:∀y∈scope.names,y.2=.cell->cl.lookup y.1=none)
  (EB:∀x,scope.names.lookup x≠some .cell->#[13]->∃c,cl.lookup x=some c)
  (vO:∀(i j:Nat),cap[i]?=some (some j)->∃x,nm[i]?=some x/\X.N[j]?=some x/\wg X scope cl x/\(x,NameKind.cell)∉scope.names) (gB:cap.length=nm.length)
  (hi:PI X tg ec wi) (hg:∀k C s0 H0 fp,PG (fz X nm scope (cellsFrom k scope.names []++cl) C s0 H0 fp) tg g) (ht:∀k C s0 H0 fp,Hc (fz X nm scope (cellsFrom k scope.names []++cl) C s0 H0 fp) oo tc)
  (he:∀k C s0 H0 fp,PE (fz X nm scope (cellsFrom k scope.names []++cl) C s0 H0 fp) sI te) (hs:∀x,foldedSetIterable ec X.env x=pure x)
  (I:bH X ak σ H s) (h:wf cap wi g tc te σ H Qk) (kQ:∀(s4:Shared) (C D:Addr) (m4:Str->Option Value) (Hn:Hp),bH X ak σ Hn s4->A' X ak Hn s4 C m4->Qk (.ref D) Hn->compPost #[4] X.A X.xe use Qv (.ref D) C (.ok .next) s4) :
  wpAny #[4] X.A (comprehension #[11] scope X.env (firstIterPos [⟨tg,ec,oo,0⟩] pos) (newList []) (firstAsync [⟨tg,ec,oo,0⟩]) (firstIter [⟨tg,ec,oo,0⟩] X.env) use) Qv X.xe s:=by
 refine wpAny_comprehension_free (use:=use) rfl hs xP kA sJ (C3 (hi ak s σ H _ I h) fun v s1 h1=>C3 h1 fun VI s2 h2=>?_)
 obtain⟨it,fp,tn,J,H1,e,I2,T,c_,f2,W,⟨m0,w0⟩,turn⟩:=h2
 subst e
 have hfpn:∀b∈fp,b<s2.heap.objs.size:=fun b hb=>let ⟨o,ho,_⟩:=T.obj _ _ c_ b hb;aJ ho
 have hfpc:∀b∈fp,∀x c,X.env.cells.lookup x=some c->c≠b:=fun b hb=>(f2 b hb).2.2.2.2.1
 refine cC (Ld (fun h₁ hns₁ hsb₁ cok=>?_))
 dsimp only at hns₁ hsb₁ cok ⊢
 generalize hH2:s2.heap.push { cls:=.type "list",dict:=none,data:=.seq ([]:List Value).toArray }=G2 at hns₁ hsb₁ cok ⊢
 have hC:G2.objs.size=s2.heap.objs.size+1:=by rw[<- hH2,bw]
 have hDC:s2.heap.objs.size≠G2.objs.size:=by rw[hC];exact a9 (cb _)
 have old:∀b o,s2.heap.get? b=some o->h₁.get? b=some o:=fun b o e=>hsb₁ b o (hH2▸aw _ e)
 have hacc:h₁.get? s2.heap.objs.size=some { cls:=.type "list",data:=.seq ([]:List Value).toArray }:=hsb₁ _ _ (hH2▸aC _ rfl)
 have both:∀y c,(cellsFrom (G2.objs.size+1) scope.names []++cl).lookup y=some c->(cellsFrom (G2.objs.size+1) scope.names []).lookup y=some c\/cl.lookup y=some c:=fun y c e=>by
  rw[jH]at e
  cases h:(cellsFrom (G2.objs.size+1) scope.names []).lookup y with
  |none=>rw[h]at e;exact .inr e
  |some b=>rw[h]at e;exact .inl e
 have ownhi:∀y c,(cellsFrom (G2.objs.size+1) scope.names []).lookup y=some c->h₁.IsCell c none/\G2.objs.size+1<=c:=fun y c e=>cok.empty y c (PySem.mem_of_lookup e)
 have cllow:∀y c,cl.lookup y=some c->c<s2.heap.objs.size:=fun y c e=>by obtain⟨v,hv⟩:=I2.cell y c (CP _ _ e);exact hv.lt
 have hcap0:=vO
 have vO:∀(i j:Nat),cap[i]?=some (some j)->∃x,nm[i]?=some x/\X.N[j]?=some x/\wg X scope (cellsFrom (G2.objs.size+1) scope.names []++cl) x:=fun i j e=>by
  obtain⟨x,q1,q2,k,q3⟩:=hcap0 i j e
  refine⟨x,q1,q2,k.vis,k.nl,?_,k.kd⟩
  rw[jH]
  cases h:(cellsFrom (G2.objs.size+1) scope.names []).lookup x with
  |none=>exact k.cl
  |some c=>
   rcases nn _ _ _ (PySem.mem_of_lookup h)with z|z
   ·exact absurd z q3
   ·cases z
 have okB:#[2].Ok:=by
  refine⟨I2.ok.mod,kA,I2.ok.glob,I2.ok.blt,by show s2.heap.objs.size<=G2.objs.size;omega,fun x y c h1 h2=>?_,fun x hx=>?_,fun x c h0 hc=>?_,fun hc=>I2.ok.hd kB,I2.ok.frames,.inl rfl,?_,?_,?_,?_,?_,?_,?_⟩
  ·rcases both x c h1 with q1|q1<;>rcases both y c h2 with q2|q2
   ·exact name_of_addr cok.apart (PySem.mem_of_lookup q1) (PySem.mem_of_lookup q2)
   ·exact absurd (cllow y c q2) (jI.mpr (aN #[0] (ownhi x c q1).2))
   ·exact absurd (cllow x c q1) (jI.mpr (aN #[0] (ownhi y c q2).2))
   ·exact I2.ok.inj x y c (CP _ _ q1) (CP _ _ q2)
  ·show ∃c,(cellsFrom (G2.objs.size+1) scope.names []++cl).lookup x=some c
   rw[jH]
   by_cases hq:scope.names.lookup x=some .cell
   ·obtain⟨c,e⟩:=nM (n:=G2.objs.size+1) hq
    exact⟨c,by rw[e];rfl⟩
   ·obtain⟨c,e⟩:=EB x hq hx
    cases h:(cellsFrom (G2.objs.size+1) scope.names []).lookup x with
    |none=>exact⟨c,e⟩
    |some b=>exact⟨b,rfl⟩
  ·have hq:scope.names.lookup x=some .cell:=by simpa using h0
   obtain⟨b,e⟩:=nM (n:=G2.objs.size+1) hq
   have hc:(cellsFrom (G2.objs.size+1) scope.names []++cl).lookup x=some c:=hc
   rw[jH,e]at hc
   cases hc
   have:=(ownhi x _ e).2
   show s2.heap.objs.size<=_
   omega
  ·intro b hb
   exact⟨a9 (aL (hfpn b hb) (by show _<=G2.objs.size;omega)),fun x c hx=>(both x c hx).elim (fun q=>et (aL (hfpn b hb) (aN #[0] (ownhi x c q).2))) fun q=>hfpc b hb x c (CP _ _ q)⟩
  ·exact fun b o hb=>I2.bs b o hb
  ·exact aN I2.ok.bsz I2.sz
  ·intro b o hb z
   rcases(f2 b z).2.2.2.1 with q|q
   ·exact I2.ok.noex b o hb q
   ·exact absurd (aJ (I2.ok.bs b o hb).1) (jI.mpr q)
  ·intro b hb z
   rcases aX.mp (I2.stkSub b z)with q|q
   ·exact(f2 b hb).2.1 q
   ·exact(f2 b hb).2.2.1 q
  ·exact I2.stack
  ·exact I2.stkFree
 have I4:bH #[2] [] (re cap σ) H1 { s2 with heap:=h₁ }:=by
  refine Hd vO gB I2 hfpc (σ2:=List.replicate nm.length none) ⟨okB,rfl,I2.bare,Un.kept old,⟨_,hns₁,fun i x v _ e2=>?_⟩,fun x c hx=>?_,?_,fun x c hx=>(both x c hx).elim (fun q=>I2.hok.fresh (by have:=(ownhi x c q).2;omega)) fun q=>I2.freeC x c (CP _ _ q),fun p hp=>absurd hp #[15],I2.hok.kept old,by simp,I2.pos,aA _⟩
  ·rw[jR]at e2;split at e2<;>cases e2
  ·rcases both x c hx with q|q
   ·exact⟨none,(ownhi x c q).1⟩
   ·obtain⟨v,hv⟩:=I2.cell x c (CP _ _ q)
    exact⟨v,hv.keeps old⟩
  ·exact I2.hok.fresh (by show _<=G2.objs.size;omega)
 have hsz0:∀{Hx:Hp} {sx:Shared} {px:List (Addr×Obj)} {σx:St},bH #[2] px σx Hx sx->Hx s2.heap.objs.size=none->∀{oa:Obj},sx.heap.get? s2.heap.objs.size=some oa->(∀v,oa.data≠.cell v) ->
   bH #[2] [(s2.heap.objs.size,oa)] σx Hx sx:=fun{Hx sx px σx} Ix hn {oa} ho hd=>Ix.pins_of fun p hp=>by
  have e:p=(s2.heap.objs.size,oa):=by simpa using hp
  subst e
  exact⟨ho,hn,hDC,fun z=>by
   obtain⟨_,o,q,_⟩:=I2.stack.mem z
   exact absurd (aJ q) (dJ _),hd⟩
 have hfpB:∀{Hx:Hp} {oa:Obj},(∀b∈fp,Hx b=none)->∀b∈fp,uo #[2] [(s2.heap.objs.size,oa)] Hx b:=fun{Hx oa} hn b hb=>
  ⟨hn b hb,(okB.exf b hb).1,okB.exfs b hb,.inl hb,(okB.exf b hb).2,fun p hp=>by
   have e:p=(s2.heap.objs.size,oa):=by simpa using hp
   subst e
   exact et (hfpn b hb)⟩
 have hcalmB:#[2].calm=true:=kB
 have loop:∀sx:Shared,sx={ s2 with heap:=h₁ } ->
   codeAny #[4] X.A (.compLoop #[11] 0 (.ref it) (.ref s2.heap.objs.size) (compEnvC scope (cellsFrom (G2.objs.size+1) scope.names []++cl) G2.objs.size X.env))
    (compPost #[4] X.A X.xe use Qv (.ref s2.heap.objs.size) G2.objs.size) sx:=by
  rintro sx rfl
  refine codeAny_loop rfl (fun n s'=>∃i ys H',bH #[2] [] (re cap σ) H' s'/\tn i s'.heap/\(∀b∈fp,H' b=none)/\H' s2.heap.objs.size=none /\
   (∃bN k,cK s'.toks ys bN/\s'.heap.get? s2.heap.objs.size=some { cls:=.type "list",data:=.seq bN.toArray k })/\W i n ys H') ?_ m0
   ⟨0,[],H1,I4,T.keep _ _ _ c_ (fun b _ o e=>old b o e),fun b hb=>(f2 b hb).1,I2.fresh,⟨[],0,.nil,hacc⟩,w0⟩
  rintro n s3 ⟨i,ys,H3,I3,nL,fr3,na3,⟨bN,ka,rv,ea⟩,w3⟩
  show wpAny _ X.A ((compTurn #[11] 0 (.ref it) (.ref s2.heap.objs.size) (compEnvC scope (cellsFrom (G2.objs.size+1) scope.names []++cl) G2.objs.size X.env)).onRaise (fun x=>do noteFrame x (compEnvC scope (cellsFrom (G2.objs.size+1) scope.names []++cl) G2.objs.size X.env);theTreesLotGoes x)) _ _ s3
  refine wpAny_noted ?_
  rw[compTurn_list]
  refine af (rQ ?_)
  have I3p:=hsz0 I3 na3 ea (fun v z=>by cases z)
  rcases turn i n ys H3 w3 with⟨stop,hz,qn⟩|⟨go,step⟩
  ·refine af (uv (T.done #[2] rfl rfl rfl hcalmB i _ s3 _ H3 (fun _ _=>False) I3p (hfpB fr3) nL stop) (fun r s4 kt4 hr=>?_))
   obtain⟨hr,I4'⟩:=hr
   subst hr
   refine ay ?_
   obtain⟨m4,hn4,_⟩:=id I4'.loc
   have pa:=I4'.pin (s2.heap.objs.size,{ cls:=.type "list",data:=.seq bN.toArray ka }) #[15]
   have ne:∀b o,s2.heap.get? b=some o->b≠s2.heap.objs.size/\b≠G2.objs.size:=fun b o e=>⟨a9 (aJ e),a9 (by rw[hC];exact cW (aJ e))⟩
   have I5:bH X ak σ (fU H3 s2.heap.objs.size (.lst ys)) s4:=by
    refine I2.call' (ch:=fp) I4'.os ⟨fun b o e n hb hx=>?_,fun b o e n hb hx=>?_,fun b o e n hx=>?_,fun b o e hx=>?_,fun b xs e=>?_,fun b o u e=>?_,fun b ps e=>?_⟩ ?_ I4'.bare (fun b hb=>?_) I4'.tk
    ·exact I4'.base.keep b o e n hb hx
    ·exact I4'.base.slot b o e n hb hx
    ·rw[cX (ne b o e).1];exact I4'.base.free b o e n hx
    ·exact I4'.base.there b o e hx
    ·have q:=I4'.base.tups b xs e
     rw[cX (fI q na3)];exact q
    ·have q:=I4'.base.frzs b o u e
     rw[cX (fI q na3)];exact q
    ·obtain⟨mr,q⟩:=I4'.base.tbls b ps e
     exact⟨mr,by rw[cX (fI q na3)];exact q⟩
    ·intro b o e
     by_cases hb:b=s2.heap.objs.size
     ·subst hb
      rw[ia]at e;cases e
      exact⟨hz,bN,ka,rv.up kt4,pa.1⟩
     ·rw[cX hb]at e
      exact(I4'.hok b o e).stay (fun c u hc q=>q) (fun c q=>by rw[cX (fI q na3)];exact q) fun c xs q=>by rw[cX (fI q na3)];exact q
    ·obtain⟨_,g1,_,g3,g4,g5⟩:=f2 b hb
     exact⟨g3,g1,g4,g5⟩
   have lC:s2.heap.objs.size<=G2.objs.size:=by rw[hC];exact bn _
   exact kQ s4 G2.objs.size _ m4 _ I5 ⟨hn4,by rw[cX (Ne.symm hDC)];exact I4'.free,et (aL I2.lt lC),I2.nofs lC,aN I2.sz lC,fun x c hx z=>(by
    obtain⟨v,o,ho,_⟩:=I2.cell x c hx
    exact absurd (aJ ho) (by rw[z];exact jI.mpr lC)),fun p hp z=>(by
    have:=(I2.pin p hp).1
    exact absurd (aJ this) (by rw[z];exact jI.mpr lC))⟩ (qn _ na3)
  ·refine af (uv (T.item #[2] rfl rfl rfl hcalmB i _ s3 _ H3 (fun _ _=>False) I3p (hfpB fr3) nL go) (fun r s4 kt4 hr=>?_))
   obtain⟨u,hr,h4⟩:=hr
   subst hr
   dsimp only
   refine af (uv h4 (fun _ s5 kt5 h5=>?_))
   obtain⟨x,H5,I5,r5,y5,st5,fr5⟩:=h5
   have I5':=I5.pinned (hfpB fr5) (T.obj _ _ st5)
   refine af (uv (hg _ _ _ _ _ _ s5 _ H5 x u _ I5' r5 (step x H5 y5)) (fun _ s6 kt6 h6=>?_))
   obtain⟨σ6,H6,I6,q6⟩:=h6
   refine af (uv (ht _ _ _ _ _ _ s6 σ6 H6 _ I6 q6) (fun ok s7 kt7 h7=>?_))
   obtain⟨H7,I7,q7⟩:=h7
   have back:∀{H8:Hp} {s8:Shared} {Q9:List V} {its':List Value} {k':Nat},bH #[2] [] σ6 H8 s8->(∀b∈fp,∀o,s5.heap.get? b=some o->s8.heap.get? b=some o)->(∀b∈fp,H8 b=none)->H8 s2.heap.objs.size=none ->
     cK s8.toks Q9 its'->s8.heap.get? s2.heap.objs.size=some { cls:=.type "list",data:=.seq its'.toArray k' }->(∃m',m'<n/\W (i+1) m' Q9 H8) ->
     ∃m,m<n/\∃i ys H',bH #[2] [] (re cap σ) H' s8/\tn i s8.heap/\(∀b∈fp,H' b=none)/\H' s2.heap.objs.size=none /\
      (∃bN k,cK s8.toks ys bN/\s8.heap.get? s2.heap.objs.size=some { cls:=.type "list",data:=.seq bN.toArray k })/\W i m ys H':=
    fun{H8 s8 Q9 its' k'} I8 kf f8 n8 rv8 e8 ⟨m',hm,w8⟩=>⟨m',hm,i+1,Q9,H8,Hd vO gB I2 hfpc I8,T.keep _ _ _ st5 kf,f8,n8,⟨its',k',rv8,e8⟩,w8⟩
   cases ok with
   |false=>
    refine ay ⟨rfl,?_⟩
    have q7':∃m',m'<n/\W (i+1) m' ys H7:=by simpa using q7
    have pa:=I7.pin (s2.heap.objs.size,{ cls:=.type "list",data:=.seq bN.toArray ka }) #[15]
    refine back (I7.pins_of fun p hp=>absurd hp #[15]) (fun b hb o e=>?_) (fun b hb=>?_) pa.2.1 (rv.up #[0]) pa.1 q7'
    ·exact(I7.pin (b,o) (aP _ (aP _ (kE hb e)))).1
    ·obtain⟨o,e,d⟩:=T.obj _ _ st5 b hb
     exact(I7.pin (b,o) (aP _ (aP _ (kE hb e)))).2.1
   |true=>
    rw[aK rfl]at q7
    refine af (af (uv (he _ _ _ _ _ _ s7 σ6 H7 _ I7 q7) (fun xv s8 kt8 h8=>?_)))
    obtain⟨y,H8,I8,r8,hzy,q8⟩:=h8
    have pa:=I8.pin (s2.heap.objs.size,{ cls:=.type "list",data:=.seq bN.toArray ka }) #[15]
    refine af (up (zD pa.1 (by rw[<- rv.length];exact hzy) fun h' k' tk e9 sb hk=>?_))
    refine ay (ay ⟨rfl,?_⟩)
    have I9:bH #[2] [] σ6 H8 { s8 with heap:=h',toks:=tk }:=
     (bH.pins_of (pins':=[]) I8 fun p hp=>absurd hp #[15]).turned (it:=s2.heap.objs.size) (fun b o hb e=>sb b o hb e) pa.2.1 hDC (.inr (aA _)) (fun x c hx z=>by
      rcases both x c hx with q|q
      ·exact jI.mpr (ownhi x c q).2 (by rw[z];omega)
      ·exact dJ _ (by have:=cllow x c q;rw[z]at this;exact this)) (fun p hp=>absurd hp #[15])
    refine back I9 (fun b hb o e=>?_) (fun b hb=>?_) pa.2.1 ((rv.up #[0]).append (.cons (r8.up hk) .nil)) e9 q8
    ·exact sb b o (a9 (hfpn b hb)) (I8.pin (b,o) (aP _ (aP _ (kE hb e)))).1
    ·obtain⟨o,e,d⟩:=T.obj _ _ st5 b hb
     exact(I8.pin (b,o) (aP _ (aP _ (kE hb e)))).2.1
 exact codeAny_compStart_list (loop _ rfl) (T.self _ _ _ _ _ (T.keep _ _ _ c_ fun b _ o e=>old b o e) (loop _ rfl))
theorem sQ:∀(names:List (Str×NameKind)) (n:Nat),(∀y∈names,y.2≠.cell)->cellsFrom n names []=[]
 |[],_,_=>rfl
 |(x,k)::r,n,h=>by
  show(if k==.cell then cellsFrom (n+1) r [(x,n)]else cellsFrom n r [])=[]
  rw[aU (by have:=h (x,k) #[15];simpa using this)]
  exact sQ r n fun y hy=>h y (by simp[hy])
theorem yH{Qk:VK}(kB:X.calm=true)(xP:closureFor scope X.env=pure cl)(CP:∀x c,cl.lookup x=some c->X.env.cells.lookup x=some c)
  (kA:scope.kind=.function) (sJ:∀x∈scope.names,x.2=.local->scope.names.lookup x.1=some .local) (iE:∀y∈scope.names,y.2≠.cell)
  (EB:∀x,#[13]->∃c,cl.lookup x=some c)
  (vO:∀(i j:Nat),cap[i]?=some (some j)->∃x,nm[i]?=some x/\X.N[j]?=some x/\wg X scope cl x) (gB:cap.length=nm.length)
  (hi:PI X tg ec wi) (hg:∀C s0 H0 fp,PG #[10] tg g) (ht:∀C s0 H0 fp,Hc #[10] oo tc)
  (he:∀C s0 H0 fp,PE #[10] sI te) (hs:∀x,foldedSetIterable ec X.env x=pure x)
  (I:bH X ak σ H s) (h:wf cap wi g tc te σ H Qk) (kQ:∀(s4:Shared) (C D:Addr) (m4:Str->Option Value) (Hn:Hp),bH X ak σ Hn s4->A' X ak Hn s4 C m4->Qk (.ref D) Hn->compPost #[4] X.A X.xe use Qv (.ref D) C (.ok .next) s4) :
  wpAny #[4] X.A (comprehension #[11] scope X.env (firstIterPos [⟨tg,ec,oo,0⟩] pos) (newList []) (firstAsync [⟨tg,ec,oo,0⟩]) (firstIter [⟨tg,ec,oo,0⟩] X.env) use) Qv X.xe s:=by
 have nc:∀k,cellsFrom k scope.names []++cl=cl:=fun k=>by rw[sQ _ _ iE];rfl
 have nx:∀C s0 H0 fp,fz X nm scope cl C s0 H0 fp=dZ X nm scope cl C s0 H0 fp:=fun C s0 H0 fp=>by
  have:(fun y=>scope.names.lookup y==some .cell)=fun _=>false:=funext fun y=>by
   rw[bp]
   exact fun e=>iE _ (jJ e) rfl
  unfold fz dZ
  rw[this]
 exact Dm kB xP CP kA sJ (fun y hy h=>absurd h (iE y hy)) (fun x _ h=>EB x h) (fun i j h=>let ⟨x,a,b,d⟩:=vO i j h;⟨x,a,b,d,fun z=>iE _ z rfl⟩) gB hi
  (fun k C s0 H0 fp=>by rw[nc,nx];exact hg C s0 H0 fp) (fun k C s0 H0 fp=>by rw[nc,nx];exact ht C s0 H0 fp) (fun k C s0 H0 fp=>by rw[nc,nx];exact he C s0 H0 fp) hs I h kQ
theorem Le(kB:X.calm=true)(xP:closureFor scope X.env=pure cl)(CP:∀x c,cl.lookup x=some c->X.env.cells.lookup x=some c)
  (kA:scope.kind=.function) (sJ:∀x∈scope.names,x.2=.local->scope.names.lookup x.1=some .local) (iE:∀y∈scope.names,y.2≠.cell)
  (EB:∀x,#[13]->∃c,cl.lookup x=some c)
  (vO:∀(i j:Nat),cap[i]?=some (some j)->∃x,nm[i]?=some x/\X.N[j]?=some x/\wg X scope cl x) (gB:cap.length=nm.length)
  (hi:PI X tg ec wi) (hg:∀C s0 H0 fp,PG #[10] tg g) (ht:∀C s0 H0 fp,Hc #[10] oo tc)
  (he:∀C s0 H0 fp,PE #[10] sI te) (hs:∀x,foldedSetIterable ec X.env x=pure x:=by intro _;rfl) :
  PE X #[11] (wf cap wi g tc te):=by
 intro ak s σ H Q I h
 rw[eval_ListComp]
 exact yH kB xP CP kA sJ iE EB vO gB hi hg ht he hs I h fun s4 C D m4 Hn I4 B q=>⟨m4,B.ns,fun h' hs'=>⟨.ref D,Hn,B.off I4 hs',rfl,q⟩⟩
end
end L2
namespace L2
open PySem PySem.Spec PyProof.Rows
def tx(l:List Nat):Str:=⟨l.toArray⟩
theorem OB(l:List Nat):(tx l).cps.toList=l:=rfl
theorem RM(z:Str):tx z.cps.toList=z:=by cases z;rfl
theorem jB(l:List Nat):(tx l).length=l.length:=by show l.toArray.size=_;simp
theorem Dn(a b:List Nat):tx a++tx b=tx (a++b):=by
 show(⟨a.toArray++b.toArray⟩:Str)=⟨(a++b).toArray⟩
 simp
theorem Do{a b:List Nat}:tx a=tx b↔a=b:=⟨fun h=>by have:=ik (fun z:Str=>z.cps.toList) h;exact this,fun h=>by rw[h]⟩
def U_(vM:List V):It:=⟨fun i _=>i<vM.length,fun i H x H'=>H'=H/\vM[i]?=some x,fun i _=>vM.length<=i⟩
section
def jX(l:List Nat):List V:=l.map fun c=>.str (tx [c])
def U'(tl:TE):TI:=fun σ H R=>tl σ H fun x H1=>∃l,x=.str (tx l)/\R (U_ (jX l)) H1
theorem wj{w:World}{K:Frag}{tg:Expr}{l:List Nat}{t:Tok}{ty:String}(ED:["enumerate","zip","dict_itemiterator","dict_reverseitemiterator","odict_iterator","itertools.zip_longest","itertools.pairwise"].contains ty=false)
  (next:∀{A:Around} {s:Shared} {i c:Nat} {Q:Option Value->Shared->Prop} {E:Value->Shared->Prop},s.heap.IsStrIter it ty (tx l) t i->(tx l).cps[i]?=some c ->
   (∀h',h'.IsStrIter it ty (tx l) t (i+1)->Heap.SameBut it s.heap h'->Q (some (.str ⟨#[c]⟩ s.toks)) { s with heap:=h',toks:=s.toks+1 })->wpAny (model P w) A (pyNext (.ref it)) Q E s)
  (stop:∀{A:Around} {s:Shared} {i:Nat} {Q:Option Value->Shared->Prop} {E:Value->Shared->Prop},A.handled=none->s.heap.IsStrIter it ty (tx l) t i->(tx l).cps[i]?=none ->
   (∀h',Heap.ExtBut it s.heap h'->Q none { s with heap:=h' })->wpAny (model P w) A (pyNext (.ref it)) Q E s)
  (Ui:∀(A:Around) (i:Nat) (s:Shared) (Q:Value->Shared->Prop) (E:Value->Shared->Prop),s.heap.IsStrIter it ty (tx l) t i->Q (.ref it) s->wpAny (model P w) A (pyIter (.ref it)) Q E s) :
  C4 P w K tg (U_ (jX l)) [it] it (fun i h=>h.IsStrIter it ty (tx l) t i) where
 mem:=by simp
 obj:=fun i h st b hb=>by
  have e:b=it:=by simpa using hb
  subst e
  obtain⟨o,e,_,d⟩:=st
  exact⟨o,e,fun v z=>by rw[d]at z;cases z⟩
 keep:=fun i h h' st k=>by
  obtain⟨o,e,r⟩:=st
  exact⟨o,k it #[15] o e,r⟩
 item:=by
  intro X hP hw hK hc i ak s σ H E I hf st hg
  subst hP hw hK
  obtain⟨f0,f1,f2,f3,f4,f5⟩:=hf it #[15]
  have hg:i<l.length:=by have hg:i<(jX l).length:=hg;simpa[jX]using hg
  obtain⟨c,hx⟩:∃c,l[i]?=some c:=⟨_,aj hg⟩
  refine next st (c:=c) (by simpa[tx]using hx) fun h' bg hs=>?_
  have I1:bH X ak σ H { s with heap:=h',toks:=s.toks+1 }:=I.turned (fun b o hb e=>hs.extBut b o hb e) f0 f1 f3 f4 f5
  obtain⟨o,e,cl,d⟩:=id bg
  exact⟨_,rfl,EG (s:={ s with heap:=h',toks:=s.toks+1 }) e cl d ED ⟨.str (tx [c]),H,I1,I.tkS,⟨rfl,by unfold jX;rw[aG,hx];rfl⟩,bg,fun b hb=>(hf b hb).1⟩⟩
 done:=by
  intro X hP hw hK hc i ak s σ H E I hf st hg
  subst hP hw hK
  obtain⟨f0,f1,f2,f3,f4,f5⟩:=hf it #[15]
  have hg:l.length<=i:=by have hg:(jX l).length<=i:=hg;simpa[jX]using hg
  exact stop (I.ok.hd hc) st (by simpa[tx]using hg) fun h' hs=>⟨rfl,I.turned (t':=s.toks) (fun b o hb e=>hs b o hb e) f0 f1 f3 f4 f5⟩
 self:=fun A i s Q E st h=>Ui A i s Q E st h
theorem OC{l:Expr}{tl:TE}(hl:PE X l tl):PI X tg l (U' tl):=by
 intro ak s σ H R I h
 refine kr (hl ak s σ H _ I h) fun v s1 kt1 zq=>?_
 obtain⟨x,H1,I1,r1,q1⟩:=zq
 obtain⟨l,e,q⟩:=q1
 subst e
 obtain⟨t,rfl⟩:=r1
 have fp:∀b∈[s1.heap.objs.size],uo X ak H1 b:=fun b hb=>by
  have e:b=s1.heap.objs.size:=by simpa using hb
  subst e
  exact I1.fpOk (aA _) (I1.hok.fresh (aA _))
 cases ha:(tx l).cps.all (· < 128)
 ·exact m_ ha ⟨s1.heap.objs.size,[s1.heap.objs.size],_,_,H1,rfl,I1.kept (t':=s1.toks) fun b o e=>aw _ e,wj (l:=l) (t:=t.1) (ty:="str_iterator") #[3] (fun a b c=>kh a b c) (fun hh a b c=>wpAny_pyNext_wide_end hh a b c) (fun A i s Q E st h=>wpAny_pyIter_striter_wide st h),⟨_,aC _ rfl,rfl,rfl⟩,fp,q⟩
 ·exact mI ha ⟨s1.heap.objs.size,[s1.heap.objs.size],_,_,H1,rfl,I1.kept (t':=s1.toks) fun b o e=>aw _ e,wj (l:=l) (t:=t.1) (ty:="str_ascii_iterator") #[3] (fun a b c=>jS a b c) (fun hh a b c=>wpAny_pyNext_ascii_end hh a b c) (fun A i s Q E st h=>wpAny_pyIter_striter_ascii st h),⟨_,aC _ rfl,rfl,rfl⟩,fp,q⟩
def Dp(l:List Nat)(lo hi:Option Int):List Nat:=(l.drop (HT.sIx l.length 0 lo)).take (HT.sIx l.length l.length hi-HT.sIx l.length 0 lo)
theorem Ba(l:List Nat)(lo hi:Option Int):(Dp l lo hi).length<=l.length:=by unfold Dp;rw[aF,cf];omega
theorem Dq(l:List Nat)(i k:Nat):((List.range k).map fun(m:Nat)=>i+m).filterMap (fun j=>l[j]?)=(l.drop i).take k:=by
 induction k generalizing i with
 |zero=>simp
 |succ k ih=>
  rw[pc,bq,cn]
  have e:((fun m=>i+m)∘Nat.succ)=fun m=>(i+1)+m:=by funext m;simp[Function.comp];omega
  rw[e]
  by_cases h:i<l.length
  ·rw[gD]
   simp only[ud,aj h]
   rw[ih (i+1),dD h,List.take_succ_cons]
  ·rw[gD]
   have h':l.length<=i:=by omega
   simp only[ud,bD h']
   rw[ih (i+1),pd h',pd #[0]]
   simp
theorem Ms(v:Int)(n d:Nat):(if (1:Int)>0 then max 0 (min (if v<0 then v+(n:Int)else v) (n:Int))else max (-1) (min (if v<0 then v+(n:Int)else v) ((n:Int)-1)))=((HT.sIx n d (some v):Nat):Int):=by
 rw[aK #[0]]
 show _=(((if v<0 then(v+(n:Int)).toNat else min v.toNat n):Nat):Int)
 by_cases hv:v<0
 ·simp only[aK hv];omega
 ·simp only[aU hv];omega
theorem OD(lo hi:Option Int)(n:Nat):Builtin.Str.strSliceIndices lo hi 1 n=(List.range (HT.sIx n n hi-HT.sIx n 0 lo)).map fun(m:Nat)=>HT.sIx n 0 lo+m:=by
 have key:∀a b:Nat,sliceRange (a:Int) (b:Int) 1=(List.range (b-a)).map fun(m:Nat)=>a+m:=fun a b=>by
  unfold sliceRange
  have e:(if (1:Int)>0 then(if (a:Int)<(b:Int)then((b:Int)-a+1-1)/1 else 0)else(if (a:Int)>b then((a:Int)-b-1-1)/(-1)else 0)).toNat=b-a:=by
   rw[aK #[0]]
   by_cases h:(a:Int)<b
   ·rw[aK h];omega
   ·rw[aU h];omega
  dsimp only
  rw[e]
  refine fx fun k _=>?_
  omega
 unfold Builtin.Str.strSliceIndices
 rw[<- key]
 dsimp only
 congr 1
 ·cases lo with
  |none=>rfl
  |some v=>exact Ms v n 0
 ·cases hi with
  |none=>rfl
  |some v=>exact Ms v n n
theorem He(l:List Nat)(lo hi:Option Int):Txt.slice (tx l) lo hi=tx (Dp l lo hi):=by
 unfold Txt.slice
 rw[OD,jB]
 split
 ·rename_i h
  simp only[beq_self_eq_true,Bool.true_and,du,aE,ng]at h
  unfold Dp
  have h1:=HT.sIx_le l.length l.length (aA _) hi
  have h2:=HT.sIx_le l.length 0 (bY _) lo
  by_cases hz:l.length=0
  ·have:l=[]:=hG hz
   subst this;simp
  ·have e0:HT.sIx l.length 0 lo=0:=by omega
   rw[e0,List.drop_zero,bj #[0]]
 ·unfold Dp tx
  have:∀j:Nat,(l.toArray)[j]?=l[j]?:=fun j=>by simp
  simp only[this]
  rw[Dq]
def Va:V->Option Int->Option Int->Hp->VK->Prop:=fun x lo hi H Q=>∃l,x=.str (tx l)/\l.length<=sizeLine/\Q (.str (tx (Dp l lo hi))) H
theorem EM{o:Option Int}(p:IsPart v o):∃q:Option (Int×Tok),v=partValue q/\q.map (·.1)=o:=by
 cases p with
 |none=>exact⟨none,rfl,rfl⟩
 |int i t=>exact⟨some (i,t),rfl,rfl⟩
theorem OE:RD X Va:=by
 intro ak s σ H x v vl vu lo hi sl Q I rx hs pl pu h
 obtain⟨l,e,hz,q⟩:=h
 subst e
 obtain⟨t,rfl⟩:=rx
 obtain⟨pl',rfl,rfl⟩:=EM pl
 obtain⟨pu',rfl,rfl⟩:=EM pu
 refine⟨"str",_,F.slot_str_getitem.lookup,mH _ _ _,?_⟩
 refine wpAny_getItem_str_slice (l:=pl') (u:=pu') (st:=none) hs rfl ?_
 have e:=He l (pl'.map (·.1)) (pu'.map (·.1))
 unfold Txt.slice at e
 have hl:(tx (Dp l (pl'.map (·.1)) (pu'.map (·.1)))).length<=sizeLine:=by rw[jB];exact aN (Ba l _ _) hz
 show(if ((1:Int)==1&&(Builtin.Str.strSliceIndices (pl'.map (·.1)) (pu'.map (·.1)) 1 (tx l).length).length==(tx l).length)=true then Made.val (.str (tx l) t.1)else Made.str ⟨((Builtin.Str.strSliceIndices (pl'.map (·.1)) (pu'.map (·.1)) 1 (tx l).length).filterMap ((tx l).cps[·]?)).toArray⟩).post (EP X ak σ Q) s
 split
 ·rename_i hc
  rw[aK hc]at e
  rw[<- e]at q
  exact⟨.str (tx l),H,I,⟨t,rfl⟩,q⟩
 ·rename_i hc
  rw[aU hc]at e
  rw[e]
  exact⟨hl,⟨.str _,H,I.tok _,I.tkS,q⟩⟩
theorem OF(c:Nat)(l:List Nat):(!(Builtin.Str.occurrences (tx l) (tx [c]) 0 (tx l).length 1).isEmpty)=decide (c∈l):=StrLaws.found_one (tx l) c
def Vb(Ub:Bool):R2:=fun x y H Q=>∃c l,x=.str (tx [c])/\y=.str (tx l)/\Q (.bl (if Ub then !decide (c∈l)else decide (c∈l))) H
theorem FW:pR X (compareOp .In) (Vb false):=by
 intro ak s σ H x y v u Q I rx ry h
 obtain⟨c,l,rfl,rfl,q⟩:=h
 exact FF ak s σ H _ _ v u Q I rx ry ⟨_,_,rfl,rfl,by rw[OF];exact q⟩
theorem FX:pR X (compareOp .LtE) (fun x y H Q=>∃c d,x=.str (tx [c])/\y=.str (tx [d])/\Q (.bl (decide (c<=d))) H):=by
 intro ak s σ H x y v u Q I rx ry h
 obtain⟨c,d,rfl,rfl,q⟩:=h
 obtain⟨t,rfl⟩:=rx
 obtain⟨t',rfl⟩:=ry
 refine PySem.P.le_str ⟨.bl _,H,I,?_,q⟩
 show Value.bool _=Value.bool _
 congr 1
 show(!decide ([d]<[c]))=decide (c<=d)
 by_cases C2:c<=d
 ·rw[bF C2,a7];rfl
  intro z
  cases z with
  |rel z=>omega
  |cons z=>cases z
 ·rw[a7 C2,bF];rfl
  exact .rel #[0]
theorem wl:∀{ys:List (List Nat)} {bN:List Value},cK nk (ys.map fun l=>V.str (tx l)) bN->StrsAre bN (ys.map tx)
 |[],_,r=>by cases r;exact .nil
 |y::ys,_,r=>by
  cases r with
  |cons r rr=>
   obtain⟨t,rfl⟩:=r
   exact .cons _ _ (wl rr)
def jl(n:Nat)(bN:List Value):Prop:=∀(x:Str) (t:Tok),Value.str x t∈bN->x.length=1->0<t/\t<n
theorem oq:∀{bN:List Value} {ss:List Str},StrsAre bN ss->jl nk bN->cK nk (ss.map fun z=>V.str z) bN
 |_,_,.nil,_=>.nil
 |_,_,.cons y t r,h=>.cons ⟨⟨t,h y t cr⟩,rfl⟩ (oq r fun x u hx=>h x u (aW _ hx))
theorem sR:∀{vs:List V} {bN:List Value},cK nk vs bN->jl nk bN
 |_,_,.nil=>fun _ _ h=>nomatch h
 |v::_,_,.cons r t=>fun x u hx=>by
  rcases aX.mp hx with e|hx
  ·subst e
   cases v with
   |str y=>obtain⟨tk,e⟩:=r;cases e;exact tk.2
   |non=>cases r
   |bl b=>cases r
   |int i=>obtain⟨_,e⟩:=r;cases e
   |byt b=>obtain⟨_,e⟩:=r;cases e
   |flt b=>obtain⟨_,e⟩:=r;cases e
   |ref a=>cases r
   |ty n=>cases r
  ·exact sR t x u hx
theorem EN:∀{ys:List (List Nat)} {bN:List Value},cK nk (ys.map fun l=>V.str (tx l)) bN->∃zs:List (Str×Tok),bN=strValues zs/\zs.map (·.1)=ys.map tx
 |[],_,r=>by cases r;exact⟨[],rfl,rfl⟩
 |y::ys,_,r=>by
  cases r with
  |cons r rr=>
   obtain⟨t,rfl⟩:=r
   obtain⟨zs,rfl,e⟩:=EN rr
   exact⟨(tx y,t.1)::zs,rfl,by rw[bq,bq,e]⟩
def mq(sep:List Nat):List (List Nat)->List Nat
 |[]=>[]
 |[x]=>x
 |x::y::r=>x++sep++mq sep (y::r)
theorem nN:∀ys:List (List Nat),mq [] ys=ys.flatten
 |[]=>rfl
 |[x]=>by simp[mq]
 |x::y::r=>by rw[mq,nN (y::r)];simp
theorem EO(sep:List Nat):∀ys:List (List Nat),Txt.join (tx sep) (ys.map tx)=tx (mq sep ys):=fun ys=>by
 show Builtin.Str.glued (tx sep) (ys.map tx)=_
 rw[iA]
 induction ys with
 |nil=>rfl
 |cons x r ih=>
  cases r with
  |nil=>rfl
  |cons y r=>
   show tx x++tx sep++Str.join (tx sep) ((y::r).map tx)=tx (x++sep++mq sep (y::r))
   rw[ih,Dn,Dn]
def RN(K:Frag):V->List V->Hp->VK->Prop:=fun x vs H Q=>∃(sep:List Nat) (a:Addr) (ys:List (List Nat)),x=.str (tx sep)/\vs=[.ref a]/\um K H a (ys.map fun l=>V.str (tx l))/\(ys.map List.length).sum+ys.length*sep.length<=16777216/\Q (.str (tx (mq sep ys))) H
theorem bH.joinS{Q:VK}{sep:Str}{zs:List (Str×Tok)}(I:bH X ak σ H s)(hl:(Builtin.Str.glued sep (zs.map (·.1))).length<=sizeLine)(hk:jl s.toks (strValues zs))(q:Q (.str (Txt.join sep (zs.map (·.1)))) H):(joinMade sep zs).post (EP X ak σ Q) s:=by
 have kQ:(Made.str (Builtin.Str.glued sep (zs.map (·.1)))).post (EP X ak σ Q) s:=⟨hl,⟨.str _,H,I.tok _,I.tkS,q⟩⟩
 cases zs with
 |nil=>exact kQ
 |cons p r=>
  cases r with
  |nil=>
   have e:Txt.join sep [p.1]=p.1:=by
    show Builtin.Str.glued sep [p.1]=_
    rw[iA];rfl
   rw[show([p]:List (Str×Tok)).map (·.1)=[p.1]from rfl,e]at q
   exact⟨.str p.1,H,I,⟨⟨p.2,hk p.1 p.2 (by simp[strValues])⟩,rfl⟩,q⟩
  |cons _ _=>exact kQ
theorem Lf:FQ X "str.join" (RN X.K):=by
 intro ak s σ H x vs v us Q I rx rv h
 obtain⟨sep,a,ys,rfl,rfl,hS,hz,q⟩:=h
 obtain⟨t,rfl⟩:=rx
 obtain⟨u,rfl,ru⟩:=rv.one
 cases ru
 obtain⟨bN,r,p,_⟩:=I.list hS
 have hk:jl s.toks bN:=sR r
 obtain⟨zs,rfl,ez⟩:=EN (by simpa using r)
 have hok:JoinOk (tx sep) (zs.map (·.1))=true:=joinOk_of (by
  rw[ez,cn,jB,aE]
  have e:((fun z:Str=>z.length)∘tx)=List.length:=by funext l;exact jB l
  rw[e];exact hz)
 have hj:=hok
 unfold JoinOk at hj
 rw[fj]at hj
 exact sM F.slot_str_join (mH _ _ _) F.entry_str_join (F.args_str_join_2 _ _) (meets_str_join_list (tx sep) t.1 a zs hj) ⟨p.isList,I.joinS (joinFit_length hj) hk (by rw[ez,EO];exact q)⟩
end
end L2
namespace L2
open PySem PySem.Spec PyProof.Rows
inductive D where
 |non|bl (b:Bool)|int (i:Int)|str (l:List Nat)|tnil|tcons (d r:D)
 deriving DecidableEq
structure fE(K:Frag)(H H':Hp):Prop where
 t:∀p xs,gy K H p xs->gy K H' p xs
 z:∀b o u,H b=some (.frz o u)->H' b=some (.frz o u)
instance {K:Frag} {H H':Hp}:CoeFun (fE K H H') (fun _=>∀p xs,gy K H p xs->gy K H' p xs):=⟨fE.t⟩
theorem gy.same{K:Frag}(e:vA H H'):fE K H H':=⟨fun p xs h=>by
 rcases h with(h|⟨o,h⟩)|h
 ·exact .inl (.inl (e _ _ h))
 ·exact .inl (.inr ⟨o,e _ _ h⟩)
 ·exact .inr h,fun b o u h=>e _ _ h⟩
theorem cS{p:Addr}(h:H p=none)(o:HO):vA H (fU H p o):=fun b u q=>by rw[cX (fI q h)];exact q
def Vc(l:Addr)(H H':Hp):Prop:=∀b o,b≠l->H b=some o->H' b=some o
theorem mU{l:Addr}{o:HO}:Vc l H (fU H l o):=fun b u h q=>by rw[cX h];exact q
theorem gy.but{l:Addr}(e:Vc l H H')(hl:H l=some (.lst xs)):fE K H H':=by
 have Fw:∀{p:Addr} {o:HO},H p=some o->(∀zs,o≠.lst zs)->p≠l:=fun{p o} q hn z=>by subst z;rw[hl]at q;cases q;exact hn _ rfl
 refine⟨fun p ys h=>?_,fun b o u h=>e _ _ (Fw h (fun _ z=>by cases z)) h⟩
 rcases h with(h|⟨o,h⟩)|h
 ·exact .inl (.inl (e _ _ (Fw h (fun _ z=>by cases z)) h))
 ·exact .inl (.inr ⟨o,e _ _ (Fw h (fun _ z=>by cases z)) h⟩)
 ·exact .inr h
theorem fE.refl:fE K H H:=⟨fun _ _ h=>h,fun _ _ _ h=>h⟩
theorem fE.trans{H1 H2:Hp}(a:fE K H H1)(b:fE K H1 H2):fE K H H2:=⟨fun p xs h=>b p xs (a p xs h),fun c o u h=>b.z c o u (a.z c o u h)⟩
theorem gy.new{p:Addr}:gy K (fU H p (.tup xs)) p xs:=gy.of ia
end L2
namespace L2
open PySem PySem.Spec PyProof.Rows
theorem RO{v:V}{pos:Pos}(h:∃u,X.mg x=some u/\dz 0 v u)(hg:Gl X x:=by rfl)(hd:(x==("__debug__":Str))=false:=by decide):PE X (.Name x pos) (tC v):=by
 obtain⟨u,a,b⟩:=h
 exact zw hg a b hd
end L2
namespace L2
open PySem PySem.Spec PyProof.Rows
section
variable{to:TE}{t:TA}{id:String}
def Wm(r:V->List V->Hp->VK->Prop)(to:TE)(t:TA):TE:=fun σ H Q=>to σ H fun x H1=>(∃l ys,x=.ref l/\H1 l=some (.lst ys))/\t σ H1 fun xs H2=>r x xs H2 Q
def Wn(r:V->List V->Hp->VK->Prop)(to:TE)(t:TA):TE:=fun σ H Q=>to σ H fun x H1=>(∃l,x=.str (tx l))/\t σ H1 fun xs H2=>r x xs H2 Q
def Vd(r:V->List V->Hp->VK->Prop)(to:TE):TE:=fun σ H Q=>to σ H fun x H1=>(∃l ys,x=.ref l/\H1 l=some (.lst ys))/\r x [] H1 Q
theorem Bb{x:V}(h:∃l ys,x=.ref l/\H l=some (.lst ys)):Uo K "list" x H:=by
 obtain⟨l,ys,rfl,h⟩:=h
 exact .inl ⟨rfl,_,.of h⟩
theorem EQ{x:V}(h:∃l,x=.str (tx l)):Uo K "str" x H:=by
 obtain⟨l,rfl⟩:=h
 exact rfl
theorem Hf{ty:V->Hp->Prop}(VO:∀x H,ty x H->Uo X.K T x H)(pa:PlainAttrs T)(slot:Slot T name id)(ED:typeOf (.builtin id)=pure (.type "method_descriptor"))(hm:FQ X id r)(ho:PE X o to)(ha:PA X (e::es) t)
  (kg:attributeBase o name X.env (eval o X.env)=eval o X.env)
  (sD:((backTo eM (starEach (e::es) X.env)).all (fun x=>!x.1)&&(backToKw eM (keywordEach [] X.env)).all (fun x=>x.1.isSome)
   && decide #[18])=true)
  (lh:(gR.endLine==eM.line)=true) (hs:starEach (e::es) X.env=(false,eval e X.env)::starEach es X.env) (oX:(backTo eM (starEach es X.env)).any (·.1)=false) :
  PE X (.Call (.Attribute o name gR) (e::es) [] eM) (fun σ H Q=>to σ H fun x H1=>ty x H1/\t σ H1 fun xs H2=>r x xs H2 Q):=by
 intro ak s σ H Q I h
 refine ph kg sD lh rfl (kr (ho ak s σ H _ I h) fun v s1 kt1 zq=>?_)
 obtain⟨x,H1,I1,r1,ty,q1⟩:=zq
 obtain⟨h1,h2⟩:=Dk I1 r1 (VO _ _ ty)
 refine⟨T,id,pa,slot,ED,h1,h2,?_⟩
 have hA:=ha eM ak s1 σ H1 _ I1 q1
 rw[hs]at hA ⊢
 refine ki (by show(false||(backTo eM (starEach es X.env)).any (·.1))=false;rw[oX]<;>rfl) (lr ?_)
 exact kr hA fun us s2 kt2 ⟨vs,H2,I2,r2,q2⟩=>hm ak s2 σ H2 x vs v us Q I2 (r1.up kt2) r2 q2
theorem RP(slot:Slot "list" name id)(ED:typeOf (.builtin id)=pure (.type "method_descriptor"))(hm:FQ X id r)(ho:PE X o to)(ha:PA X (e::es) t)
  (kg:attributeBase o name X.env (eval o X.env)=eval o X.env:=by rfl)
  (sD:((backTo eM (starEach (e::es) X.env)).all (fun x=>!x.1)&&(backToKw eM (keywordEach [] X.env)).all (fun x=>x.1.isSome)
   && decide #[18])=true:=by rfl)
  (lh:(gR.endLine==eM.line)=true:=by rfl) (hs:starEach (e::es) X.env=(false,eval e X.env)::starEach es X.env:=by rfl) (oX:(backTo eM (starEach es X.env)).any (·.1)=false:=by rfl) :
  PE X (.Call (.Attribute o name gR) (e::es) [] eM) (Wm r to t):=Hf (ty:=fun x H1=>∃l ys,x=.ref l/\H1 l=some (.lst ys)) (fun _ _ h=>Bb h) F.plainAttrs_list slot ED hm ho ha kg sD lh hs oX
theorem RQ(slot:Slot "str" name id)(ED:typeOf (.builtin id)=pure (.type "method_descriptor"))(hm:FQ X id r)(ho:PE X o to)(ha:PA X (e::es) t)
  (kg:attributeBase o name X.env (eval o X.env)=eval o X.env:=by rfl)
  (sD:((backTo eM (starEach (e::es) X.env)).all (fun x=>!x.1)&&(backToKw eM (keywordEach [] X.env)).all (fun x=>x.1.isSome)
   && decide #[18])=true:=by rfl)
  (lh:(gR.endLine==eM.line)=true:=by rfl) (hs:starEach (e::es) X.env=(false,eval e X.env)::starEach es X.env:=by rfl) (oX:(backTo eM (starEach es X.env)).any (·.1)=false:=by rfl) :
  PE X (.Call (.Attribute o name gR) (e::es) [] eM) (Wn r to t):=Hf (ty:=fun x H1=>∃l,x=.str (tx l)) (fun _ _ h=>EQ h) F.plainAttrs_str slot ED hm ho ha kg sD lh hs oX
theorem OG(slot:Slot "list" name id)(ED:typeOf (.builtin id)=pure (.type "method_descriptor"))(hm:FQ X id r)(ho:PE X o to)
  (kg:attributeBase o name X.env (eval o X.env)=eval o X.env:=by rfl) (lh:(gR.endLine==eM.line)=true:=by rfl):PE X (.Call (.Attribute o name gR) [] [] eM) (Vd r to):=by
 intro ak s σ H Q I h
 refine wpAny_Call_method0_late kg lh (kr (ho ak s σ H _ I h) fun v s1 kt1 zq=>?_)
 obtain⟨x,H1,I1,r1,ty,q1⟩:=zq
 obtain⟨h1,h2⟩:=Dk I1 r1 (Bb ty)
 exact⟨"list",id,F.plainAttrs_list,slot,ED,h1,h2,ki rfl (PySem.evalArgs_none (hm ak s1 σ H1 x [] v [] Q I1 r1 .nil q1))⟩
end
end L2
namespace L2
open PySem PySem.Spec PyProof.Rows
end L2
namespace L2
open PySem PySem.Spec PyProof.Rows
section
variable{t:TA}
def RR(t:TA):TE:=fun σ H Q=>t σ H fun xs H1=>xs.length<=sizeLine/\∀p H2,H1 p=none->H2=fU H1 p (.tup xs)->Q (.ref p) H2
def RT(t:TA):TE:=fun σ H Q=>t σ H fun xs H1=>xs.length<=sizeLine/\∀p H2,H1 p=none->H2=fU H1 p (.lst xs)->Q (.ref p) H2
theorem ER{x1}(h:PA X es t):PE X (.Tuple es x1 pos) (RR t):=by
 intro ak s σ H Q I hq
 refine wpAny_Tuple_spliced (kr (h pos ak s σ H _ I hq) fun us s1 kt1 ⟨xs,H1,I1,r,z,q⟩=>⟨by rw[<- r.length];exact z,?_⟩)
 have hf:H1 s1.heap.objs.size=none:=I1.hok.fresh (aA _)
 refine⟨.ref s1.heap.objs.size,fU H1 s1.heap.objs.size (.tup xs),I1.laid (t':=s1.toks) (fun b u e=>aw _ e) (aA _) ?_,rfl,q _ _ hf rfl⟩
 exact⟨z,us,r,⟨_,aC _ rfl,rfl,_,rfl⟩⟩
theorem Lg(h:PA X es t):PE X (.List es pos) (RT t):=by
 intro ak s σ H Q I hq
 refine wpAny_List_spliced (kr (h pos ak s σ H _ I hq) fun us s1 kt1 ⟨xs,H1,I1,r,z,q⟩=>⟨by rw[<- r.length];exact z,?_⟩)
 have hf:H1 s1.heap.objs.size=none:=I1.hok.fresh (aA _)
 refine⟨.ref s1.heap.objs.size,fU H1 s1.heap.objs.size (.lst xs),I1.laid (t':=s1.toks) (fun b u e=>aw _ e) (aA _) ?_,rfl,q _ _ hf rfl⟩
 exact⟨z,us,0,r,aC _ rfl⟩
theorem FQ.imp{id:String}{r r':V->List V->Hp->VK->Prop}(h:FQ X id r)(i:∀x xs H Q,r' x xs H Q->r x xs H Q):FQ X id r':=fun ak s σ H x xs v us Q I rx rv q=>h ak s σ H x xs v us Q I rx rv (i _ _ _ _ q)
theorem jb.imp{f:Value}{r r':List V->Hp->VK->Prop}(h:jb X f r)(i:∀xs H Q,r' xs H Q->r xs H Q):jb X f r':=fun ak s σ H xs us Q I rv q=>h ak s σ H xs us Q I rv (i _ _ _ q)
theorem pR.imp{f:Value->Value->Sem Value}{r r':R2}(h:pR X f r)(i:∀x y H Q,r' x y H Q->r x y H Q):pR X f r':=fun ak s σ H x y v u Q I rx ry q=>h ak s σ H x y v u Q I rx ry (i _ _ _ _ q)
def Hg:V->List V->Hp->VK->Prop:=fun x vs H Q=>∃l xs y,x=.ref l/\vs=[y]/\H l=some (.lst xs)/\xs.length<sizeLine/\∀H2,H2=fU H l (.lst (xs++[y]))->Q .non H2
theorem Dr:FQ X "list.append" Hg:=FQ.imp (r:=EL) FR fun _ _ _ _ ⟨l,xs,y,a,b,c,d,q⟩=>⟨l,xs,y,a,b,c,d,q _ rfl⟩
def RU:V->List V->Hp->VK->Prop:=fun x vs H Q=>∃l xs y,x=.ref l/\vs=[]/\H l=some (.lst (xs++[y]))/\∀H2,H2=fU H l (.lst xs)->Q y H2
theorem Lh:FQ X "list.pop" RU:=FQ.imp (r:=RL) Oz fun _ _ _ _ ⟨l,xs,y,a,b,c,q⟩=>⟨l,xs++[y],y,a,b,c,by simp,by rw[List.dropLast_concat];exact q _ rfl⟩
def OH:V->V->V->Hp->(Hp->Prop)->Prop:=fun o i v H Q=>∃p xs k j,o=.ref p/\i=.int k/\H p=some (.lst xs)/\EI xs.length k=some j/\∀H2,H2=fU H p (.lst (xs.set j v))->Q H2
theorem FY:GW X OH:=fun ak s σ H o i v ov iv u Q I r1 r2 r3 q=>by
 obtain⟨p,xs,k,j,a,b,c,d,q⟩:=q
 exact Ha ak s σ H o i v ov iv u Q I r1 r2 r3 ⟨p,xs,k,j,a,b,c,d,q _ rfl⟩
def Hh(K:Frag):List V->Hp->VK->Prop:=fun xs H Q=>∃p ys,xs=[.ref p]/\um K H p ys/\∀l H2,H l=none->H2=fU H l (.tup ys)->Q (.ref l) H2
theorem Bc:jb X (.type "tuple") (Hh X.K):=jb.imp xV fun _ _ _ ⟨p,ys,a,b,q⟩=>⟨p,ys,a,.inl ⟨b,fun l hl=>q l _ hl rfl⟩⟩
def Li(K:Frag):List V->Hp->VK->Prop:=fun xs H Q=>∃p ys,xs=[.ref p]/\(um K H p ys\/gy K H p ys)/\∀l H2,H l=none->H2=fU H l (.lst ys)->Q (.ref l) H2
theorem wm:jb X (.type "list") (Li X.K):=jb.imp zB fun _ _ _ ⟨p,ys,a,b,q⟩=>⟨p,ys,a,b,fun l hl=>q l _ hl rfl⟩
def RV:R2:=fun x y H Q=>∃l b xs zs,x=.ref l/\y=.ref b/\H l=some (.lst xs)/\H b=some (.lst zs)/\xs.length+zs.length<=sizeLine/\∀p H2,H p=none->H2=fU H p (.lst (xs++zs))->Q (.ref p) H2
theorem Lj:pR X (binaryOp .Add) RV:=pR.imp OA fun _ _ _ _ ⟨l,b,xs,zs,h1,h2,h3,h4,h5,q⟩=>⟨l,b,xs,zs,h1,h2,h3,h4,h5,fun p hp=>q p _ hp rfl⟩
end
end L2
namespace L2
open PySem PySem.Spec PyProof.Rows
end L2
namespace L2
open PySem PySem.Spec PyProof.Rows
def Hi(T:String):Prop:=T="tuple"\/T="bool"\/T="int"\/T="str"
end L2
namespace L2
end L2
namespace L2
open PySem PySem.Spec PyProof.Rows
end L2
namespace L2
open PySem PySem.Spec PyProof.Rows
structure QE(X:Cx)(e:Expr)(t:TE):Prop where
 h:PE X e t
structure QA(X:Cx)(es:List Expr)(t:TA):Prop where
 h:PA X es t
structure QS(X:Cx)(s:Stmt)(t:TS):Prop where
 h:PS X s t
structure QG(X:Cx)(e:Expr)(t:TG):Prop where
 h:PG X e t
structure QI(X:Cx)(tg it:Expr)(t:TI):Prop where
 h:PI X tg it t
structure Ve(X:Cx)(es:List Expr)(t:TT):Prop where
 h:Hc X es t
structure VW(X:Cx)(f:Value->Value->Sem Value)(r:R2):Prop where
 h:pR X f r
structure Mt(X:Cx)(f:Value)(r:List V->Hp->VK->Prop):Prop where
 h:jb X f r
section
variable{a b:Expr}{ta tb tc to:TE}{t u:TA}{tA T6:TT}{gK:List Expr}
theorem Hj:VW X (binaryOp .LShift) (rI Oe fun i j=>.int (i*2^j.toNat)):=⟨G5⟩
variable{st:Stmt}{sr:List Stmt}{ts us:TS}{g:TG}
end
section
variable{wi:TI}{g:TG}{tb:TS}{tA:TT}
end
end L2
namespace L2
open PySem PySem.Spec PyProof.Rows
end L2
namespace L2
open PySem PySem.Spec PyProof.Rows
end L2
namespace L2
open PySem PySem.Spec PyProof.Rows
def jY(env:Env):List (Str×NameKind)->List (Str×Addr)->List (Str×Addr)
 |[],cs=>cs
 |(n,k)::r,cs=>jY env r (if k==.free then(n,(env.cells.lookup n).getD 0)::cs else cs)
theorem RW(h:∀x∈scope.names,x.2=.free->∃c,env.cells.lookup x.1=some c):closureFor scope env=pure (jY env scope.names []):=by
 unfold closureFor
 have key:∀(ns:List (Str×NameKind)) (cs:List (Str×Addr)),(∀x∈ns,x.2=.free->∃c,env.cells.lookup x.1=some c) ->
   (forIn ns cs fun(x:Str×NameKind) (r:List (Str×Addr))=>if (x.2==NameKind.free)=true then(do let a <- cellOf env x.1;pure (ForInStep.yield ((x.1,a)::r)))else(pure (ForInStep.yield r):Sem _))=pure (jY env ns cs):=by
  intro ns
  induction ns with
  |nil=>intro cs _;rfl
  |cons y r ih=>
   intro cs hc
   obtain⟨n,k⟩:=y
   rw[lQ]
   have ihr:=fun cs=>ih cs fun x hx=>hc x (aW _ hx)
   by_cases hk:(k==NameKind.free)=true
   ·obtain⟨c,e⟩:=hc (n,k) cr (oh hk)
    have e2:cellOf env n=pure c:=by unfold cellOf;rw[e]
    show((if (k==NameKind.free)=true then _ else _) >>= _)=pure (jY env r (if (k==NameKind.free)=true then _ else _))
    rw[aK hk,aK hk,e2]
    simp only[pure_bind]
    have e3:(env.cells.lookup n).getD 0=c:=by rw[show env.cells.lookup n=some c from e];rfl
    rw[e3]
    exact ihr _
   ·show((if (k==NameKind.free)=true then _ else _) >>= _)=pure (jY env r (if (k==NameKind.free)=true then _ else _))
    rw[aU hk,aU hk]
    simp only[pure_bind]
    exact ihr _
 have:=key scope.names [] h
 dsimp only
 rw[this];simp only[pure_bind]
theorem yI:∀(ns:List (Str×NameKind)) (cs:List (Str×Addr)),(∀x∈ns,x.2=.free->∃c,env.cells.lookup x.1=some c)->(∀y∈cs,env.cells.lookup y.1=some y.2)->∀y∈jY env ns cs,env.cells.lookup y.1=some y.2
 |[],cs,_,h=>h
 |(n,k)::r,cs,hf,h=>by
  refine yI r _ (fun x hx=>hf x (aW _ hx)) ?_
  by_cases hk:(k==NameKind.free)=true
  ·rw[aK hk]
   intro y hy
   rcases aX.mp hy with rfl|hy
   ·obtain⟨c,e⟩:=hf (n,k) cr (oh hk)
    show env.cells.lookup n=some ((env.cells.lookup n).getD 0)
    rw[show env.cells.lookup n=some c from e];rfl
   ·exact h y hy
  ·rw[aU hk];exact h
theorem wn:∀(ns:List (Str×NameKind)) (cs:List (Str×Addr)) (y:Str×Addr),y∈cs->y∈jY env ns cs
 |[],_,_,h=>h
 |(n,k)::r,cs,y,h=>by
  refine wn r _ y ?_
  split
  ·exact aW _ h
  ·exact h
theorem wq{env:Env}:∀(ns:List (Str×NameKind)) (cs:List (Str×Addr)) (x:Str),(x,NameKind.free)∈ns->∃c,(x,c)∈jY env ns cs
 |[],_,_,h=>by simp at h
 |(n,k)::r,cs,x,h=>by
  rcases aX.mp h with e|h
  ·obtain⟨e1,e2⟩:=Prod.mk.inj e
   subst e1;subst e2
   exact⟨_,wn r _ (x,_) (by rw[aK (by rfl:(NameKind.free==NameKind.free)=true)];exact cr)⟩
  ·exact wq r _ x h
theorem wt:∀{l:List (Str×β)} {x:Str} {b:β},(x,b)∈l->∃c,l.lookup x=some c
 |(y,c)::r,x,b,h=>by
  rw[kT]
  cases hx:x==y with
  |true=>exact⟨c,rfl⟩
  |false=>
   rcases aX.mp h with e|h
   ·cases e;simp at hx
   ·exact wt h
theorem vf{env:Env}{g:Str×NameKind->Bool}:∀{names:List (Str×NameKind)} {x:Str},names.lookup x=some .free ->
  (names.map fun y=>if g y then(y.1,NameKind.cell)else y).lookup x=some .cell\/(names.map fun y=>if g y then(y.1,NameKind.cell)else y).lookup x=some .free
 |[],_,h=>by simp at h
 |(n,k)::r,x,h=>by
  rw[kT]at h
  rw[bq]
  have e1:∀y:Str×NameKind,(if g y then(y.1,NameKind.cell)else y).1=y.1:=fun y=>by split<;>rfl
  have e2:∀(y:Str×NameKind) (l:List (Str×NameKind)),(y::l).lookup x=if (x==y.1)=true then some y.2 else l.lookup x:=fun y l=>by
   obtain⟨a,b⟩:=y
   rw[kT]
   cases x==a<;>rfl
  rw[e2,e1]
  cases hx:x==n with
  |true=>
   rw[hx]at h
   cases h
   rw[aK rfl]
   by_cases hg:g (n,.free)=true
   ·rw[aK hg];exact .inl rfl
   ·rw[aU hg];exact .inr rfl
  |false=>
   rw[hx]at h
   rw[aU (by exact eU)]
   exact vf (env:=env) h
def FZ(dn:List (Str×NameKind))(sn:List (Str×NameKind))(nm:List Str)(cap:List (Option Nat))(N:List Str):Bool:=
 (sn.all fun x=>!(x.2==.local)||sn.lookup x.1==some .local)&&(sn.all fun y=>!(y.2==.cell))&&(sn.all fun x=>!(x.2==.free)||dn.lookup x.1==some .cell)&&(cap.length==nm.length) &&
 ((List.range cap.length).all fun i=>match cap[i]? with
  |some (some j)=>(match nm[i]?,N[j]? with
   |some x,some y=>x==y&&dn.lookup x==some .cell&&sn.lookup x==some .free
   |_,_=>false)
  |_=>true)
structure Vf(X:Cx)(scope:Scope)(nm:List Str)(cap:List (Option Nat)):Prop where
 clos:closureFor scope X.env=pure (jY X.env scope.names [])
 cl:∀x c,(jY X.env scope.names []).lookup x=some c->X.env.cells.lookup x=some c
 nms:∀x∈scope.names,x.2=.local->scope.names.lookup x.1=some .local
 cell:∀y∈scope.names,y.2≠.cell
 has:∀x,#[13]->∃c,(jY X.env scope.names []).lookup x=some c
 cp:∀(i j:Nat),cap[i]?=some (some j)->∃x,nm[i]?=some x/\X.N[j]?=some x/\wg X scope (jY X.env scope.names []) x
 len:cap.length=nm.length
theorem RX{nm:List Str}{cap:List (Option Nat)}(hf:∀x,X.env.scope.names.lookup x=some .cell->∃c,X.env.cells.lookup x=some c)(hB:FZ X.env.scope.names scope.names nm cap X.N=true):Vf X scope nm cap:=by
 simp only[FZ,dC,List.all_eq_true,Bool.or_eq_true,fj,du,bp]at hB
 obtain⟨⟨⟨⟨b1,b2⟩,b3⟩,b4⟩,b5⟩:=hB
 have has:∀x∈scope.names,x.2=.free->∃c,X.env.cells.lookup x.1=some c:=fun x hx hk=>by
  rcases b3 x hx with z|z
  ·exact absurd hk z
  ·exact hf _ z
 have CP:∀x c,(jY X.env scope.names []).lookup x=some c->X.env.cells.lookup x=some c:=fun x c h=>yI scope.names [] has #[15] (x,c) (jJ h)
 have hin:∀x,(x,NameKind.free)∈scope.names->∃c,(jY X.env scope.names []).lookup x=some c:=fun x h=>let ⟨_,q⟩:=wq (env:=X.env) scope.names [] x h;wt q
 have hmap:(relabel scope X.env).names=scope.names.map fun y=>if (y.2==.free&&X.env.scope.kind==.function&&X.env.kindOf y.1==some .cell)then(y.1,NameKind.cell)else y:=by
  show scope.names.map _=_
  refine fx fun y _=>?_
  obtain⟨a,b⟩:=y
  rfl
 have fr:∀x,#[13]->(x,NameKind.free)∈scope.names:=fun x h=>by
  have h':∃k,(x,k)∈(relabel scope X.env).names/\(k=.cell\/k=.free):=by
   rcases h with h|h
   ·exact⟨_,jJ h,.inl rfl⟩
   ·exact⟨_,jJ h,.inr rfl⟩
  obtain⟨k,hm,hk⟩:=h'
  rw[hmap]at hm
  obtain⟨y,hy,e⟩:=c7.mp hm
  obtain⟨a,b⟩:=y
  by_cases hb:b=.free
  ·subst hb
   have:a=x:=by split at e<;>(cases e;rfl)
   subst this;exact hy
  ·rw[aU (by simp[hb])]at e
   cases e
   rcases hk with rfl|rfl
   ·exact absurd rfl (b2 _ hy)
   ·exact absurd rfl hb
 refine⟨RW has,CP,fun x hx hk=>(b1 x hx).resolve_left fun z=>z hk,fun y hy=>b2 y hy,fun x hx=>hin x (fr x hx),fun i j e=>?_,b4⟩
 have hi':i<cap.length:=(ax.mp e).1
 have q:=b5 i (mD.mpr hi')
 rw[e]at q
 dsimp only at q
 cases hx:nm[i]? with
 |none=>rw[hx]at q;simp at q
 |some x=>
  cases hy:X.N[j]? with
  |none=>rw[hx,hy]at q;simp at q
  |some y=>
   rw[hx,hy]at q
   simp only[dC,du]at q
   obtain⟨⟨rfl,q1⟩,q2⟩:=q
   refine⟨x,rfl,rfl,.inr (.inl q1),(by rw[q1];decide),?_,?_⟩
   ·obtain⟨c,hc⟩:=hin x (jJ q2)
    rw[hc,CP _ _ hc]
   ·rw[hmap];exact vf (env:=X.env) q2
theorem OI{pos:Pos}{wi:TI}{g:TG}{tc:TT}{m:Nat}(kB:X.calm=true)
  (sK:X.env.cells=cellsFrom m X.env.scope.names []) (kA:scope.kind=.function) (hB:FZ X.env.scope.names scope.names nm cap X.N=true)
  (hi:QI X tg ec wi) (hg:∀cl C s0 H0 fp,QG #[10] tg g) (ht:∀cl C s0 H0 fp,Ve #[10] oo tc)
  (he:∀cl C s0 H0 fp,QE #[10] sI te) (hs:∀x,foldedSetIterable ec X.env x=pure x:=by intro _;rfl) :
  QE X #[11] (wf cap wi g tc te):=by
 have F:=RX (nm:=nm) (cap:=cap) (fun x z=>by rw[sK];exact nM z) hB
 exact⟨Le kB F.clos F.cl kA F.nms F.cell F.has F.cp F.len hi.h (fun C s0 H0 fp=>(hg _ C s0 H0 fp).h) (fun C s0 H0 fp=>(ht _ C s0 H0 fp).h) (fun C s0 H0 fp=>(he _ C s0 H0 fp).h) hs⟩
def Lk(K:Frag):List V->Hp->VK->Prop:=fun xs H Q=>∃(p:Addr) (ys:List (List Nat)),xs=[.ref p]/\um K H p (ys.map fun l=>V.str (tx l))/\ys.length<64 /\
 ∀zs:List (List Nat),zs.Perm ys->sortedS (zs.map tx)=true->∀l H2,H l=none->H2=fU H l (.lst (zs.map fun l=>V.str (tx l)))->Q (.ref l) H2
theorem ES(z:Str):tx z.cps.toList=z:=by cases z;rfl
theorem wu{vs:List Value}{xs:Array (Value×Value)}(hp:xs.Perm (pairsOf vs)):∀v∈(xs.map (·.2)).toList,v∈vs:=fun v hv=>by
 have hl:xs.toList.Perm (vs.zip vs):=by rw[<- pairsOf_toList];exact Array.perm_iff_toList_perm.mp hp
 rw[Array.toList_map]at hv
 obtain⟨p,hp',rfl⟩:=c7.mp hv
 have:=mem_zip_self (hl.mem_iff.mp hp')
 rw[<- this.1];exact this.2
theorem zE{prog:Program}{w:World}{A:Around}{E:Value->Shared->Prop}{l:Addr}{vs:List Value}{ss:List Str}(hl:s.heap.IsList l vs.toArray)(hS:StrsAre vs ss)(VQ:vs.length<64)
  (h:∀(out:Array Value) (KD:List Str),(∀v∈out.toList,v∈vs)->StrsAre out.toList KD->KD.Perm ss->sortedS KD=true->Q (.ref #[7]) { s with heap:=sortedAll s.heap vs out }) :
  wpAny #[6] A (call (.builtin "sorted") [.ref l]) Q E s:=by
 refine sortedK rS hl hS.keysOf (fun v₁ v₂ gK e=>ue (by rw[<- e];exact hS)) VQ fun bg hp hs=>?_
 obtain⟨KD,h1,h2,h3⟩:=qH hS hp hs
 exact h _ KD (wu hp) h1 h2 h3
theorem jl.sub{vs:List Value}(h:jl n vs)(hs:∀v∈us,v∈vs):jl n us:=fun x t hx=>h x t (hs _ hx)
theorem xW:Mt X (.builtin "sorted") (Lk X.K):=⟨by
 intro ak s σ H xs us Q I r h
 obtain⟨p,ys,rfl,hS,VQ,q⟩:=h
 obtain⟨u,rfl,ru⟩:=p6 r
 cases ru
 obtain⟨bN,rv,pl,hz⟩:=I.list hS
 have hl:=rv.length
 rw[aE]at hl
 refine zE (ss:=ys.map tx) pl.isList (wl (by simpa using rv)) #[0] fun out KD hm h1 h2 h3=>?_
 obtain⟨ep,hat⟩:=sortedAll_at s.heap bN out
 have yu:H #[7]=none:=I.hok.fresh (bn _)
 have hmap:(KD.map fun z=>z.cps.toList).map tx=KD:=by
  rw[cn]
  have:(tx∘fun z:Str=>z.cps.toList)=id:=funext fun z=>ES z
  rw[this,jT]
 have hperm:(KD.map fun z=>z.cps.toList).Perm ys:=by
  have e:=h2.map fun z:Str=>z.cps.toList
  rw[cn]at e
  have:((fun z:Str=>z.cps.toList)∘tx)=id:=funext fun l=>by simp[tx]
  rw[this,jT]at e
  exact e
 have hvals:cK s.toks ((KD.map fun z=>z.cps.toList).map fun l=>V.str (tx l)) out.toList:=by
  have e:=oq h1 ((sR rv).sub hm)
  rw[<- hmap,cn]at e
  exact e
 refine⟨.ref #[7],_,I.laid (t':=s.toks) (fun b o e=>sortedAll_old e) (bn _) ?_,rfl,q _ hperm (by rw[hmap];exact h3) _ _ yu rfl⟩
 refine⟨?_,out.toList,ep,hvals,hat⟩
 rw[aE,hperm.length_eq]
 exact aN (gn VQ) #[3]⟩
theorem bH.turned2{t':Nat}{e:Addr}(I:bH X ak σ H s)(k:∀b o,b≠e->b≠it->s.heap.get? b=some o->h'.get? b=some o)
  (he:∃o,h'.get? e=some o) (f1:uo X ak H e) (f2:uo X ak H it) (hk:s.toks<=t':=by first|exact aA _|exact bn _|assumption|omega):bH X ak σ H { s with heap:=h',toks:=t' }:=by
 have nit:∀b u,H b=some u->b≠e/\b≠it:=fun b u q=>⟨fun z=>(by rw[z,f1.1]at q;cases q),fun z=>(by rw[z,f2.1]at q;cases q)⟩
 have nin:∀b,b∉[e,it]->b≠e/\b≠it:=fun b h=>⟨fun z=>h (by simp[z]),fun z=>h (by simp[z])⟩
 refine I.step (g':=s.gens) (d':=s.drawn) (ch:=[e,it]) (fun b hb=>?_) (fun b o _ _ hc q _=>k b o (nin b hc).1 (nin b hc).2 q) (fun b o _ _ hc q _=>⟨o.slots,k b o (nin b hc).1 (nin b hc).2 q⟩) (fun _ _ _ _ n=>n)
  (fun b o hc q=>⟨o,k b o (nin b hc).1 (nin b hc).2 q⟩) (fun _ _ q=>q) (fun _ _ _ q=>q) (fun b ps q=>⟨#[],by rw[q];simp⟩) (fun m hm=>?_) (fun b u q=>?_) I.bare hk
 ·have z:b=e\/b=it:=by simpa using hb
  rcases z with rfl|rfl
  ·exact⟨f1.2.2.2.1,f1.2.1,f1.2.2.2.2.1,f1.2.2.2.2.2⟩
  ·exact⟨f2.2.2.2.1,f2.2.1,f2.2.2.2.2.1,f2.2.2.2.2.2⟩
 ·obtain⟨o,es,ep,ho,r⟩:=hm
  exact⟨o,es,ep,k _ o (Ne.symm f1.2.1) (Ne.symm f2.2.1) ho,r⟩
 ·refine((I.hok b u q).up hk).stay (fun c v hc z=>?_) (fun _ z=>z) fun _ _ z=>z
  rcases hc with y|y
  ·rw[y]at z ⊢;exact k b v (nit b u q).1 (nit b u q).2 z
  ·exact k c v (nit c _ y).1 (nit c _ y).2 z
section
variable{w:World}
theorem kY{t:Addr}{bN:Array Value}{x:Value}(st:s.heap.IsTupleIter it t i)(ht:s.heap.IsTuple t bN)(hx:bN[i]?=some x)
  (q:∀g,g.IsTupleIter it t (i+1)->Heap.SameBut it s.heap g->Q x { s with heap:=g }):wpAny #[6] A (Builtin.SmallTypes.nextOf (.ref it)) Q E s:=by
 obtain⟨ob,e1,e2,e3⟩:=id st
 obtain⟨ot,g1,_,nt,g3⟩:=ht
 have T:=st.typeIs
 unfold Builtin.SmallTypes.nextOf
 refine af (bT (name:=Str.ofString "__next__") T fR (cm fR T md ?_ (lS _)))
 show wpAny _ _ (field (.ref it) 0 >>= _) _ _ s
 refine af (de e1 e3 (x:=.ref t) rfl ?_)
 dsimp only
 rw[aU (show ¬ ((Value.ref t==Value.none)=true)from eU)]
 refine af (de e1 e3 (x:=.int i 0) rfl ?_)
 dsimp only
 refine af (eu g1 g3 ?_)
 simp only[ce,hx]
 refine af (wpAny_setField e1 e3 #[15] (ay ⟨x,rfl,ay (q _ ?_ (jh ..))⟩))
 exact⟨_,dH _ e1 (Obj.isFreed_of_fields (Obj.data_mapFields e3 _)),(Obj.cls_mapFields ..).trans e2,by rw[Obj.data_mapFields e3];simp[rawInt]⟩
theorem lZ{t:Addr}{bN:Array Value}(hh:A.handled=none)(st:s.heap.IsTupleIter it t i)(ht:s.heap.IsTuple t bN)(hx:bN[i]?=none)
  (q:∀g e,Heap.ExtBut it s.heap g->(∃o,g.get? e=some o/\o.cls=.type "StopIteration")->E (.ref e) { s with heap:=g }):wpAny #[6] A (Builtin.SmallTypes.nextOf (.ref it)) Q E s:=by
 obtain⟨ob,e1,e2,e3⟩:=id st
 obtain⟨ot,g1,_,nt,g3⟩:=ht
 have T:=st.typeIs
 unfold Builtin.SmallTypes.nextOf
 refine af (bT (name:=Str.ofString "__next__") T fR (cm fR T md ?_ (lS _)))
 show wpAny _ _ (field (.ref it) 0 >>= _) _ _ s
 refine af (de e1 e3 (x:=.ref t) rfl ?_)
 dsimp only
 rw[aU (show ¬ ((Value.ref t==Value.none)=true)from eU)]
 refine af (de e1 e3 (x:=.int i 0) rfl ?_)
 dsimp only
 refine af (eu g1 g3 ?_)
 simp only[ce,hx]
 refine af (kU (af (wpAny_setField e1 e3 #[15] (af ?_))))
 simp only[newExc,newTuple]
 refine af (cC (af (m:=firstArgMember _ _) (wpAny_of_eq (a:=Value.none) (by first|rfl|(simp only[firstArgMember];rfl)) (cC ?_ (by size_fits)))) (by size_fits))
 simp only[raiseNew]
 refine af (wpAny_handled ?_)
 rw[show A.in1.handled=none from hh]
 exact af (ay (wpAny_throw (q _ _ (((jh ..).extBut.push _).push _) ⟨_,aC _ rfl,rfl⟩)))
end
theorem Hk{w:World}{A:Around}(hh:A.handled=none)(it t:Addr)(Fw:t≠it)(bN:Array Value) :
  Draws prog w A it [it,t] bN.size (fun i v=>bN[i]?=some v) (fun i h=>h.IsTupleIter it t i/\h.IsTuple t bN) where
 live:=fun _ _ st=>let ⟨o,e,_⟩:=st.1;⟨o,e⟩
 frame:=fun _ h h' st k=>⟨st.1.at fun o e=>k it #[15] o e,let ⟨o,e,r⟩:=st.2;⟨o,k t #[15] o e,r⟩⟩
 item:=fun i s Q E hi st q=>kY st.1 st.2 (x:=bN[i]) (by simp[hi]) fun g a b=>q _ g s.toks (by simp[hi]) ⟨a,st.2.extBut b.extBut Fw⟩ b
 done:=fun s Q E st q=>lZ hh st.1 st.2 #[15] q
open AutoSeq1 (wpAny_loadPart')
def VX(K:Frag)(a:Addr):It:=
 ⟨fun i H=>∃xs x,gy K H a xs/\xs[i]?=some x,fun i H v H'=>∃p,H p=none/\v=.ref p/\∀xs x,gy K H a xs->xs[i]?=some x->H'=fU H p (.tup [.int i,x]),fun i H=>∃xs,gy K H a xs/\xs.length<=i⟩
theorem F0{w:World}(a it e:Addr)(VP:e≠it) :
  C4 P w K (.Tuple xO kk pos) (VX K a) [e,it] e (fun i h=>(∃old,IsEnum h e it i old)/\h.IsTupleIter it a i) where
 mem:=by simp
 obj:=fun i h st b hb=>by
  have z:b=e\/b=it:=by simpa using hb
  rcases z with rfl|rfl
  ·obtain⟨old,q⟩:=st.1
   exact⟨_,q,fun v z=>by cases z⟩
  ·obtain⟨o,q,c,d⟩:=st.2
   exact⟨o,q,fun v z=>by rw[d]at z;cases z⟩
 keep:=fun i h h' st k=>⟨let ⟨old,q⟩:=st.1;⟨old,k e #[15] _ q⟩,st.2.at fun o q=>k it #[15] o q⟩
 item:=by
  intro X hP hw hK hc i ak s σ H E I hf st hg
  subst hP hw hK
  obtain⟨xs,x,hq,hx⟩:=hg
  obtain⟨bN,rv,p,hz⟩:=I.tuple hq
  obtain⟨u,hu,ru⟩:=rv.get hx
  obtain⟨⟨old,he⟩,qE⟩:=st
  have hT:s.heap.IsTuple a bN.toArray:=p
  obtain⟨oa,ha,hca,_⟩:=id hT
  obtain⟨oi,hi,hci,_⟩:=id qE
  have nai:a≠it:=fun z=>by
   rw[z,hi]at ha;cases ha
   rw[hci]at hca;injection hca with z;exact absurd z #[3]
  have nae:a≠e:=fun z=>by
   rw[z,he]at ha;cases ha
   injection hca with z;exact absurd z #[3]
  have hlt:i<bN.toArray.size:=by
   have:=(ax.mp hu).1
   simpa using this
  refine up (wpAny_pyNext_enum_itemD (Hk (A:=X.A.in1) (I.ok.hd hc) it a nai bN.toArray) he ⟨qE,hT⟩ hlt VP (by simp[VP,Ne.symm nae]) fun x' g tk hx' ho' bg htup AZ hk KF=>⟨_,rfl,?_⟩)
  have ex:x'=u:=by
   have e1:bN[i]?=some x':=by simpa using hx'
   rw[hu]at e1;exact(bf e1).symm
  subst ex
  refine wpAny_letOwnedTupleGo_enum ho' fun g2 Me u7=>?_
  have yu:H s.heap.objs.size=none:=I.hok.fresh (aA _)
  have I1:bH X ak σ (fU H s.heap.objs.size (.tup [.int i,x])) { s with heap:=s.heap.push { cls:=.type "tuple",data:=.seq #[.int i tk,x'] },toks:=tk+1 }:=I.laid (fun b o q=>aw _ q) (aA _)
   ⟨by show 2<=sizeLine;decide,[.int i tk,x'],.cons ⟨tk,rfl⟩ (.cons (ru.up KF) .nil),⟨_,aC _ rfl,rfl,_,rfl⟩⟩
  have nf:∀b∈[e,it],b≠s.heap.objs.size:=fun b hb=>by
   have z:b=e\/b=it:=by simpa using hb
   rcases z with rfl|rfl
   ·exact a9 (aJ he)
   ·exact a9 (aJ hi)
  have fp:∀b∈[e,it],uo X ak (fU H s.heap.objs.size (.tup [.int i,x])) b:=fun b hb=>by
   obtain⟨f0,f⟩:=hf b hb
   exact⟨by rw[cX (nf b hb)];exact f0,f⟩
  have he2':IsEnum g2 e it ((i:Int)+1) x':=Me
  have I2:bH X ak σ (fU H s.heap.objs.size (.tup [.int i,x])) { s with heap:=g2,toks:=tk+1 }:=I1.turned2 (t':=tk+1) (fun b o hbe hbi q=>?_) ⟨_,he2'⟩ (fp e #[15]) (fp it #[15])
  ·refine⟨.ref s.heap.objs.size,_,I2,rfl,⟨_,yu,rfl,fun ys y hy hy'=>?_⟩,⟨⟨x',by simpa using he2'⟩,bg.1.extBut u7.extBut (Ne.symm VP)⟩,fun b hb=>(fp b hb).1⟩
   have e1:=I.tuple_inj hy hq
   subst e1
   rw[hx]at hy';cases hy';rfl
  ·have q':(s.heap.push { cls:=.type "tuple",data:=.seq #[.int i tk,x'] }).get? b=some o:=q
   refine u7.extBut b o hbe ?_
   by_cases hb:b=s.heap.objs.size
   ·subst hb
    have e1:=aC s.heap (o:={ cls:=.type "tuple",data:=.seq #[.int i tk,x'] }) rfl
    rw[e1]at q';cases q'
    exact htup
   ·rw[Heap.get?_push_ne _ _ _ hb]at q'
    exact hk b o hbe hbi q'
 done:=by
  intro X hP hw hK hc i ak s σ H E I hf st hg
  subst hP hw hK
  obtain⟨xs,hq,hx⟩:=hg
  obtain⟨bN,rv,p,hz⟩:=I.tuple hq
  obtain⟨⟨old,he⟩,qE⟩:=st
  have hT:s.heap.IsTuple a bN.toArray:=p
  have hl:=rv.length
  have hT':Shared.TypeIs s (.ref e) "enumerate":=⟨_,he,rfl⟩
  unfold pyNext
  refine af (iw (bT (name:=Str.ofString "__next__") hT' pV (cm pV hT' F.entry_enumerate_next ?_ (F.args_enumerate_next_1 _))))
  show wpAny _ _ (field (.ref e) 2 >>= _) _ _ _
  refine af (de he rfl (x:=.ref it) rfl (af (lZ (show X.A.in1.handled=none from I.ok.hd hc) qE hT (by simp;omega) fun g y hx' hy=>?_)))
  obtain⟨o,ho,CP⟩:=hy
  refine af (gX (T:="StopIteration") (b:=true) ⟨o,ho,CP⟩ mJ (ay ⟨rfl,?_⟩))
  obtain⟨f0,f1,f2,f3,f4,f5⟩:=hf it #[15]
  exact I.turned (t':=s.toks) (fun b o hb q=>hx' b o hb q) f0 f1 f3 f4 f5
 self:=fun A i s Q E st h=>let ⟨_,q⟩:=st.1;wpAny_pyIter_enum q h
open AutoSeq1 (wpAny_loadPart')
abbrev mV(t:Addr):Obj:={ cls:=.type "tuple_iterator",data:=.fields #[.ref t,.int 0 0] }
abbrev Ds(it:Addr):Obj:={ cls:=.type "enumerate",data:=.fields #[.none,.bool false,.ref it,rawInt 0,.none,.none] }
theorem OJ(t:Addr)(bN:Array Value)(n:Nat)(dc:Option Addr)(sl:Array (Option Value)) :
  Meets (Builtin.«enumerate.__new__» ⟨[.type "enumerate",.ref t],[]⟩) (fun _ R s=>s.heap.get? t=some { cls:=.type "tuple",dict:=dc,data:=.seq bN n,slots:=sl } /\
   R (.ok (.ret (.ref (s.heap.push (mV t)).objs.size))) { s with heap:=(s.heap.push (mV t)).push (Ds s.heap.objs.size) }):=
 .of_wp fun prog w A R s h=>by
  obtain⟨hp,g,d,tk,os⟩:=s
  obtain⟨ht,h⟩:=h
  have sb:=sub_enumerate
  have hT:Heap.IsTuple (Shared.heap ⟨hp,g,d,tk,os⟩) t bN:=⟨_,ht,rfl,n,rfl⟩
  wp_walk using dw ht
  refine wpAny_stack_any fun st=>ay ?_
  split
  ·rename_i c _ _ _ _ _
   cases(c==Value.type "enumerate")<;>(wp_walk using dw ht,fN hT;exact⟨_,rfl,h⟩)
  ·wp_walk using dw ht,fN hT
   exact⟨_,rfl,h⟩
section
variable{w:World}
theorem xX{t:Addr}{bN:Array Value}(hT:s.heap.IsTuple t bN)
  (q:∀g,IsEnum g #[7] s.heap.objs.size 0 .none->g.IsTupleIter s.heap.objs.size t 0->(∀b o,s.heap.get? b=some o->g.get? b=some o)->Q (.ref #[7]) { s with heap:=g }) :
  wpAny #[6] A (call (.type "enumerate") [.ref t]) Q E s:=by
 obtain⟨⟨c,dc,dt,sl⟩,ht,hc,n,hd⟩:=hT
 obtain rfl:c=.type "tuple":=hc
 obtain rfl:dt=.seq bN n:=hd
 refine callType_new F.called_enumerate #[3] (F.typeCall_enumerate_1 _) (F.newCall_enumerate_1 _) (fun ob=>F.args_object_init_2 ob _) F.entry_enumerate_new (OJ t bN n dc sl) ⟨ht,?_⟩
 have z:(s.heap.push (mV t)).objs.size=s.heap.objs.size+1:=bw ..
 show _/\_
 rw[z]
 have e1:IsEnum ((s.heap.push (mV t)).push (Ds s.heap.objs.size)) #[7] s.heap.objs.size 0 .none:=by
  have y:=aC (s.heap.push (mV t)) (o:=Ds s.heap.objs.size) rfl
  rw[z]at y;exact y
 exact⟨⟨_,e1,rfl⟩,q _ e1 ⟨_,aw _ (aC _ rfl),rfl,rfl⟩ fun b o y=>aw _ (aw _ y)⟩
end
section
def Vg(K:Frag)(ta:TA):TI:=fun σ H R=>ta σ H fun vs H1=>∃a,vs=[.ref a]/\(∃xs,gy K H1 a xs)/\R (VX K a) H1
theorem Hl{a:Expr}{ta:TA}{p pos tp:Pos}{xO:List Expr}{kk:Nat}(hm:X.mg "enumerate"=none)(ha:QA X [a] ta)(hg:Gl X "enumerate":=by rfl)(hs:starEach [a] X.env=[(false,eval a X.env)]:=by rfl) :
  QI X (.Tuple xO kk tp) (.Call (.Name "enumerate" p) [a] [] pos) (Vg X.K ta):=⟨by
 intro ak s σ H R I h
 refine Call_ (p5 I hg hm boot_enumerate (dS (kr (ha.h pos ak s σ H _ I h) fun us s1 kt1 ⟨vs,H1,I1,r1,q1⟩=>?_) hs rfl))
 obtain⟨t,e,⟨xs,hq⟩,q⟩:=q1
 subst e
 obtain⟨u,rfl,ru⟩:=p6 r1
 cases ru
 obtain⟨bN,rv,pt,hz⟩:=I1.tuple hq
 refine xX (show s1.heap.IsTuple t bN.toArray from pt) fun g e1 e2 kp=>?_
 refine wpAny_pyIter_enum e1 ?_
 refine⟨s1.heap.objs.size+1,[s1.heap.objs.size+1,s1.heap.objs.size],_,_,H1,rfl,I1.kept (t':=s1.toks) kp,F0 t _ _ (Nat.succ_ne_self _),⟨⟨_,e1⟩,e2⟩,fun b hb=>?_,q⟩
 have z:b=s1.heap.objs.size+1\/b=s1.heap.objs.size:=by simpa using hb
 rcases z with rfl|rfl
 ·exact I1.fpOk (bn _) (I1.hok.fresh (bn _))
 ·exact I1.fpOk (aA _) (I1.hok.fresh (aA _))⟩
end
section
variable{g:TG}{tc:TT}{H1:Hp}{Q:VK}
end
theorem yJ:∀(p:Nat) (m:List Nat),risingS (tx [p]) (m.map fun c=>tx [c])=true->(∀c∈m,p<=c)/\m.Pairwise (· <= ·)
 |p,[],_=>⟨fun c h=>by simp at h,.nil⟩
 |p,c::r,h=>by
  have h':(!ltCps (tx [c]).cps.toList (tx [p]).cps.toList&&risingS (tx [c]) (r.map fun c=>tx [c]))=true:=h
  rw[dC]at h'
  obtain⟨a,b⟩:=h'
  obtain⟨b1,b2⟩:=yJ c r b
  have hpc:p<=c:=by
   rw[ltCps_eq]at a
   have a':(!decide ([c]<[p]))=true:=a
   have:=of_decide_eq_false (fj _▸a')
   rcases Nat.lt_or_ge c p with z|z
   ·exact absurd (List.Lex.rel z) this
   ·exact z
  refine⟨fun x hx=>?_,b6.mpr ⟨b1,b2⟩⟩
  rcases aX.mp hx with rfl|hx
  ·exact hpc
  ·exact aN hpc (b1 x hx)
theorem Bd:∀(m:List Nat),sortedS ((m.map fun c=>[c]).map tx)=true->m.Pairwise (· <= ·)
 |[],_=>.nil
 |c::r,h=>by
  have h':risingS (tx [c]) ((r.map fun c=>[c]).map tx)=true:=h
  rw[cn]at h'
  obtain⟨a,b⟩:=yJ c r h'
  exact b6.mpr ⟨a,b⟩
theorem eX:Slot "set_iterator" "__next__" "set_iterator.__next__":=.of (owner:="set_iterator") (n:="__next__") (by rw[typeLookup_type,pW];kernel_rfl) (by decide +kernel) (by decide +kernel) (by decide +kernel) (by first|exact .inl (by decide +kernel)|exact .inr (by decide +kernel)) (by rw[eD];kernel_rfl)
theorem mW:entryFor table "set_iterator.__next__"=some Builtin.«set_iterator.__next__»:=entryFor_of_tree (by kernel_rfl)
theorem mX(a:Value):argsOk "set_iterator.__next__" ⟨[a],[]⟩:=by unfold argsOk;kernel_rfl
theorem Be:entryFor table "set.__iter__"=some Builtin.«frozenset.__iter__»:=entryFor_alias (id':="frozenset.__iter__") (by kernel_rfl) (by first|rfl|decide +kernel|(unfold String.splitOn;simp +decide [String.splitOnAux])) (by decide +kernel) (by kernel_rfl)
def vB(w:World):Bool:=w.params.followText "set-order"
def ET(w:World)(n:Nat)(t:SetTable):Prop:=(vB w=true\/t.led=true)/\(n=0\/t.plain=false)
theorem F1(t:SetTable)(es:Array (Int×Value))(h:Int)(x:Value):(layNew t es h x).2.1.led=t.led/\(t.plain=false->(layNew t es h x).2.1.plain=false):=by
 unfold layNew
 split
 ·dsimp only
  unfold SetTable.orStandIn
  split
  ·exact⟨rfl,fun z=>z⟩
  ·exact⟨rfl,fun _=>rfl⟩
 ·exact⟨rfl,fun _=>rfl⟩
theorem zG{t t':SetTable}{hs:Array Int}{o:Array Nat}(h:t.relaid hs n=some (t',o)):t'.led=t.led/\t'.plain=t.plain:=by
 unfold SetTable.relaid SetTable.laid at h
 cases hc:SetTable.layClean (SetTable.sizeAbove n-1) hs with
 |none=>rw[hc]at h;cases h
 |some ow=>
  rw[hc]at h
  have h':=bf h
  obtain⟨a,_⟩:=Prod.mk.inj h'
  subst a
  exact⟨rfl,rfl⟩
theorem Bf(t:SetTable)(es:Array (Int×Value))(n:Nat):(relayAll t es n).2.1.led=t.led/\(t.plain=false->(relayAll t es n).2.1.plain=false):=by
 unfold relayAll
 split
 ·rename_i t' o he
  obtain⟨a,b⟩:=zG he
  dsimp only
  split
  ·exact⟨a,fun z=>b.trans z⟩
  ·exact⟨rfl,fun _=>rfl⟩
 ·exact⟨rfl,fun _=>rfl⟩
section
variable{w:World}
def ww(prog:Program)(w:World)(n:Nat)(h:Heap)(a:Addr)(ks:List Str):Prop:=
 ∃o es ep t,h.get? a=some o/\o.ExactSet/\o.data=.set es ep t/\ElemsOf (PySem.strKind prog w) es.toList/\(es.toList.map fun e=>strOf e.2).Perm ks/\es.size<scanBound/\t.fits es.size=true/\ET w es.size t/\jl n (es.toList.map (·.2))
theorem Bg{l:List (Int×Value)}(h:ElemsOf (PySem.strKind prog w) l):∀e∈l,∃t,e.2=.str (strOf e.2) t:=fun e he=>by
 obtain⟨⟨k,hk,_⟩,_⟩:=h e he
 obtain⟨t,ht⟩:=lX hk
 exact⟨t,by rw[ht];rfl⟩
theorem yK{k:Str}{e:Int×Value}{l:List (Int×Value)}(h:ElemsOf (PySem.strKind prog w) l)(he:e∈l):(PySem.strKind prog w).is k e.2=true↔k=strOf e.2:=by
 obtain⟨t,ht⟩:=Bg h e he
 constructor
 ·intro z
  obtain⟨u,hu⟩:=lX z
  rw[hu];rfl
 ·intro z
  show Value.isStrOf k e.2=true
  rw[ht,z]
  show Value.isStrOf (strOf e.2) (.str (strOf e.2) t)=true
  unfold Value.isStrOf;simp
theorem ww.keep{a:Addr}(z:ww prog w n h a ks)(k:∀o,h.get? a=some o->h'.get? a=some o):ww prog w n h' a ks:=let ⟨o,es,ep,t,ho,r⟩:=z;⟨o,es,ep,t,k o ho,r⟩
theorem jl.up{l:List Value}(h:jl n l)(hn:n<=n'):jl n' l:=fun x t hx h1=>⟨(h x t hx h1).1,aL (h x t hx h1).2 hn⟩
theorem ww.up{a:Addr}(z:ww prog w n h a ks)(hn:n<=n'):ww prog w n' h a ks:=let ⟨o,es,ep,t,ho,h1,h2,h3,h4,h5,h6,h7,h8⟩:=z;⟨o,es,ep,t,ho,h1,h2,h3,h4,h5,h6,h7,h8.up hn⟩
theorem Ll{a:Addr}{tk:Tok}{Q:Bool->Shared->Prop}(z:ww prog w n s.heap a ks)(UJ:x.length=1->0<tk/\tk<n)(V_:ks.length+1<scanBound)
  (q:∀b g,Heap.SameBut a s.heap g->ww prog w n g a (if x∈ks then ks else ks++[x])->Q b { s with heap:=g }):wpAny #[6] A (setAddHashed a (.str x tk) ((PySem.strKind prog w).hash x)) Q E s:=by
 obtain⟨o,es,ep,t,ho,zn,hd,hel,hp,hb,hf,KG,hta⟩:=z
 have gB:es.size=ks.length:=by have:=hp.length_eq;simpa using this
 have hkey:(PySem.strKind prog w).is x (.str x tk)=true:=by show Value.isStrOf x (.str x tk)=true;unfold Value.isStrOf;simp
 have hsc:(Value.str x tk).scannable=true:=rfl
 unfold setAddHashed setAddHashedIn
 refine dv (af (gp ho hd hf ?_))
 dsimp only
 rw[byScan_of hsc hb hel,aK rfl]
 unfold setAddByScan
 refine af (af (kU (af (wpAny_setScan_of hkey ho hd hf hel ?_))))
 cases hr:List.findIdx? (fun e=>(PySem.strKind prog w).is x e.2) es.toList with
 |some j=>
  obtain⟨hj,hpj,_⟩:=List.findIdx?_eq_some_iff_getElem.mp hr
  have hin:x∈ks:=hp.mem_iff.mp (c7.mpr ⟨es.toList[j],dR hj,((yK hel (dR hj)).mp hpj).symm⟩)
  refine ay (ay ?_)
  have e1:=q false s.heap (Heap.SameBut.refl a s.heap) (by rw[aK hin];exact⟨o,es,ep,t,ho,zn,hd,hel,hp,hb,hf,KG,hta⟩)
  exact e1
 |none=>
  have hin:¬ x∈ks:=fun hx=>by
   obtain⟨e,he,hxe⟩:=c7.mp (hp.mem_iff.mpr hx)
   have y:=List.findIdx?_eq_none_iff.mp hr e he
   rw[(yK hel he).mpr hxe.symm]at y
   cases y
  have q':=fun b g h1 h2=>q b g h1 (by rw[aU hin];exact h2)
  dsimp only
  have lp:=layNew_perm t es ((PySem.strKind prog w).hash x) (.str x tk)
  have lf:=layNew_fits t es ((PySem.strKind prog w).hash x) (.str x tk)
  have lm:=F1 t es ((PySem.strKind prog w).hash x) (.str x tk)
  generalize layNew t es ((PySem.strKind prog w).hash x) (.str x tk)=L at lp lf lm ⊢
  obtain⟨es1,t1,wd,gv⟩:=L
  dsimp only at lp lf lm ⊢
  rw[nh]at lp
  have el1:ElemsOf (PySem.strKind prog w) es1.toList:=(hel.push hkey hsc).perm lp
  have sz1:es1.size=es.size+1:=by have:=lp.length_eq;simpa using this
  have b1:es1.size<scanBound:=by omega
  have p1:(es1.toList.map fun e=>strOf e.2).Perm (ks++[x]):=by
   have y:=lp.map fun e:Int×Value=>strOf e.2
   rw[bG]at y
   exact y.trans (hp.append_right _)
  have ta1:jl n (es1.toList.map (·.2)):=fun y u hy=>by
   obtain⟨e,he,ee⟩:=c7.mp hy
   rcases aV.mp (lp.mem_iff.mp he)with z|z
   ·exact hta y u (c7.mpr ⟨e,z,ee⟩)
   ·rw[aZ]at z
    subst z
    cases ee
    exact UJ
  have gw:∀(b:Bool) {s₁:Shared} {Q':Unit->Shared->Prop},Q' () s₁->wpAny #[6] A (match b with|true=>rule "set.scan.the-table-gave-way" | false=>pure ()) Q' E s₁:=fun b _ _ y=>by cases b<;>first|exact ay y|exact kU y
  refine af (gw _ ?_)
  have kQ:∀t2:SetTable,t2.fits es1.size=true->t2.led=t.led->t2.plain=false->wpAny #[6] A (do
    storeSet a es1 t2
    if (!wd&&t2.tooFull)=true then do
      (match (relayAll t2 es1 (SetTable.grown es1.size)).2.2 with|true=>rule "set.scan.the-table-gave-way" | false=>pure ())
      storeSet a (relayAll t2 es1 (SetTable.grown es1.size)).1 (relayAll t2 es1 (SetTable.grown es1.size)).2.1
      pure (some true)
     else pure (some true)) (fun r s'=>wpAny #[6] A (match r with|some added=>pure added|none=>setAddHashedIn a (.str x tk) ((PySem.strKind prog w).hash x) 99999) Q E s') E s:=by
   intro t2 f2 l2 n2
   have to2:ET w es1.size t2:=⟨by rw[l2];exact KG.1,.inr n2⟩
   refine af (wpAny_storeSet_of ho hd ?_ (fits_of_scanBound b1))
   have g1:(s.heap.update a (Obj.putSet es1 t2)).get? a=some { o with data:=.set es1 (ep+1) t2 }:=by
    have y:=dH (Obj.putSet es1 t2) ho (by rw[u_ es1 t2 hd];rfl)
    rw[u_ es1 t2 hd]at y;exact y
   have sb:=jh s.heap a (Obj.putSet es1 t2)
   split
   ·have rp:=relayAll_perm t2 es1 (SetTable.grown es1.size)
    have rf:=relayAll_fits t2 es1 (SetTable.grown es1.size)
    have rm:=Bf t2 es1 (SetTable.grown es1.size)
    generalize relayAll t2 es1 (SetTable.grown es1.size)=R at rp rf rm ⊢
    obtain⟨es2,t3,gv2⟩:=R
    dsimp only at rp rf rm ⊢
    have sz2:es2.size=es1.size:=by have:=rp.length_eq;simpa using this
    refine af (gw _ (af (wpAny_storeSet_of g1 rfl (ay (ay ?_)) (fits_of_scanBound #[0]))))
    have g2:((s.heap.update a (Obj.putSet es1 t2)).update a (Obj.putSet es2 t3)).get? a=some { o with data:=.set es2 (ep+1+1) t3 }:=by
     have y:=dH (Obj.putSet es2 t3) g1 (by rw[u_ es2 t3 rfl];rfl)
     rw[u_ es2 t3 rfl]at y;exact y
    refine q' true _ (sb.trans (jh _ a _)) ⟨_,es2,_,t3,g2,zn,rfl,el1.perm rp,?_,by omega,rf,?_⟩
    ·exact(rp.map fun e:Int×Value=>strOf e.2).trans p1
    ·exact⟨⟨by rw[rm.1,l2];exact KG.1,.inr (rm.2 n2)⟩,fun y u hy=>ta1 y u ((rp.map _).mem_iff.mp hy)⟩
   ·exact ay (ay (q' true _ sb ⟨_,es1,_,t2,g1,zn,rfl,el1,p1,b1,f2,to2,ta1⟩))
  by_cases on:t1.plain=true
  ·rw[aK on,hashByValue_scannable 8 hsc]
   refine af (ay ?_)
   exact kQ { t1 with plain:=false } (SetTable.fits_plain_off lf) lm.1 rfl
  ·rw[aU on]
   refine af (ay ?_)
   exact kQ t1 lf lm.1 (by simpa using on)
end
section
variable{w:World}{R:Result->Shared->Prop}{I:Addr}{wr:List Addr}{P:Nat->Value->Prop}{St:Nat->Heap->Prop}
def Mu(prog:Program)(w:World)(m:Nat)(val:Nat->Str)(h:Heap)(a:Addr)(i:Nat):Prop:=∃ks,ww prog w m h a ks/\ks.Nodup/\(∀x,x∈ks↔∃j,j<i/\val j=x)/\ks.length<=i
theorem Hm(W:Walks prog w A.in1 I fp wr n P St)(S:Addr)(V8:S∉fp)(val:Nat->Str)(CK:∀i v,P i v->∃t,v=.str (val i) t)(hb:n+1<scanBound){n0:Nat}
  (CZ:∀i (s:Shared) (Q:Option Value->Shared->Prop) (E:Value->Shared->Prop),n0<=s.toks->i<n->St i s.heap ->
   (∀v h' tk,s.toks<=tk->jl tk [v]->P i v->St (i+1) h'->(∀b o,b∉wr->s.heap.get? b=some o->h'.get? b=some o)->Q (some v) { s with heap:=h',toks:=tk })->wpAny #[6] A.in1 (pyNext (.ref I)) Q E s) :
  ∀(k i:Nat) (s:Shared),n-i=k->i<=n->n0<=s.toks->St i s.heap->Mu prog w s.toks val s.heap S i ->
   (∀g tk,s.toks<=tk->Mu prog w tk val g S n->(∀b o,b≠S->b∉wr->s.heap.get? b=some o->g.get? b=some o)->R (.ok (.ret .none)) { s with heap:=g,toks:=tk }) ->
   codeAny #[6] A (.builtin "set.update.loop" ⟨[.ref S,.ref I],[]⟩) R s:=by
 have hSw:S∉wr:=fun h=>V8 (W.sub _ h)
 intro k
 induction k with
 |zero=>
  intro i s hk hi hn0 st hM hR
  obtain rfl:i=n:=by omega
  refine dy ji ?_
  rw[c5 fy _]
  show wpAny _ A.in1 (pyNext (.ref I) >>= _) _ _ s
  refine af (up (W.done s _ _ st fun g tk kp ml=>ay (hR g tk ml ?_ fun b o _ hb e=>kp b o hb e)))
  obtain⟨ks,z,r⟩:=hM
  exact⟨ks,(z.keep fun o e=>kp S o hSw e).up ml,r⟩
 |succ k ih=>
  intro i s hk hi hn0 st hM hR
  have hlt:i<n:=by omega
  refine dy ji ?_
  rw[c5 fy _]
  show wpAny _ A.in1 (pyNext (.ref I) >>= _) _ _ s
  refine af (CZ i s _ _ hn0 hlt st fun v g tk ml hta hP bg kp=>?_)
  obtain⟨t,rfl⟩:=CK i v hP
  obtain⟨ks,z,nd,mem,len⟩:=hM
  have z':ww prog w (tk+1) g S ks:=(z.keep fun o e=>kp S o hSw e).up (iF ml)
  refine af (dv ?_)
  unfold setAdd
  refine dv (af ((PySem.strKind prog w).pyHash (k:=val i) (show Value.isStrOf (val i) (.str (val i) t)=true by unfold Value.isStrOf;simp) ?_))
  refine Ll (s:={ s with heap:=g,toks:=tk+1 }) z' (fun h1=>⟨(hta _ t #[15] h1).1,cW (hta _ t #[15] h1).2⟩) #[0] fun _ g2 sb z2=>?_
  refine ay ⟨fG fy _,ih (i+1) _ #[0] hlt (aN hn0 (iF ml)) (W.frame _ _ _ bg fun b hb o e=>?_) ?_ fun g3 tk3 hle3 hM3 kp3=>?_⟩
  ·rw[sb.2 b (fun h:b=S=>V8 (by rw[<- h];exact hb))];exact e
  ·refine⟨_,z2,?_,fun x=>?_,?_⟩
   ·by_cases hx:val i∈ks
    ·rw[aK hx];exact nd
    ·rw[aU hx];exact ni.mpr ⟨nd,by simp,fun a ha b hb=>by rw[aZ]at hb;subst hb;exact fun e=>hx (e▸ha)⟩
   ·by_cases hx:val i∈ks
    ·rw[aK hx,mem x]
     constructor
     ·rintro⟨j,hj,e⟩;exact⟨j,by omega,e⟩
     ·rintro⟨j,hj,e⟩
      by_cases hji:j=i
      ·subst hji;subst e;exact(mem _).mp hx
      ·exact⟨j,by omega,e⟩
    ·rw[aU hx,aV,mem x,aZ]
     constructor
     ·rintro(⟨j,hj,e⟩|e)
      ·exact⟨j,by omega,e⟩
      ·exact⟨i,by omega,e.symm⟩
     ·rintro⟨j,hj,e⟩
      by_cases hji:j=i
      ·subst hji;exact .inr e.symm
      ·exact .inl ⟨j,by omega,e⟩
   ·by_cases hx:val i∈ks
    ·rw[aK hx];omega
    ·rw[aU hx,ai,bt];omega
  ·exact hR g3 tk3 (aN (iF ml) hle3) hM3 fun b o hb hw e=>kp3 b o hb hw ((sb.2 b hb).trans (kp b o hw e))
end
section
variable{w:World}
abbrev d6(w:World):Obj:={ cls:=.type "set",dict:=none,data:=.set #[] 0 (.fresh 0 0 (!vB w)) }
theorem Bh(a:Value){Q₁:Value->Shared->Prop}(h:Q₁ (.ref s.heap.objs.size) { s with heap:=s.heap.push (d6 w) }) :
  codeAny #[6] A (.call (.builtin "set.__new__") ⟨[.type "set",a],[]⟩) (wants Q₁ E) s:=by
 refine codeAny_of_tree ?_
 show wpAny _ A.in1 (do checkBuiltinCall "set.__new__" ⟨[.type "set",a],[]⟩;again (.builtin "set.__new__" ⟨[.type "set",a],[]⟩)) _ _ s
 refine af (wpAny_of_eq (PySem.F.newCall_set_1 a) (ay ⟨fG PySem.F.plain_set_new _,dy PySem.F.entry_set_new ?_⟩))
 rw[c5 PySem.F.plain_set_new _]
 unfold Builtin.«set.__new__» Builtin.Frozenset.newClass
 have sb:=sub_set_self
 obtain⟨hp,g,d,tk,os⟩:=s
 dsimp only
 wp_walk
 refine ol (ay ?_)
 dsimp only
 simp only[newObj]
 exact af (wpAny_alloc (ay (ay h)))
set_option maxHeartbeats 8000000 in
theorem nq{T:String}{UM:Obj}{fp:Addr->List Addr}{n:Nat}{P:Nat->Value->Prop}{St:Addr->Nat->Heap->Prop}{val:Nat->Str}{Q:Value->Shared->Prop}(hT:Shared.TypeIs { s with heap:=s.heap.push (d6 w) } v T)
  (n1:isSubtype (.type T) (.type "set")=pure false) (n2:isSubtype (.type T) (.type "frozenset")=pure false) (n3:(Value.type T==Value.type "dict")=false)
  (qE:∀(A:Around) (E:Value->Shared->Prop) (Q:Value->Shared->Prop),Q (.ref #[7]) { s with heap:=(s.heap.push (d6 w)).push UM }->wpAny #[6] A (pyIter v) Q E { s with heap:=s.heap.push (d6 w) })
  (W:∀(A:Around) (it:Addr),A.handled=none->it=s.heap.objs.size+1->Walks prog w A it (fp it) [it] n P (St it)) (T9:s.heap.objs.size∉fp #[7]) (st:St #[7] 0 ((s.heap.push (d6 w)).push UM)) (CK:∀i v,P i v->∃t,v=.str (val i) t)
  (hh:A.handled=none) (hb:n+1<scanBound)
  (CZ:∀(A:Around),A.handled=none->∀i (s':Shared) (Q:Option Value->Shared->Prop) (E:Value->Shared->Prop),s.toks<=s'.toks->i<n->St #[7] i s'.heap ->
   (∀v h' tk,s'.toks<=tk->jl tk [v]->P i v->St #[7] (i+1) h'->(∀b o,b∉[s.heap.objs.size+1]->s'.heap.get? b=some o->h'.get? b=some o)->Q (some v) { s' with heap:=h',toks:=tk })->wpAny #[6] A (pyNext (.ref #[7])) Q E s')
  (q:∀g tk,s.toks<=tk->Mu prog w tk val g s.heap.objs.size n->(∀b o,s.heap.get? b=some o->g.get? b=some o)->Q (.ref s.heap.objs.size) { s with heap:=g,toks:=tk }) :
  wpAny #[6] A (call (.type "set") [v]) Q E s:=by
 obtain⟨c,tl,hmro⟩:=PySem.F.called_set.mro
 have hmade:=PySem.F.called_set.made
 have hsub:=PySem.F.called_set.sub
 refine sL (codeAny_of_tree ?_)
 show wpAny _ _ (callAny (.type "set") _) _ _ _
 refine ay ⟨Code.quiet_builtin _ (by decide +kernel),dy PySem.F.entry_type_call ?_⟩
 rw[Around.under_plain (weight_type_call_type "set" [v] []) rfl]
 have h1:=PySem.F.called_set.notType
 have h2:=PySem.F.called_set.canCreate
 have hct:=PySem.F.typeCall_set_1 v
 repeat(any_goals (first|assumption|wp_step))
 refine i_ (Bh v (E:=E) (Q₁:=fun obj s₁=>obj=.ref s.heap.objs.size/\s₁={ s with heap:=s.heap.push (d6 w) }) ⟨rfl,rfl⟩) fun r s₁ hr=>?_
 cases r with
 |error e=>exact hr
 |ok fl=>
  cases fl with
  |ret obj=>
   obtain⟨rfl,rfl⟩:=hr
   have gS:(s.heap.push (d6 w)).get? s.heap.objs.size=some (d6 w):=aC _ rfl
   have tS:Shared.TypeIs { s with heap:=s.heap.push (d6 w) } (.ref s.heap.objs.size) "set":=⟨_,gS,rfl⟩
   have hli:=PySem.F.called_set.init.lookup
   have hbi:=PySem.F.called_set.init.bind (.ref s.heap.objs.size)
   repeat(any_goals (first|assumption|wp_step))
   refine i_ (lv (R:=wants (fun r s₂=>r=.none/\∃g tk,s₂={ s with heap:=g,toks:=tk }/\s.toks<=tk/\Mu prog w tk val g s.heap.objs.size n/\(∀b o,s.heap.get? b=some o->g.get? b=some o)) E) PySem.F.called_set.init.plain PySem.F.entry_set_init (check_set_init_1 tS ?_)) fun r₂ s₂ hr₂=>?_
   ·unfold Builtin.«set.__init__» noKeywords Builtin.Frozenset.updateFrom
    generalize hPI:pyIter=PI
    wp_walk
    subst hPI
    refine qE _ _ _ (af (qI ?_))
    have g0:((s.heap.push (d6 w)).push UM).get? s.heap.objs.size=some (d6 w):=aw _ gS
    have m0:Mu prog w s.toks val ((s.heap.push (d6 w)).push UM) s.heap.objs.size 0:=⟨[],⟨_,#[],0,_,g0,⟨rfl,rfl,rfl⟩,rfl,fun e he=>by simp at he,by simp,by unfold scanBound;decide,rfl,?_⟩,List.nodup_nil,fun x=>by simp,aA _⟩
    ·refine Hm (W _ _ (by simpa using hh) rfl) s.heap.objs.size T9 val CK hb (n0:=s.toks) (CZ _ (by simpa using hh)) (n-0) 0 _ rfl (bY _) (aA _) st m0 fun g tk ml hM kp=>?_
     refine ay (ay ⟨rfl,g,tk,rfl,ml,hM,fun b o e=>kp b o (a9 (aJ e)) (fun hbm=>?_) (aw _ (aw _ e))⟩)
     rw[aZ]at hbm
     exact absurd (aJ e) (by rw[hbm];exact jI.mpr (bn _))
    ·refine⟨⟨?_,.inl rfl⟩,fun x t hx=>by simp at hx⟩
     show vB w=true\/(!vB w)=true
     cases vB w<;>simp
   ·cases r₂ with
    |error e=>exact hr₂
    |ok fl₂=>
     cases fl₂ with
     |ret r=>
      obtain⟨rfl,g,tk,rfl,ml,hM,kp⟩:=hr₂
      repeat(any_goals (first|assumption|wp_step))
      exact q g tk ml hM kp
     |_=>exact hr₂.elim
  |_=>exact hr.elim
end
theorem rY:∀{l:List α} {i:Nat} (h:i<l.length),(l[i]::l.eraseIdx i).Perm l
 |x::r,0,_=>iS _
 |x::r,i+1,h=>(List.Perm.swap x (r[i]'(by simpa using h)) (r.eraseIdx i)).trans ((rY (l:=r) (i:=i) (by simpa using h)).cons x)
section
theorem xY{Wx:Source}{Q:Nat->Shared->Prop}(hn:n≠0)(h:∀i,i<n->∀d,Q i { s with drawn:=d }):wpAny M A (choose Wx n) Q E s:=fun _ _ _=>⟨hn,h _ (Nat.mod_lt _ (Nat.pos_of_ne_zero hn)) _⟩
theorem Bi:∀(n:Nat) (xs:List α) (s:Shared) (Q:List α->Shared->Prop),xs.length=n->(∀ys,ys.Perm xs->∀d,Q ys { s with drawn:=d })->wpAny M A (drawOrder n xs) Q E s
 |0,xs,s,Q,hl,h=>by
  have e:xs=[]:=hG hl
  subst e
  unfold drawOrder
  exact ay (h [] (iS _) s.drawn)
 |n+1,[],s,Q,hl,h=>by simp at hl
 |n+1,x::r,s,Q,hl,h=>by
  unfold drawOrder
  refine af (xY #[15] fun i hi d=>?_)
  have e:(x::r)[i]?=some (x::r)[i]:=aj hi
  rw[e]
  dsimp only
  refine af (Bi n ((x::r).eraseIdx i) _ _ (by rw[List.length_eraseIdx,aK hi];simp at hl ⊢;omega) fun ys hp d'=>ay (h _ ?_ d'))
  exact(List.Perm.cons _ hp).trans (rY hi)
theorem EU(next:Nat->Nat):∀(Mm k:Nat) (CQ:List α) (out:Array α),CQ.length=Mm->(pickOrder.go next Mm k CQ out).toList.Perm (out.toList++CQ)
 |0,k,CQ,out,h=>by
  have e:CQ=[]:=hG h
  subst e
  unfold pickOrder.go
  simp
 |Mm+1,k,CQ,out,h=>by
  have hlt:next k%CQ.length<CQ.length:=Nat.mod_lt _ #[0]
  unfold pickOrder.go
  rw[aj hlt]
  dsimp only
  refine(EU next Mm (k+1) _ _ (by rw[List.length_eraseIdx,aK hlt];omega)).trans ?_
  rw[nh,al]
  exact pX _ (rY hlt)
theorem F3(next:Nat->Nat)(xs:Array α):(pickOrder next xs).toList.Perm xs.toList:=by
 unfold pickOrder
 have:=EU next xs.size 0 xs.toList #[] #[15]
 simpa using this
end
abbrev rh(f:Value)(i:Int)(S:Addr)(n ep:Nat):Obj:={ cls:=.type "set_iterator",dict:=none,data:=.fields #[f,rawInt i,.ref S,rawInt n,rawInt ep],slots:=#[] }
section
variable{w:World}
theorem wz{Q:Fin->Shared->Prop}(hh:A.handled=none)(q:∀g e,(∀b o,s.heap.get? b=some o->g.get? b=some o)->(∃o,g.get? e=some o/\o.cls=.type "StopIteration")->E (.ref e) { s with heap:=g }) :
  wpAny #[6] A (do let x <- newExc (.type "StopIteration") [];raiseNew x) Q E s:=by
 refine af ?_
 simp only[newExc,newTuple]
 refine af (cC (af (m:=firstArgMember _ _) (wpAny_of_eq (a:=Value.none) (by first|rfl|(simp only[firstArgMember];rfl)) (cC ?_ (by size_fits)))) (by size_fits))
 simp only[raiseNew]
 refine af (wpAny_handled ?_)
 rw[hh]
 exact af (ay (wpAny_throw (q _ _ (fun b o e=>aw _ (aw _ e)) ⟨_,aC _ rfl,rfl⟩)))
structure ky(w:World)(h:Heap)(S:Addr)(es:Array (Int×Value))(ep:Nat)(t:SetTable):Prop where
 ex:∃o,h.get? S=some o/\o.ExactSet/\o.data=.set es ep t
 fits:t.fits es.size=true
theorem ky.keep{S:Addr}{es:Array (Int×Value)}{t:SetTable}(z:ky w h S es ep t)(k:∀o,h.get? S=some o->h'.get? S=some o):ky w h' S es ep t:=⟨let ⟨o,ho,r⟩:=z.ex;⟨o,k o ho,r⟩,z.fits⟩
theorem F4{S p:Addr}{es:Array (Int×Value)}{t:SetTable}{pv:Array Value}{pn:Nat}{x:Int×Value}{Q:Option Value->Shared->Prop}(qE:s.heap.get? it=some (rh (.ref p) i S n ep))(hS:ky w s.heap S es ep t)(hn:es.size=n)
  (hp:∃o,s.heap.get? p=some o/\o.cls=.type "tuple"/\o.data=.seq pv pn) (hk:pv[i]?=some (rawInt k)) (hx:es[k]?=some x)
  (q:∀g,g.get? it=some (rh (.ref p) ((i:Int)+1) S n ep)->Heap.SameBut it s.heap g->Q (some x.2) { s with heap:=g }):wpAny #[6] A (pyNext (.ref it)) Q E s:=by
 obtain⟨o,ho,zn,hd⟩:=hS.ex
 obtain⟨op,hop,hcp,hdp⟩:=hp
 have T:Shared.TypeIs s (.ref it) "set_iterator":=⟨_,qE,rfl⟩
 unfold pyNext
 refine af (iw (bT (name:=Str.ofString "__next__") T eX (cm eX T mW ?_ (mX _))))
 show wpAny _ _ (fieldsOf (.ref it) >>= _) _ _ s
 refine af (mK qE rfl ?_)
 dsimp only
 refine af (gG ho hd hS.fits ?_)
 rw[aU (by rw[hn];simp)]
 refine af (eu hop hdp ?_)
 simp only[ce,hk]
 unfold setNextDrawn
 refine af (af (gp ho hd hS.fits ?_))
 dsimp only
 rw[aU #[15],ce,hx]
 refine ay (af (cG qE #[15] fun g e1 e2=>ay ⟨_,rfl,ay (q g (by simpa using e1) e2)⟩))
theorem xZ{S p:Addr}{es:Array (Int×Value)}{t:SetTable}{pv:Array Value}{pn:Nat}{Q:Option Value->Shared->Prop}(hh:A.handled=none)(qE:s.heap.get? it=some (rh (.ref p) i S n ep))(hS:ky w s.heap S es ep t)(hn:es.size=n)
  (hp:∃o,s.heap.get? p=some o/\o.cls=.type "tuple"/\o.data=.seq pv pn) (hk:pv[i]?=none)
  (q:∀g,(∀b o,b≠it->s.heap.get? b=some o->g.get? b=some o)->Q none { s with heap:=g }):wpAny #[6] A (pyNext (.ref it)) Q E s:=by
 obtain⟨o,ho,zn,hd⟩:=hS.ex
 obtain⟨op,hop,hcp,hdp⟩:=hp
 have T:Shared.TypeIs s (.ref it) "set_iterator":=⟨_,qE,rfl⟩
 unfold pyNext
 refine af (iw (bT (name:=Str.ofString "__next__") T eX (cm eX T mW ?_ (mX _))))
 show wpAny _ _ (fieldsOf (.ref it) >>= _) _ _ s
 refine af (mK qE rfl ?_)
 dsimp only
 refine af (gG ho hd hS.fits ?_)
 rw[aU (by rw[hn];simp)]
 refine af (eu hop hdp ?_)
 simp only[ce,hk]
 refine af (cG qE #[15] fun g e1 e2=>af (cG e1 #[15] fun g2 e3 e4=>wz (s:={ s with heap:=g2 }) (show A.in1.handled=none from hh) fun g3 e kp hx=>?_))
 obtain⟨ox,hox,hcx⟩:=hx
 refine af (gX (T:="StopIteration") (b:=true) ⟨ox,hox,hcx⟩ mJ (ay (q g3 fun b o hb e=>kp b o ?_)))
 exact e4.extBut b o hb (e2.extBut b o hb e)
theorem Ho{S:Addr}{sl sl':Nat}{es:Array (Int×Value)}{t:SetTable}{x:Value}{Q:Option Value->Shared->Prop}(qE:s.heap.get? it=some (rh (rawInt sl) i S n ep))(hS:ky w s.heap S es ep t)(hn:es.size=n)
  (hx:∀(Q':Option (Value×Nat)->Shared->Prop) (E':Value->Shared->Prop),Q' (some (x,sl')) s->wpAny #[6] A.in1 (setNext S sl i ep) Q' E' s)
  (q:∀g,g.get? it=some (rh (rawInt sl') ((i:Int)+1) S n ep)->Heap.SameBut it s.heap g->Q (some x) { s with heap:=g }):wpAny #[6] A (pyNext (.ref it)) Q E s:=by
 obtain⟨o,ho,zn,hd⟩:=hS.ex
 have T:Shared.TypeIs s (.ref it) "set_iterator":=⟨_,qE,rfl⟩
 unfold pyNext
 refine af (iw (bT (name:=Str.ofString "__next__") T eX (cm eX T mW ?_ (mX _))))
 show wpAny _ _ (fieldsOf (.ref it) >>= _) _ _ s
 refine af (mK qE rfl ?_)
 dsimp only
 refine af (gG ho hd hS.fits ?_)
 rw[aU (by rw[hn];simp)]
 show wpAny _ _ (setNext S (sl:Int).toNat (i:Int).toNat (ep:Int).toNat >>= _) _ _ s
 simp only[ce]
 refine af (hx _ _ ?_)
 dsimp only
 refine af (cG qE #[15] fun g e1 e2=>af (cG e1 #[15] fun g2 e3 e4=>ay ⟨_,rfl,ay (q g2 (by simpa using e3) (e2.trans e4))⟩))
theorem zH{S:Addr}{sl:Nat}{es:Array (Int×Value)}{t:SetTable}{Q:Option Value->Shared->Prop}(hh:A.handled=none)(qE:s.heap.get? it=some (rh (rawInt sl) i S n ep))(hS:ky w s.heap S es ep t)(hn:es.size=n)
  (hx:∀(Q':Option (Value×Nat)->Shared->Prop) (E':Value->Shared->Prop),Q' none s->wpAny #[6] A.in1 (setNext S sl i ep) Q' E' s)
  (q:∀g,(∀b o,b≠it->s.heap.get? b=some o->g.get? b=some o)->Q none { s with heap:=g }):wpAny #[6] A (pyNext (.ref it)) Q E s:=by
 obtain⟨o,ho,zn,hd⟩:=hS.ex
 have T:Shared.TypeIs s (.ref it) "set_iterator":=⟨_,qE,rfl⟩
 unfold pyNext
 refine af (iw (bT (name:=Str.ofString "__next__") T eX (cm eX T mW ?_ (mX _))))
 show wpAny _ _ (fieldsOf (.ref it) >>= _) _ _ s
 refine af (mK qE rfl ?_)
 dsimp only
 refine af (gG ho hd hS.fits ?_)
 rw[aU (by rw[hn];simp)]
 show wpAny _ _ (setNext S (sl:Int).toNat (i:Int).toNat (ep:Int).toNat >>= _) _ _ s
 simp only[ce]
 refine af (hx _ _ ?_)
 dsimp only
 refine af (cG qE #[15] fun g e1 e2=>wz (s:={ s with heap:=g }) (show A.in1.handled=none from hh) fun g3 e kp hx=>?_)
 obtain⟨ox,hox,hcx⟩:=hx
 exact af (gX (T:="StopIteration") (b:=true) ⟨ox,hox,hcx⟩ mJ (ay (q g3 fun b o hb e=>kp b o (e2.extBut b o hb e))))
end
theorem vg:Slot "set_iterator" "__iter__" "set_iterator.__iter__":=.of (owner:="set_iterator") (n:="__iter__") (by rw[typeLookup_type,pW];kernel_rfl) (by decide +kernel) (by decide +kernel) (by decide +kernel) (by first|exact .inl (by decide +kernel)|exact .inr (by decide +kernel)) (by rw[eD];kernel_rfl)
theorem Bj(a:Value):argsOk "set_iterator.__iter__" ⟨[a],[]⟩:=by unfold argsOk;kernel_rfl
theorem Bk:entryFor table "set_iterator.__iter__"=some Builtin.«dict_keyiterator.__iter__»:=entryFor_alias (id':="dict_keyiterator.__iter__") (by kernel_rfl) (by first|rfl|decide +kernel|(unfold String.splitOn;simp +decide [String.splitOnAux])) (by decide +kernel) (by kernel_rfl)
section
variable{w:World}
theorem Bm{S:Addr}{f:Value}{i:Int}(qE:s.heap.get? it=some (rh f i S n ep))(q:Q (.ref it) s):wpAny #[6] A (pyIter (.ref it)) Q E s:=by
 have T:Shared.TypeIs s (.ref it) "set_iterator":=⟨_,qE,rfl⟩
 exact wpAny_pyIter_slot T vg (cm vg T Bk (ay ⟨_,rfl,"set_iterator",_,T,eX.lookup,q⟩) (Bj _))
theorem Dt(hh:A.handled=none){S p:Addr}{ep:Nat}{es:Array (Int×Value)}{t:SetTable}{pl:List Nat}(on:pl.Perm (List.range n))(hn:es.size=n)(h1:it≠S)(h2:it≠p) :
  Walks prog w A it [it,p,S] [it] n (fun i v=>∃k x,pl[i]?=some k/\es[k]?=some x/\v=x.2) (fun i h=>i<=n/\h.get? it=some (rh (.ref p) i S n ep)/\(∃o,h.get? p=some o/\o.cls=.type "tuple"/\∃e,o.data=.seq (pl.map fun k:Nat=>rawInt k).toArray e)/\ky w h S es ep t) where
 sub:=fun b hb=>by simp at hb;simp[hb]
 frame:=fun i h h' st k=>⟨st.1,k it #[15] _ st.2.1,(let ⟨o,ho,r⟩:=st.2.2.1;⟨o,k p #[15] o ho,r⟩),st.2.2.2.keep fun o ho=>k S #[15] o ho⟩
 item:=fun i s Q E hi st q=>by
  obtain⟨_,qE,⟨op,hop,hcp,e,hdp⟩,hS⟩:=st
  have hl:pl.length=n:=by have:=on.length_eq;simpa using this
  have hk:pl[i]?=some pl[i]:=aj #[0]
  have hkn:pl[i]<es.size:=by rw[hn];exact mD.mp (on.mem_iff.mp (dR #[0]))
  refine F4 qE hS hn ⟨op,hop,hcp,hdp⟩ (k:=pl[i]) (x:=es[pl[i]]) (by simp[hk]) (by simp[hkn]) fun g a b=>q _ g s.toks ⟨pl[i],es[pl[i]],hk,by simp[hkn],rfl⟩ ⟨hi,?_,⟨op,b.extBut p op (Ne.symm h2) hop,hcp,e,hdp⟩,hS.keep fun o ho=>b.extBut S o (Ne.symm h1) ho⟩ fun c o hc ho=>b.extBut c o (fun z=>hc (by simp[z])) ho
  rw[a];rfl
 done:=fun s Q E st q=>by
  obtain⟨_,qE,⟨op,hop,hcp,e,hdp⟩,hS⟩:=st
  have hl:pl.length=n:=by have:=on.length_eq;simpa using this
  exact xZ hh qE hS hn ⟨op,hop,hcp,hdp⟩ (by simp[hl]) fun g kp=>q g s.toks fun c o hc ho=>kp c o (fun z=>hc (by simp[z])) ho
 self:=fun i s Q E st q=>Bm st.2.1 q
theorem F5(hh:A.handled=none){S:Addr}{ep:Nat}{es:Array (Int×Value)}{t:SetTable}{vs:List Value}{sl:Nat->Nat}(hv:vs.length=n)(hn:es.size=n)(h1:it≠S)
  (hx:∀(s:Shared) (i:Nat),ky w s.heap S es ep t->i<=n->∀(A:Around) (Q':Option (Value×Nat)->Shared->Prop) (E':Value->Shared->Prop),Q' ((vs[i]?).map fun v=>(v,sl (i+1))) s->wpAny #[6] A (setNext S (sl i) i ep) Q' E' s) :
  Walks prog w A it [it,S] [it] n (fun i v=>vs[i]?=some v) (fun i h=>i<=n/\h.get? it=some (rh (rawInt (sl i)) i S n ep)/\ky w h S es ep t) where
 sub:=fun b hb=>by simp at hb;simp[hb]
 frame:=fun i h h' st k=>⟨st.1,k it #[15] _ st.2.1,st.2.2.keep fun o ho=>k S #[15] o ho⟩
 item:=fun i s Q E hi st q=>by
  obtain⟨_,qE,hS⟩:=st
  have hk:vs[i]?=some vs[i]:=aj #[0]
  refine Ho (x:=vs[i]) (sl':=sl (i+1)) qE hS hn (fun Q' E' y=>hx s i hS (gn hi) _ Q' E' (by rw[hk];exact y)) fun g a b=>q _ g s.toks hk ⟨hi,?_,hS.keep fun o ho=>b.extBut S o (Ne.symm h1) ho⟩ fun c o hc ho=>b.extBut c o (fun z=>hc (by simp[z])) ho
  rw[a];rfl
 done:=fun s Q E st q=>by
  obtain⟨_,qE,hS⟩:=st
  have hk:vs[n]?=none:=bD #[0]
  exact zH hh qE hS hn (fun Q' E' y=>hx s n hS (aA _) _ Q' E' (by rw[hk];exact y)) fun g kp=>q g s.toks fun c o hc ho=>kp c o (fun z=>hc (by simp[z])) ho
 self:=fun i s Q E st q=>Bm st.2.1 q
end
section
variable{w:World}
theorem qN{Q:Bool->Shared->Prop}(q:Q (vB w) s):wpAny #[6] A setsByText Q E s:=by
 unfold setsByText
 exact af (ol (ay q))
theorem F6{S:Addr}{es:Array (Int×Value)}{t:SetTable}{Q:Option (Value×Nat)->Shared->Prop}(hb:vB w=true)(hS:ky w s.heap S es ep t)
  (q:Q ((((pickOrder (w.params.setOrder S ep) es).toList.map (·.2))[i]?).map fun v=>(v,0)) s):wpAny #[6] A (setNext S 0 i ep) Q E s:=by
 obtain⟨o,ho,zn,hd⟩:=hS.ex
 unfold setNext
 refine af (gp ho hd hS.fits ?_)
 dsimp only
 refine af (qN ?_)
 rw[hb,aK rfl,aU #[15]]
 unfold setWalk
 refine af (af (gp ho hd hS.fits ?_))
 dsimp only
 refine af (qN ?_)
 rw[hb,aK rfl]
 refine af (ol (ay (ay ?_)))
 have e:((pickOrder (w.params.setOrder S ep) es)[i]?).map (fun e=>(e.2,0))=(((pickOrder (w.params.setOrder S ep) es).toList.map (·.2))[i]?).map fun v=>(v,0):=by
  rw[aG,fS,Option.map_map];rfl
 show Q (((pickOrder (w.params.setOrder S ep) es)[i]?).map fun e=>(e.2,0)) s
 rw[e];exact q
theorem yL(p:Nat):SetTable.below #[p] 0=0/\SetTable.below #[p] (p+1)=1:=by
 unfold SetTable.below
 constructor
 ·simp[SetTable.below.go]
 ·simp[SetTable.below.go]
theorem Hq{S:Addr}{es:Array (Int×Value)}{t:SetTable}{Q:Option (Value×Nat)->Shared->Prop}(hb:vB w=false)(hS:ky w s.heap S es ep t)(QH:t.led=true)(h1:es.size<=1)(hi:i<=es.size)
  (q:Q (((es.toList.map (·.2))[i]?).map fun v=>(v,if i+1=0 then 0 else t.place.getD 0 0+1)) s):wpAny #[6] A (setNext S (if i=0 then 0 else t.place.getD 0 0+1) i ep) Q E s:=by
 obtain⟨o,ho,zn,hd⟩:=hS.ex
 have hf:=hS.fits
 have hps:t.place.size=es.size:=by
  unfold SetTable.fits at hf
  simp only[dC,du]at hf
  exact hf.1
 unfold setNext
 refine af (gp ho hd hS.fits ?_)
 dsimp only
 refine af (qN ?_)
 rw[hb,aU eU]
 show wpAny _ _ (if (!t.plain&&decide (es.size>1))=true then _ else _) _ _ _
 rw[aU (by simp;omega)]
 show wpAny _ _ ((if (!t.led&&!es.isEmpty)=true then _ else pure ()) >>= _) _ _ _
 rw[aU (by simp[QH])]
 refine af (ay (ay ?_))
 by_cases hz:es.size=0
 ·have e1:es=#[]:=gT hz
  subst e1
  simpa using q
 ·have hs1:es.size=1:=by omega
  obtain⟨x,rfl⟩:∃x,es=#[x]:=by
   obtain⟨l⟩:=es
   obtain⟨x,e⟩:=h_.mp hs1
   exact⟨x,ik Array.mk e⟩
  obtain⟨p,hp⟩:∃p,t.place=#[p]:=by
   generalize t.place=pl at hps
   obtain⟨l⟩:=pl
   obtain⟨x,e⟩:=h_.mp hps
   exact⟨x,ik Array.mk e⟩
  rw[hp]at q ⊢
  rcases(show i=0\/i=1 by simp at hi;omega)with rfl|rfl
  ·simp[yL]at q ⊢;exact q
  ·simp[yL]at q ⊢;exact q
end
theorem zI[Inhabited β](f:Nat->β)(xs:List α)(g:α->β)(n:Nat)(hn:xs.length=n)(hf:∀i x,xs[i]?=some x->f i=g x):(List.range n).map f=xs.map g:=by
 apply iI
 intro i
 rw[aG,aG]
 by_cases h:i<n
 ·rw[gH h,aj #[0]]
  exact ik some (hf i _ (aj #[0]))
 ·rw[bD (by simp;omega),bD #[0]];rfl
section
variable{w:World}
theorem Hr{S:Addr}{es:Array (Int×Value)}{t:SetTable}(hS:ky w s.heap S es ep t)(KG:ET w es.size t)(AZ:es.size<=sizeLine)
  (q:∀(g:Heap) (d:Drawn) (it:Addr) (fp:List Addr) (P:Nat->Value->Prop) (St:Nat->Heap->Prop),(∀A:Around,A.handled=none->Walks prog w A it fp [it] es.size P St)->St 0 g->s.heap.objs.size<=it->(∀b∈fp,b=S\/s.heap.objs.size<=b)->(∀b∈fp,b<g.objs.size)->(∀b o,s.heap.get? b=some o->g.get? b=some o) ->
   (∀ju,ItemsOf P ju es.size->ju.toList.Perm (es.toList.map (·.2)))->Q (.ref it) { s with heap:=g,drawn:=d }):wpAny #[6] A (pyIter (.ref S)) Q E s:=by
 obtain⟨o,ho,zn,hd⟩:=hS.ex
 have T:Shared.TypeIs s (.ref S) "set":=⟨o,ho,zn.1⟩
 have hSlt:=aJ ho
 refine wpAny_pyIter_slot T PySem.F.slot_set_iter (cm PySem.F.slot_set_iter T Be ?_ (PySem.F.args_set_iter_1 _))
 show wpAny _ _ (Builtin.Frozenset.sizeOf S >>= _) _ _ s
 unfold Builtin.Frozenset.sizeOf
 refine af (af (gG ho hd hS.fits (ay ?_)))
 unfold setDrawn
 refine af (af (gp ho hd hS.fits ?_))
 dsimp only
 refine af (qN (ay ?_))
 by_cases hdr:(!vB w&&(!t.plain&&decide (es.size>1)))=true
 ·show wpAny _ _ (if (!vB w&&(!t.plain&&decide (es.size>1)))=true then _ else _) _ _ _
  rw[aK hdr]
  refine af (Bi es.size (List.range es.size) _ _ #[15] fun pl hp d=>?_)
  have hl:pl.length=es.size:=by have:=hp.length_eq;simpa using this
  refine af (wpAny_newTuple ?_ (by rw[aE,hl];exact AZ))
  have hS1:ky w (s.heap.push { cls:=.type "tuple",data:=.seq (pl.map fun i:Nat=>rawInt i).toArray }) S es ep t:=hS.keep fun o e=>aw _ e
  obtain⟨o1,ho1,_,hd1⟩:=hS1.ex
  refine af (wpAny_setEpoch_of (s:={ s with heap:=s.heap.push { cls:=.type "tuple",data:=.seq (pl.map fun i:Nat=>rawInt i).toArray },drawn:=d }) ho1 hd1 hS.fits ?_)
  refine af (cC (ay ⟨_,rfl,"set_iterator",_,⟨_,aC _ rfl,rfl⟩,eX.lookup,?_⟩))
  have z:(s.heap.push { cls:=.type "tuple",data:=.seq (pl.map fun i:Nat=>rawInt i).toArray }).objs.size=s.heap.objs.size+1:=bw ..
  refine q _ d _ [_,s.heap.objs.size,S] _ _ (fun A hA=>Dt (p:=s.heap.objs.size) (t:=t) (ep:=ep) hA hp rfl ?_ ?_) ⟨bY _,aC _ rfl,⟨_,aw _ (aC _ rfl),rfl,0,rfl⟩,hS1.keep fun o e=>aw _ e⟩ ?_ (fun b hb=>?_) (fun b hb=>?_) (fun b o e=>aw _ (aw _ e)) fun ju hacc=>?_
  ·rw[z];exact et (cW hSlt)
  ·rw[z];exact Nat.succ_ne_self _
  ·rw[z];exact bn _
  ·simp only[aX,eV,mL]at hb
   rcases hb with rfl|rfl|rfl
   ·rw[z];exact .inr (bn _)
   ·exact .inr (aA _)
   ·exact .inl rfl
  ·simp only[aX,eV,mL]at hb
   have z2:∀o2,((s.heap.push { cls:=.type "tuple",data:=.seq (pl.map fun i:Nat=>rawInt i).toArray }).push o2).objs.size=s.heap.objs.size+2:=fun o2=>by rw[bw,z]
   rw[z2]
   rcases hb with rfl|rfl|rfl
   ·rw[z];exact cb _
   ·exact cW (cb _)
   ·exact cW (cW hSlt)
  ·have e:ju.toList=pl.map fun k=>(es.getD k (0,.none)).2:=by
    apply iI
    intro i
    rw[aG]
    by_cases hi:i<es.size
    ·have hia:i<ju.size:=by rw[hacc.1];exact hi
     have ha:ju[i]?=some (ju[i]'hia):=eP hia
     obtain⟨k,x,h1,h2,h3⟩:=hacc.2 i _ ha
     rw[fS,ha,h1]
     have:es.getD k (0,.none)=x:=by rw[me,h2];rfl
     rw[h3]
     show some x.2=some (es.getD k (0,.none)).2
     rw[this]
    ·rw[bD (by rw[eF,hacc.1];omega),bD #[0]];rfl
   rw[e]
   refine(hp.map _).trans (List.Perm.of_eq ?_)
   exact zI _ es.toList (·.2) es.size #[15] fun i x hx=>by
    have hx':es[i]?=some x:=by rw[<- fS];exact hx
    rw[me,hx'];rfl
 ·show wpAny _ _ (if (!vB w&&(!t.plain&&decide (es.size>1)))=true then _ else _) _ _ _
  rw[aU hdr]
  refine af (ay (af (wpAny_setEpoch_of ho hd hS.fits ?_)))
  refine af (cC (ay ⟨_,rfl,"set_iterator",_,⟨_,aC _ rfl,rfl⟩,eX.lookup,?_⟩))
  have kQ:∀(vs:List Value) (sl:Nat->Nat),sl 0=0->vs.Perm (es.toList.map (·.2))->(∀(s:Shared) (i:Nat),ky w s.heap S es ep t->i<=es.size->∀(A:Around) (Q':Option (Value×Nat)->Shared->Prop) (E':Value->Shared->Prop),Q' ((vs[i]?).map fun v=>(v,sl (i+1))) s->wpAny #[6] A (setNext S (sl i) i ep) Q' E' s) ->
    Q (.ref s.heap.objs.size) { s with heap:=s.heap.push (rh (rawInt 0) 0 S es.size ep) }:=fun vs sl h0 hp hx=>by
   have hl:vs.length=es.size:=by have:=hp.length_eq;simpa using this
   refine q _ s.drawn s.heap.objs.size [s.heap.objs.size,S] _ _ (fun A hA=>F5 (t:=t) (ep:=ep) (vs:=vs) (sl:=sl) hA hl rfl (et hSlt) hx) ⟨bY _,?_,hS.keep fun o e=>aw _ e⟩ (aA _) (fun b hb=>?_) (fun b hb=>?_) (fun b o e=>aw _ e) fun ju hacc=>?_
   ·rw[h0];exact aC _ rfl
   ·simp only[aX,eV,mL]at hb
    rcases hb with rfl|rfl
    ·exact .inr (aA _)
    ·exact .inl rfl
   ·simp only[aX,eV,mL]at hb
    rw[bw]
    rcases hb with rfl|rfl
    ·exact cb _
    ·exact cW hSlt
   ·have e:ju.toList=vs:=by
     apply iI
     intro i
     by_cases hi:i<es.size
     ·have hia:i<ju.size:=by rw[hacc.1];exact hi
      have ha:ju[i]?=some (ju[i]'hia):=eP hia
      rw[fS,ha,hacc.2 i _ ha]
     ·rw[bD (by rw[eF,hacc.1];omega),bD #[0]]
    rw[e];exact hp
  cases hb:vB w with
  |true=>exact kQ ((pickOrder (w.params.setOrder S ep) es).toList.map (·.2)) (fun _=>0) rfl ((F3 _ _).map _) fun s i hS' hi A Q' E' y=>F6 hb hS' y
  |false=>
   have h1:es.size<=1:=by
    rcases KG.2 with z|z
    ·omega
    ·rw[hb,z]at hdr;simp at hdr;omega
   have QH:t.led=true:=KG.1.resolve_left (by rw[hb];exact eU)
   exact kQ (es.toList.map (·.2)) (fun i=>if i=0 then 0 else t.place.getD 0 0+1) rfl (iS _) fun s i hS' hi A Q' E' y=>Hq hb hS' QH h1 hi y
end
section
variable{w:World}
theorem Hs{S:Addr}{Q:Bool->Shared->Prop}(T:s.TypeIs (.ref S) "set")(q:Q false s):wpAny #[6] A (Builtin.List.listLengthHint (.ref S)) Q E s:=by
 unfold Builtin.List.listLengthHint
 refine af (wpAny_specialOf T PySem.F.slot_set_len.lookup ?_)
 generalize hid:("set.__len__":String)=id0
 wp_delta
 rw[show splitId id0=some ("set","__len__")from by subst hid;decide +kernel]
 subst hid
 refine af (gX (T:="set") (b:=true) T (by rw[eD];kernel_rfl) ?_)
 refine pO (fun y=>absurd y #[3]) (fun _=>pO (fun _=>?_) (fun y=>absurd (by decide +kernel) y))
 exact af (i' T (ay q))
theorem Bn{S:Addr}{es:Array (Int×Value)}{t:SetTable}{Q:List Value->Shared->Prop}(hS:ky w s.heap S es ep t)(KG:ET w es.size t)(AZ:es.size<=sizeLine)(hh:A.handled=none)
  (q:∀(g:Heap) (d:Drawn) (tk:Nat) (vs:List Value),(∀b o,s.heap.get? b=some o->g.get? b=some o)->vs.Perm (es.toList.map (·.2))->Q vs { s with heap:=g,drawn:=d,toks:=tk }):wpAny #[6] A (collect (.ref S)) Q E s:=by
 obtain⟨o,ho,zn,hd⟩:=hS.ex
 have hSlt:=aJ ho
 unfold collect
 refine af (qI (dy entry_proto_collect' ?_))
 rw[c5 PySem.F.plain_proto_collect _]
 show wpAny _ A.in1 (newList [] >>= fun l=>again (.builtin "list.__iadd__" ⟨[l,.ref S],[]⟩)) _ _ s
 refine af (cC (ay ⟨fG PySem.F.plain_list_iadd _,dy entry_list_iadd' ?_⟩))
 rw[c5 PySem.F.plain_list_iadd _]
 generalize hL:s.heap.objs.size=L
 have gL:(s.heap.push { cls:=.type "list",data:=.seq ([]:List Value).toArray }).get? L=some { cls:=.type "list",data:=.seq #[] }:=by rw[<- hL];exact aC _ rfl
 have hS1:ky w (s.heap.push { cls:=.type "list",data:=.seq ([]:List Value).toArray }) S es ep t:=hS.keep fun o e=>aw _ e
 have z1:(s.heap.push { cls:=.type "list",data:=.seq ([]:List Value).toArray }).objs.size=L+1:=by rw[bw,hL]
 have kp1:∀b o,s.heap.get? b=some o->(s.heap.push { cls:=.type "list",data:=.seq ([]:List Value).toArray }).get? b=some o:=fun b o e=>aw _ e
 have bL:∀b o,s.heap.get? b=some o->b≠L:=fun b o e=>by rw[<- hL];exact a9 (aJ e)
 generalize s.heap.push { cls:=.type "list",data:=.seq ([]:List Value).toArray }=h1 at gL hS1 z1 kp1 ⊢
 have Fw:L≠S:=by rw[<- hL];exact et hSlt
 obtain⟨o1,ho1,hex1,hd1⟩:=hS1.ex
 have T:Shared.TypeIs { s with heap:=h1 } (.ref S) "set":=⟨o1,ho1,hex1.1⟩
 show wpAny _ A.in1 (Builtin.List.listExtendWith (.ref L) (.ref S) (.ref L)) _ _ _
 unfold Builtin.List.listExtendWith
 refine af (i' (T:="set") T ?_)
 have e1:Builtin.List.listSameRef (.ref L) (.ref S)=false:=by simp[Builtin.List.listSameRef,Fw]
 have e2:(Value.type "set" == Value.type "list")=false:=by decide
 have e3:(Value.type "set" == Value.type "tuple")=false:=by decide
 simp only[e1,e2,e3,nG,fP,gW]
 refine af (Hr (s:={ s with heap:=h1 }) hS1 KG AZ fun g d it fp P St W st qE T9 hfl kp2 hperm=>?_)
 have gL2:=kp2 _ _ gL
 have hLf:L∉fp:=fun hm=>by
  rcases T9 L hm with y|y
  ·exact Fw y
  ·rw[show Shared.heap { s with heap:=h1 }=h1 from rfl,z1]at y;exact absurd y (Nat.not_le.mpr (cb _))
 obtain⟨o2,ho2,hex2,hd2⟩:=(hS1.keep fun o e=>kp2 S o e).ex
 refine af (dv (Hs (s:={ s with heap:=g,drawn:=d }) ⟨o2,ho2,hex2.1⟩ ?_))
 have itL:it≠L:=fun y=>by
  have:=qE
  rw[show Shared.heap { s with heap:=h1 }=h1 from rfl,z1,y]at this
  exact absurd this (Nat.not_le.mpr (cb _))
 have old:∀b o,s.heap.get? b=some o->b≠it:=fun b o e y=>by
  have h2:=aJ (kp1 b o e)
  have h3:=qE
  rw[show Shared.heap { s with heap:=h1 }=h1 from rfl]at h3
  rw[y]at h2
  exact absurd h2 (jI.mpr h3)
 have key:∀(g':Heap) (c tk:Nat),St 0 g'->(∀b o,b≠L->g.get? b=some o->g'.get? b=some o)->g'.get? L=some { cls:=.type "list",data:=.seq #[] c } ->
   codeAny #[6] A (.builtin "list.extend.loop" ⟨[.ref L,.ref it,.ref L],[]⟩) (wants (fun r s'=>wpAny #[6] A (match r with|.ref a=>(do match (<- load a).data with|.seq xs _=>pure xs.toList|_=>unsupported "internal:collect")|_=>unsupported "internal:collect") Q E s') E) { s with heap:=g',drawn:=d,toks:=tk }:=by
  intro g' c tk bg kp3 gL3
  refine codeAny_extend_loopS (W A.in1 (by simpa using hh)).toS AZ L hLf (.ref L) es.size 0 _ #[] c rfl (bY _) bg gL3 (ItemsOf.nil _) fun s' ju c' hm gL4 hacc=>?_
  have ee:s'={ s with heap:=s'.heap,drawn:=d,toks:=s'.toks }:=by
   have h1:=hm.gens
   have h2:=hm.drawn
   have h3:=hm.os
   cases s'
   simp only at h1 h2 h3
   subst h1;subst h2;subst h3;rfl
  refine af (wpAny_load gL4 (ay ?_))
  rw[ee]
  refine q s'.heap d s'.toks ju.toList (fun b o e=>hm.heap b o (fun y=>?_) (kp3 b o (bL b o e) (kp2 b o (kp1 b o e)))) (hperm ju hacc)
  rcases aX.mp y with y|y
  ·exact bL b o e y
  ·exact old b o e (aZ.mp y)
 refine pO (fun _=>?_) (fun _=>ay ⟨fG PySem.F.plain_extend_loop _,key g 0 _ st (fun _ _ _ e=>e) gL2⟩)
 refine af (kU (af ?_))
 show wpAny _ _ (updateSeq L (·.push .none) >>= fun _=>updateSeq L (·.pop)) _ _ _
 refine af (pP gL2 rfl ?_)
 have g5:=dH (Obj.mapSeq (·.push Value.none)) gL2 rfl
 refine pP (hz:=by seq_fits) g5 rfl ?_
 have g6:=dH (Obj.mapSeq (·.pop)) g5 rfl
 refine ay ⟨fG PySem.F.plain_extend_loop _,key _ _ _ ((W A hh).frame 0 _ _ st fun b hb o e=>?_) (fun b o hb e=>?_) g6⟩
 ·have hbL:b≠L:=fun y=>hLf (y▸hb)
  exact(cM _ _ (Ne.symm hbL)).trans ((cM _ _ (Ne.symm hbL)).trans e)
 ·exact(cM _ _ (Ne.symm hb)).trans ((cM _ _ (Ne.symm hb)).trans e)
end
end L2
namespace L2
open PySem PySem.Spec PyProof.Rows
section
variable{w:World}
theorem Du{S:Addr}(z:ww prog w n s.heap S ks)(NN:ks.length<64)(hh:A.handled=none)
  (q:∀(g0 g1:Heap) (d:Drawn) (tk:Nat) (out:Array Value) (ss:List Str) (e:Nat),(∀b o,s.heap.get? b=some o->g0.get? b=some o)->(∀b o,g0.get? b=some o->g1.get? b=some o)->g1.get? g0.objs.size=some (seqObj "list" out e) ->
   jl n out.toList->StrsAre out.toList ss->ss.Perm ks->sortedS ss=true->Q (.ref g0.objs.size) { s with heap:=g1,drawn:=d,toks:=tk }):wpAny #[6] A (call (.builtin "sorted") [.ref S]) Q E s:=by
 obtain⟨o,es,ep,t,ho,zn,hd,hel,hp,hb,hf,KG,hta⟩:=z
 have hS:ky w s.heap S es ep t:=⟨⟨o,ho,zn,hd⟩,hf⟩
 have gB:es.size=ks.length:=by have:=hp.length_eq;simpa using this
 apply mT kind_sorted plain_sorted entry_sorted (args_sorted1 _)
 show wpAny _ _ (checkCount "sorted" 1 1 _ >>= _) _ _ _
 refine af (ay (af (Bn hS KG (by rw[lq];omega) (by simpa using hh) fun g d tk vs kp pv=>?_)))
 have hv:∀v∈vs,∃x t,v=Value.str x t:=fun v hv=>by
  obtain⟨e,he,rfl⟩:=c7.mp (pv.mem_iff.mp hv)
  obtain⟨t,ht⟩:=Bg hel e he
  exact⟨_,t,ht⟩
 have oZ:=strsAre_map vs hv
 have hks:(vs.map strOf).Perm ks:=by
  refine(pv.map strOf).trans ?_
  rw[cn];exact hp
 have hvl:vs.length<64:=by have:=hks.length_eq;rw[aE]at this;omega
 refine af (wpAny_newList ?_ (by rw[lq];omega))
 have oL:(g.push (seqObj "list" vs.toArray 0)).get? g.objs.size=some (seqObj "list" vs.toArray 0):=aC _ rfl
 refine af (dv (cm slot_list_sort ⟨_,oL,rfl⟩ entry_list_sort (list_sort_treeK rS oL oZ.keysOf (fun a b r e=>ue (by rw[<- e];exact oZ)) hvl fun st a1 a2=>⟨_,rfl,?_⟩) (args_list_sort _)))
 obtain⟨ss,h1,h2,h3⟩:=qH oZ a1 a2
 obtain⟨e,he⟩:=sortedHeap_at (out:=(arrOf st).map (·.2)) oL
 refine ay ⟨_,rfl,q g _ d tk _ ss e kp (fun b o hb=>?_) he (fun x t hx=>hta x t (pv.mem_iff.mp (wu a1 _ hx))) h1 (h2.trans hks) h3⟩
 rw[sortedHeap_old (a9 (aJ hb)) (by rw[bw];exact cW (aJ hb))]
 exact aw _ hb
abbrev RY(ty:String)(x:Str)(t:Tok):Obj:={ cls:=.type ty,data:=.fields #[.str x t,.int 0 0] }
theorem Ht{t:Tok}(yp:0<s.toks)(hh:A.handled=none)(hb:l.length+1<scanBound)
  (q:∀g tk,s.toks<=tk->Mu prog w tk (fun j=>tx [l.getD j 0]) g s.heap.objs.size l.length->(∀b o,s.heap.get? b=some o->g.get? b=some o)->Q (.ref s.heap.objs.size) { s with heap:=g,toks:=tk }):wpAny #[6] A (call (.type "set") [.str (tx l) t]) Q E s:=by
 have z:(s.heap.push (d6 w)).objs.size=s.heap.objs.size+1:=bw ..
 have hn:(tx l).cps.size=l.length:=by simp[tx]
 have CK:∀i v,SignAt (tx l) i v->∃t,v=Value.str (tx [l.getD i 0]) t:=by
  rintro i v ⟨c,u,hc,rfl⟩
  have:l[i]?=some c:=by simpa[tx]using hc
  exact⟨u,by rw[aI,this];rfl⟩
 have hT:Shared.TypeIs { s with heap:=s.heap.push (d6 w) } (.str (tx l) t) "str":=mH _ _ _
 rw[<- hn]at hb q
 cases ha:(tx l).cps.all (· < 128)
 ·refine nq (T:="str") (fp:=fun it=>[it]) (P:=SignAt (tx l)) (St:=fun it i h=>h.IsStrIter it "str_iterator" (tx l) t i) hT (by rw[eD];kernel_rfl) (by rw[eD];kernel_rfl) #[3]
   (fun A E Q y=>m_ ha (by show Q (.ref (s.heap.push (d6 w)).objs.size) _;rw[z];exact y)) (fun A it hA _=>Walks.strWide hA it (tx l) t) #[15] ⟨RY "str_iterator" (tx l) t,?_,rfl,rfl⟩ CK hh hb (fun A hA i s' Q E hn hi st q=>by
    obtain⟨c,hx⟩:∃c,(tx l).cps[i]?=some c:=⟨_,eP hi⟩
    refine kh st hx fun h' bg hs=>q _ h' (s'.toks+1) (bn _) (fun x u hx' _=>?_) ⟨c,_,hx,rfl⟩ bg fun b o hb e=>hs.extBut b o (fun z=>hb (by simp[z])) e
    rw[aZ]at hx'
    cases hx'
    exact⟨aL yp hn,cb _⟩) q
  rw[<- z];exact aC _ rfl
 ·refine nq (T:="str") (fp:=fun it=>[it]) (P:=SignAt (tx l)) (St:=fun it i h=>h.IsStrIter it "str_ascii_iterator" (tx l) t i) hT (by rw[eD];kernel_rfl) (by rw[eD];kernel_rfl) #[3]
   (fun A E Q y=>mI ha (by show Q (.ref (s.heap.push (d6 w)).objs.size) _;rw[z];exact y)) (fun A it hA _=>Walks.strAscii hA it (tx l) t) #[15] ⟨RY "str_ascii_iterator" (tx l) t,?_,rfl,rfl⟩ CK hh hb (fun A hA i s' Q E hn hi st q=>by
    obtain⟨c,hx⟩:∃c,(tx l).cps[i]?=some c:=⟨_,eP hi⟩
    refine jS st hx fun h' bg hs=>q _ h' (s'.toks+1) (bn _) (fun x u hx' _=>?_) ⟨c,_,hx,rfl⟩ bg fun b o hb e=>hs.extBut b o (fun z=>hb (by simp[z])) e
    rw[aZ]at hx'
    cases hx'
    exact⟨aL yp hn,cb _⟩) q
  rw[<- z];exact aC _ rfl
theorem Lm{a:Addr}(hh:A.handled=none)(hb:l.length+1<scanBound)(ht:s.heap.IsTuple a bN.toArray)(hv:cK s.toks (jX l) bN)
  (q:∀g tk,s.toks<=tk->Mu prog w tk (fun j=>tx [l.getD j 0]) g s.heap.objs.size l.length->(∀b o,s.heap.get? b=some o->g.get? b=some o)->Q (.ref s.heap.objs.size) { s with heap:=g,toks:=tk }):wpAny #[6] A (call (.type "set") [.ref a]) Q E s:=by
 have z:(s.heap.push (d6 w)).objs.size=s.heap.objs.size+1:=bw ..
 have hn:bN.toArray.size=l.length:=by have:=hv.length;unfold jX at this;simpa using this.symm
 have ha:a<s.heap.objs.size:=by obtain⟨o,ho,_⟩:=ht;exact aJ ho
 have Q7:(s.heap.push (d6 w)).IsTuple a bN.toArray:=ht.at fun o e=>aw _ e
 have CK:∀i v,bN.toArray[i]?=some v->∃t,v=Value.str (tx [l.getD i 0]) t:=by
  intro i v hi
  have hi':bN[i]?=some v:=by simpa using hi
  have hlt:i<l.length:=by
   have:=(ax.mp hi').1
   rw[<- hn];simpa using this
  have hx:(jX l)[i]?=some (.str (tx [l.getD i 0])):=by
   unfold jX
   rw[aG,aj hlt,aI,aj hlt];rfl
  obtain⟨u,hu,t,e⟩:=hv.get hx
  rw[hi']at hu
  exact⟨t.1,(bf hu).trans e⟩
 rw[<- hn]at hb q
 refine nq (T:="tuple") (fp:=fun it=>[it,a]) (P:=fun i v=>bN.toArray[i]?=some v) (St:=fun it i h=>h.IsTupleIter it a i/\h.IsTuple a bN.toArray) Q7.typeIs (by rw[eD];kernel_rfl) (by rw[eD];kernel_rfl) #[3]
  (fun A E Q y=>fN Q7 (by show Q (.ref (s.heap.push (d6 w)).objs.size) _;rw[z];exact y)) (fun A it hA e=>Walks.tuple hA it a (by rw[e];exact a9 (cW ha)) bN.toArray) (by simp;exact fun e=>absurd ha (by rw[<- e];exact dJ _)) ⟨⟨{ cls:=.type "tuple_iterator",data:=.fields #[.ref a,.int 0 0] },?_,rfl,rfl⟩,?_⟩ CK hh hb (fun A hA i s' Q E hn hi st q=>by
   refine up ((Walks.tuple hA #[7] a (a9 (cW ha)) bN.toArray).item i s' _ _ hi st fun v h' tk hp bg kp ml=>q v h' tk ml (fun x u hx=>?_) hp bg kp)
   rw[aZ]at hx
   subst hx
   exact((sR hv).up (aN hn ml)) x u (by have hp:bN.toArray[i]?=some _:=hp;exact cy (by simpa using hp))) q
 ·rw[<- z];exact aC _ rfl
 ·exact Q7.at fun o e=>aw _ e
end
theorem Ln{ss:List Str}(hp:ss.Perm ks)(VF:ks.Nodup)(hm:∀x,x∈ks↔∃j,j<l.length/\tx [l.getD j 0]=x)(hs:sortedS ss=true) :
  ∃m:List Nat,ss=m.map (fun c=>tx [c])/\m.Nodup/\m.Pairwise (· <= ·)/\∀c,c∈m↔c∈l:=by
 have all:∀z∈ss,tx [z.cps.toList.headD 0]=z:=fun z hz=>by
  obtain⟨j,_,e⟩:=(hm z).mp (hp.mem_iff.mp hz)
  subst e;rfl
 have em:ss=(ss.map fun z=>z.cps.toList.headD 0).map fun c=>tx [c]:=by
  rw[cn]
  conv=>lhs;rw[<- jT ss]
  exact fx fun z hz=>(all z hz).symm
 refine⟨ss.map fun z=>z.cps.toList.headD 0,em,?_,?_,fun c=>?_⟩
 ·have nd:ss.Nodup:=hp.nodup_iff.mpr VF
  rw[em]at nd
  exact List.Pairwise.of_map (fun c=>tx [c]) (fun a b h e=>h (by rw[e])) nd
 ·refine Bd _ ?_
  rw[cn]
  rw[em]at hs
  exact hs
 ·constructor
  ·intro hc
   obtain⟨z,hz,rfl⟩:=c7.mp hc
   obtain⟨j,hj,e⟩:=(hm z).mp (hp.mem_iff.mp hz)
   subst e
   show l.getD j 0∈l
   rw[aI,aj hj]
   exact dR hj
  ·intro hc
   obtain⟨j,hj,e⟩:=List.getElem_of_mem hc
   refine c7.mpr ⟨tx [c],hp.mem_iff.mpr ((hm _).mpr ⟨j,hj,?_⟩),rfl⟩
   rw[aI,aj hj,e];rfl
def Lo(K:Frag)(H:Hp)(v:V)(l:List Nat):Prop:=v=.str (tx l)\/∃a,v=.ref a/\gy K H a (jX l)
def Hu(K:Frag)(te:TE):TE:=fun σ H Q=>te σ H fun v H1=>∃l,Lo K H1 v l/\l.length<4000/\(∀m:List Nat,m.Nodup->(∀c∈m,c∈l)->m.length<64) /\
 ∀m:List Nat,m.Nodup->m.Pairwise (· <= ·)->(∀c,c∈m↔c∈l)->∀a H2,H1 a=none->H2=fU H1 a (.lst (m.map fun c=>V.str (tx [c])))->Q (.ref a) H2
theorem bH.kept2{d':Drawn}(I:bH X ak σ H s)(k:∀b o,s.heap.get? b=some o->h'.get? b=some o)(hk:s.toks<=t':=by first|exact aA _|exact bn _|assumption|omega):bH X ak σ H { s with heap:=h',drawn:=d',toks:=t' }:=
 I.step (g':=s.gens) (ch:=[]) (fun _ z=>nomatch z) (fun b o _ _ _ e _=>k b o e) (fun b o _ _ _ e _=>⟨o.slots,k b o e⟩) (fun _ _ _ _ n=>n) (fun b o _ e=>⟨o,k b o e⟩) (fun _ _ e=>e) (fun _ _ _ e=>e) (fun b ps e=>⟨#[],by rw[e];simp⟩)
  (fun m hm=>let ⟨o,es,ep,ho,r⟩:=hm;⟨o,es,ep,k _ o ho,r⟩) ((I.hok.kept k).up hk) I.bare hk
theorem F7{p1 p2 QW Mf:Pos}(h1:X.mg "sorted"=none)(h3:X.mg "set"=none)(he:QE X e te)(hc:X.calm=true:=by rfl)
  (VG:Gl X "sorted":=by rfl) (VM:Gl X "set":=by rfl) (UL:starEach [e] X.env=(false,eval e X.env)::starEach [] X.env:=by rfl):QE X (.Call (.Name "sorted" p1) [.Call (.Name "set" p2) [e] [] Mf] [] QW) (Hu X.K te):=⟨by
 intro ak s σ H Q I h
 refine fQ (p5 I VG h1 PyProof.Rows.boot_sorted (kS ?_) #[3] #[3])
 show wpAny _ _ (spliced ((false,eval (.Call (.Name "set" p2) [e] [] Mf) X.env)::[])) _ _ s
 refine fO (fQ (p5 I VM h3 PyProof.Rows.boot_set (dS ?_ UL rfl) #[3] #[3]))
 rw[UL]
 show wpAny _ _ (spliced ((false,eval e X.env)::[])) _ _ s
 refine fO (kr (he.h ak s σ H _ I h) fun u s1 kt1 ⟨v,H1,I1,r1,l,hl,hb,NN,q⟩=>iH ?_)
 have hh:X.A.handled=none:=I1.ok.hd hc
 have hb':l.length+1<scanBound:=by unfold scanBound;omega
 have kQ:∀g tk,s1.toks<=tk->Mu X.prog X.w tk (fun j=>tx [l.getD j 0]) g s1.heap.objs.size l.length->(∀b o,s1.heap.get? b=some o->g.get? b=some o) ->
   wpAny #[4] X.A (spliced []) (fun vs s₂=>wpAny #[4] X.A (call (.builtin "sorted") (.ref s1.heap.objs.size::vs)) (EP X ak σ Q) X.xe s₂) X.xe { s1 with heap:=g,toks:=tk }:=fun g tk ml hM kp=>by
  refine iH ?_
  obtain⟨ks,z,nd,mem,len⟩:=hM
  have sD:ks.length<64:=by
   obtain⟨m,em,mn,_,mm⟩:∃m:List Nat,ks=m.map (fun c=>tx [c])/\m.Nodup/\True/\∀c∈m,c∈l:=by
    have all:∀z∈ks,tx [z.cps.toList.headD 0]=z:=fun z hz=>by
     obtain⟨j,_,e⟩:=(mem z).mp hz
     subst e;rfl
    have em:ks=(ks.map fun z=>z.cps.toList.headD 0).map fun c=>tx [c]:=by
     rw[cn]
     conv=>lhs;rw[<- jT ks]
     exact fx fun z hz=>(all z hz).symm
    refine⟨_,em,?_,trivial,fun c hc=>?_⟩
    ·have nd':=nd
     rw[em]at nd'
     exact List.Pairwise.of_map (fun c=>tx [c]) (fun a b h e=>h (by rw[e])) nd'
    ·obtain⟨z,hz,rfl⟩:=c7.mp hc
     obtain⟨j,hj,e⟩:=(mem z).mp hz
     subst e
     show l.getD j 0∈l
     rw[aI,aj hj]
     exact dR hj
   rw[em,aE]
   exact NN m mn mm
  refine up (Du z sD hh fun g0 g1 d QK out ss ep k0 k1 gL hta oZ hperm hsrt hle2=>?_)
  have hle2:tk<=QK:=hle2
  have hle3:s1.toks<=QK:=aN ml hle2
  obtain⟨m,em,mn,mp,mm⟩:=Ln hperm nd mem hsrt
  have I2:bH X ak σ H1 { s1 with heap:=g0,drawn:=d,toks:=QK }:=I1.kept2 fun b o e=>k0 b o (kp b o e)
  have yu:H1 g0.objs.size=none:=I2.hok.fresh (aA _)
  have hvals:cK QK (m.map fun c=>V.str (tx [c])) out.toList:=by
   have e:=oq oZ (hta.up hle2)
   rw[em,cn]at e
   exact e
  refine⟨.ref g0.objs.size,_,I2.laid (o:=.lst (m.map fun c=>V.str (tx [c]))) (t':=QK) k1 (aA _) ?_,rfl,q m mn mp mm _ _ yu rfl⟩
  refine⟨?_,out.toList,ep,hvals,gL⟩
  rw[aE]
  exact aN (gn (NN m mn fun c hc=>(mm c).mp hc)) #[3]
 rcases hl with rfl|⟨a,rfl,hT⟩
 ·obtain⟨t,rfl⟩:=r1
  exact Ht I1.pos hh hb' kQ
 ·cases r1
  obtain⟨bN,rv,ht,_⟩:=I1.tuple hT
  exact Lm hh hb' ht rv kQ⟩
end L2
namespace L2
open PySem PySem.Spec PyProof.Rows
section
variable{w:World}
end
section
variable{wi:TI}{g:TG}{tc:TT}
theorem Dv{x0:Str}{p0 p1:Pos}{gx:TG}(NH:PG X (.Name x0 p0) gx)(TX:swapsWith #[11] (some (.Name x0 p0)) p1.line X.env=pure true)(kB:X.calm=true)(xP:closureFor scope X.env=pure cl)(CP:∀x c,cl.lookup x=some c->X.env.cells.lookup x=some c)
  (kA:scope.kind=.function) (sJ:∀x∈scope.names,x.2=.local->scope.names.lookup x.1=some .local) (iE:∀y∈scope.names,y.2≠.cell)
  (EB:∀x,#[13]->∃c,cl.lookup x=some c)
  (vO:∀(i j:Nat),cap[i]?=some (some j)->∃x,nm[i]?=some x/\X.N[j]?=some x/\wg X scope cl x) (gB:cap.length=nm.length)
  (hi:PI X tg ec wi) (hg:∀C s0 H0 fp,PG #[10] tg g) (ht:∀C s0 H0 fp,Hc #[10] oo tc)
  (he:∀C s0 H0 fp,PE #[10] sI te) (hs:∀x,foldedSetIterable ec X.env x=pure x:=by intro _;rfl) :
  PS X (.Assign [.Name x0 p0] #[11] p1) (GY (wf cap wi g tc te) gx):=by
 intro ak s σ H D I h
 rw[exec_Assign_Name_used _ _ _ _ TX]
 suffices main:wpAny #[4] X.A (comprehension #[11] scope X.env (firstIterPos [⟨tg,ec,oo,0⟩] pos) (newList []) (firstAsync [⟨tg,ec,oo,0⟩]) (firstIter [⟨tg,ec,oo,0⟩] X.env) (some (assign (.Name x0 p0) X.env))) (fun _ s'=>SP X ak D .next s') X.xe s from
  af (rQ (af (af (jF main (fun _ s' h=>ay (ay h)) fun _ _ z=>z))))
 refine yH kB xP CP kA sJ iE EB vO gB hi hg ht he hs I h fun s4 C D m4 Hn I4 B q=>?_
 obtain⟨oC,es,ep,hoC,hdC,hrC⟩:=B.ns
 refine jF (NH _ s4 σ _ (.ref D) (.ref D) _ (I4.pins_of (pins':=ak++[(C,oC)]) fun p hp=>?_) rfl q) (fun _ s5 h5=>?_) fun _ _ z=>z
 ·rcases aV.mp hp with z|z
  ·exact I4.pin p (aP _ z)
  ·have e:p=(C,oC):=by simpa using z
   subst e
   exact⟨hoC,B.fr,B.nl,B.nf,fun v z=>by rw[hdC]at z;cases z⟩
 obtain⟨σ',H',I6,nx⟩:=h5
 have pC:=I6.pin (C,oC) (aP _ (aP _ (aZ.mpr rfl)))
 have I7:bH X ak σ' H' s5:=I6.pins_of fun p hp=>I6.pin p (aP _ (bA _ hp))
 have B7:A' X ak H' s5 C m4:=⟨⟨oC,es,ep,pC.1,hdC,hrC⟩,pC.2.1,B.nl,B.nf,B.hi,B.nc,B.np⟩
 exact⟨m4,B7.ns,fun h' hs'=>⟨σ',H',B7.off I7 hs',nx⟩⟩
end
theorem Dw{x0:Str}{p0 p1:Pos}{gx:TG}{pos:Pos}{wi:TI}{g:TG}{tc:TT}{m:Nat}(NH:QG X (.Name x0 p0) gx)(kB:X.calm=true)
  (sK:X.env.cells=cellsFrom m X.env.scope.names []) (kA:scope.kind=.function) (hB:FZ X.env.scope.names scope.names nm cap X.N=true)
  (hi:QI X tg ec wi) (hg:∀cl C s0 H0 fp,QG #[10] tg g) (ht:∀cl C s0 H0 fp,Ve #[10] oo tc)
  (he:∀cl C s0 H0 fp,QE #[10] sI te) (hs:∀x,foldedSetIterable ec X.env x=pure x:=by intro _;rfl) (TX:swapsWith #[11] (some (.Name x0 p0)) p1.line X.env=pure true:=by first|rfl|kernel_rfl) :
  QS X (.Assign [.Name x0 p0] #[11] p1) (GY (wf cap wi g tc te) gx):=by
 have F:=RX (nm:=nm) (cap:=cap) (fun x z=>by rw[sK];exact nM z) hB
 exact⟨Dv NH.h TX kB F.clos F.cl kA F.nms F.cell F.has F.cp F.len hi.h (fun C s0 H0 fp=>(hg _ C s0 H0 fp).h) (fun C s0 H0 fp=>(ht _ C s0 H0 fp).h) (fun C s0 H0 fp=>(he _ C s0 H0 fp).h) hs⟩
def RZ:List V->Hp->VK->Prop:=fun xs H Q=>∃c:Nat,xs=[.str (tx [48+c])]/\c<=3/\Q (.int c) H
theorem OK:Mt X (.type "int") RZ:=⟨by
 intro ak s σ H xs us Q I r h
 obtain⟨i,rfl,hi,q⟩:=h
 obtain⟨u,rfl,t,rfl⟩:=p6 r
 have e:PySem.intText? (tx [48+i])=some (i:Int):=by
  rcases(show i=0\/i=1\/i=2\/i=3 by omega)with rfl|rfl|rfl|rfl<;>decide +kernel
 exact PySem.W.KIN.call_text e (by show 1<=640;decide) ⟨.int i,H,I.tok _,⟨_,rfl⟩,q⟩⟩
open AutoSeq1 (wpAny_loadPart')
theorem Hv(l b:Addr)(i1 i2:Array Value)(n1 n2:Nat)(d1 d2:Option Addr)(s1 s2:Array (Option Value))(h0:i1.isEmpty=true) :
  Meets (Builtin.«tuple.__add__» ⟨[.ref l,.ref b],[]⟩) (fun _ R s=>s.heap.get? l=some { cls:=.type "tuple",dict:=d1,data:=.seq i1 n1,slots:=s1 }/\s.heap.get? b=some { cls:=.type "tuple",dict:=d2,data:=.seq i2 n2,slots:=s2 }/\R (.ok (.ret (.ref b))) s):=
 .of_wp fun prog w A R s h=>by
  obtain⟨hp,g,d,tk,os⟩:=s
  obtain⟨e1,e2,h⟩:=h
  have a2:=PyProof.Rows.sub_tuple_tuple
  wp_walk using dw e1,dw e2
  exact⟨_,rfl,h⟩
def R0(K:Frag):R2:=fun x y H Q=>∃a b xs ys,x=.ref a/\y=.ref b/\gy K H a xs/\gy K H b ys/\xs.length+ys.length<=sizeLine/\∀p H2,vA H H2->gy K H2 p (xs++ys)->Q (.ref p) H2
theorem OL:VW X (binaryOp .Add) (R0 X.K):=⟨by
 intro ak s σ H x y v u Q I rx ry h
 obtain⟨a,b,xs,ys,rfl,rfl,ha,hb,hz,q⟩:=h
 by_cases hx:xs=[]
 ·subst hx
  cases rx
  cases ry
  obtain⟨bN,r1,p1,_⟩:=I.tuple ha
  obtain⟨its2,r2,p2,_⟩:=I.tuple hb
  have e1:bN=[]:=r1.nil_iff.mpr rfl
  obtain⟨⟨c1,d1,g1,l1⟩,f1,hc1,n1,hd1⟩:=id p1
  obtain⟨⟨c2,d2,g2,l2⟩,f2,hc2,n2,hd2⟩:=id p2
  simp only at hc1 hd1 hc2 hd2
  subst hc1 hd1 hc2 hd2
  refine t_ ⟨_,f1,rfl⟩ ⟨_,f2,rfl⟩ og rR PySem.F.slot_tuple_add PySem.F.entry_tuple_add (PySem.F.args_tuple_add_2 _ _) (Hv a b bN.toArray its2.toArray n1 n2 d1 d2 l1 l2 (by rw[e1];rfl)) ⟨f1,f2,?_⟩
  exact⟨.ref b,H,I,rfl,q b H (vA.refl H) hb⟩
 ·exact K9 ak s σ H _ _ v u Q I rx ry ⟨a,b,xs,ys,rfl,rfl,ha,hb,hx,hz,fun e=>q a H (vA.refl H) (by rw[e,a8];exact ha),fun _ p hp=>q p _ (cS hp _) (gy.of ia)⟩⟩
end L2
namespace L2
open PySem PySem.Spec PyProof.Rows
inductive W where
 |non|bl (b:Bool)|int (i:Int)|str (l:List Nat)|tup (ws:List W)|loc (n:Nat)
inductive DK where
 |i (z:Int)|s (l:List Nat)
deriving DecidableEq
def DK.key:DK->v8
 |.i z=>.inl z
 |.s l=>.inr (tx l)
inductive KX where
 |bo (b:Bool)|fl (ks:List Int)|pr (i:Int) (ks:List Int)
deriving DecidableEq
def KX.w:KX->W
 |.bo b=>.bl b
 |.fl ks=>.tup (ks.map W.int)
 |.pr i ks=>.tup [.int i,.tup (ks.map W.int)]
def Hw(ks:List Int):Int:=reduceHash (Builtin.Tuple.tupleHashOf (ks.map hashInt))
def KX.hash:KX->Int
 |.bo b=>hashInt (if b then 1 else 0)
 |.fl ks=>Hw ks
 |.pr i ks=>reduceHash (Builtin.Tuple.tupleHashOf [hashInt i,Hw ks])
inductive au where
 |lst (ws:List W)
 |ro (ws:List W)
 |exc (c:Str)
 |dct (g_:List (DK×W))
 |tab (P:Addr) (pos:Pos) (q:Str)
 |rod (g_:List (DK×W))
 |dcx (g_:List (KX×W))
 |rox (g_:List (KX×W))
 |obj (c:Str) (fs:List (Str×W))
 |pin (k:Bool) (c:Addr) (o:Obj) (w:W)
 |gone
abbrev nO:Nat:=1000000
theorem p8(h:n<=nO):n<=sizeLine:=aN h #[3]
theorem OM(h:n<=nO):n<sizeLine:=jG h #[3]
inductive R(α:Type) where
 |ok (a:α) (st:List au)
 |ex (c:Str) (st:List au)
 |bad
def R.bind:R α->(α->List au->R β)->R β
 |.ok a st,k=>k a st
 |.ex c st,_=>.ex c st
 |.bad,_=>.bad
@[simp] theorem R.bind_ok{α β:Type}(a:α)(st:List au)(k:α->List au->R β):(R.ok a st).bind k=k a st:=rfl
@[simp] theorem R.bind_ex{α β:Type}(c:Str)(st:List au)(k:α->List au->R β):(R.ex c st:R α).bind k=.ex c st:=rfl
@[simp] theorem R.bind_bad{α β:Type}(k:α->List au->R β):(R.bad:R α).bind k=.bad:=rfl
abbrev cV:=List (Option W)
inductive RS where
 |nx (ρ:cV) (st:List au)|rt (w:W) (st:List au)|bk (ρ:cV) (st:List au)|ct (ρ:cV) (st:List au)
 |ex (c:Str) (ρ:cV) (st:List au)|bad
abbrev FE:=cV->List au->R W
abbrev FT:=cV->List au->R Bool
abbrev FA:=cV->List au->R (List W)
abbrev FS:=cV->List au->RS
section
variable(K:Frag)
mutual
def bM(μ:List Addr)(H:Hp):W->V->Prop
 |.non,v=>v=.non
 |.bl b,v=>v=.bl b
 |.int i,v=>v=.int i
 |.str l,v=>v=.str (tx l)
 |.tup ws,v=>∃p vs,v=.ref p/\gy K H p vs/\RelWs μ H ws vs
 |.loc n,v=>∃a,μ[n]?=some a/\v=.ref a
def RelWs(μ:List Addr)(H:Hp):List W->List V->Prop
 |[],vs=>vs=[]
 |w::ws,vs=>∃x xs,vs=x::xs/\bM μ H w x/\RelWs μ H ws xs
end
end
theorem pre_get(h:μ <+: μ'){a:Addr}(e:μ[n]?=some a):μ'[n]?=some a:=by
 obtain⟨t,rfl⟩:=h
 rw[aR (ax.mp e).1];exact e
section
mutual
theorem bM.mono(h:μ <+: μ')(e:fE K H H'):∀{w:W} {v:V},bM K μ H w v->bM K μ' H' w v
 |.non,_,r=>by unfold bM at r ⊢;exact r
 |.bl _,_,r=>by unfold bM at r ⊢;exact r
 |.int _,_,r=>by unfold bM at r ⊢;exact r
 |.str _,_,r=>by unfold bM at r ⊢;exact r
 |.tup _,_,r=>by unfold bM at r ⊢;obtain⟨p,vs,a,b,c⟩:=r;exact⟨p,vs,a,e _ _ b,RelWs.mono h e c⟩
 |.loc _,_,r=>by unfold bM at r ⊢;obtain⟨a,b,c⟩:=r;exact⟨a,pre_get h b,c⟩
theorem RelWs.mono(h:μ <+: μ')(e:fE K H H'):∀{ws:List W} {vs:List V},RelWs K μ H ws vs->RelWs K μ' H' ws vs
 |[],_,r=>by unfold RelWs at r ⊢;exact r
 |_::_,_,r=>by unfold RelWs at r ⊢;obtain⟨x,xs,a,b,c⟩:=r;exact⟨x,xs,a,bM.mono h e b,RelWs.mono h e c⟩
end
theorem RelWs.nilI:RelWs K μ H [] []:=by unfold RelWs;rfl
theorem RelWs.consI{w:W}{ws:List W}{x:V}(a:bM K μ H w x)(b:RelWs K μ H ws xs):RelWs K μ H (w::ws) (x::xs):=by unfold RelWs;exact⟨x,xs,rfl,a,b⟩
theorem RelWs.nilE(h:RelWs K μ H [] vs):vs=[]:=by unfold RelWs at h;exact h
theorem RelWs.consE{w:W}{ws:List W}(h:RelWs K μ H (w::ws) vs):∃x xs,vs=x::xs/\bM K μ H w x/\RelWs K μ H ws xs:=by unfold RelWs at h;exact h
theorem RelWs.pr:∀{ws:List W} {vs:List V},RelWs K μ H ws vs↔Paired (fun w v=>bM K μ H w v) ws vs
 |[],vs=>⟨fun h=>by rw[h.nilE];exact .nil,fun h=>by cases h;exact .nilI⟩
 |w::ws,vs=>⟨fun h=>by obtain⟨x,xs,rfl,a,b⟩:=h.consE;exact .cons a (RelWs.pr.mp b),fun h=>by cases h with|cons a b=>exact .consI a (RelWs.pr.mpr b)⟩
theorem RelWs.len{ws:List W}(h:RelWs K μ H ws vs):ws.length=vs.length:=Paired.length (RelWs.pr.mp h)
theorem RelWs.app:∀{as:List W} {xs:List V} {bs:List W} {ys:List V},RelWs K μ H as xs->RelWs K μ H bs ys->RelWs K μ H (as++bs) (xs++ys)
 |[],xs,bs,ys,a,b=>by rw[a.nilE];exact b
 |w::as,xs,bs,ys,a,b=>by obtain⟨x,xs,rfl,c,d⟩:=a.consE;exact .consI c (RelWs.app d b)
theorem RelWs.get:∀{ws:List W} {vs:List V} {i:Nat} {w:W},RelWs K μ H ws vs->ws[i]?=some w->∃v,vs[i]?=some v/\bM K μ H w v
 |[],_,_,_,_,e=>by simp at e
 |x::ws,vs,0,w,h,e=>by obtain⟨y,ys,rfl,a,b⟩:=h.consE;simp at e;subst e;exact⟨y,rfl,a⟩
 |x::ws,vs,i+1,w,h,e=>by obtain⟨y,ys,rfl,a,b⟩:=h.consE;simpa using RelWs.get (i:=i) b (by simpa using e)
theorem RelWs.take:∀{ws:List W} {vs:List V} (n:Nat),RelWs K μ H ws vs->RelWs K μ H (ws.take n) (vs.take n)
 |_,_,0,_=>by simp only[qJ];exact .nilI
 |[],vs,n+1,h=>by rw[h.nilE];exact .nilI
 |x::ws,vs,n+1,h=>by obtain⟨y,ys,rfl,a,b⟩:=h.consE;exact .consI a (RelWs.take n b)
theorem RelWs.drop:∀{ws:List W} {vs:List V} (n:Nat),RelWs K μ H ws vs->RelWs K μ H (ws.drop n) (vs.drop n)
 |_,_,0,h=>h
 |[],vs,n+1,h=>by rw[h.nilE];exact .nilI
 |x::ws,vs,n+1,h=>by obtain⟨y,ys,rfl,a,b⟩:=h.consE;exact RelWs.drop n b
theorem RelWs.setI:∀{ws:List W} {vs:List V} (i:Nat) {w:W} {v:V},bM K μ H w v->RelWs K μ H ws vs->RelWs K μ H (ws.set i w) (vs.set i v)
 |[],vs,_,_,_,_,h=>by rw[h.nilE];exact .nilI
 |x::ws,vs,0,w,v,r,h=>by obtain⟨y,ys,rfl,a,b⟩:=h.consE;exact .consI r b
 |x::ws,vs,i+1,w,v,r,h=>by obtain⟨y,ys,rfl,a,b⟩:=h.consE;exact .consI a (RelWs.setI i r b)
theorem bM.intE{i:Int}{v:V}(h:bM K μ H (.int i) v):v=.int i:=by unfold bM at h;exact h
theorem bM.blE{b:Bool}{v:V}(h:bM K μ H (.bl b) v):v=.bl b:=by unfold bM at h;exact h
theorem bM.nonE{v:V}(h:bM K μ H .non v):v=.non:=by unfold bM at h;exact h
theorem bM.strE{v:V}(h:bM K μ H (.str l) v):v=.str (tx l):=by unfold bM at h;exact h
theorem bM.tupE{ws:List W}{v:V}(h:bM K μ H (.tup ws) v):∃p vs,v=.ref p/\gy K H p vs/\RelWs K μ H ws vs:=by unfold bM at h;exact h
theorem bM.locE{v:V}(h:bM K μ H (.loc n) v):∃a,μ[n]?=some a/\v=.ref a:=by unfold bM at h;exact h
theorem bM.int{i:Int}:bM K μ H (.int i) (.int i):=by unfold bM;rfl
theorem bM.bl{i:Bool}:bM K μ H (.bl i) (.bl i):=by unfold bM;rfl
theorem bM.non:bM K μ H .non .non:=by unfold bM;rfl
theorem bM.str:bM K μ H (.str l) (.str (tx l)):=by unfold bM;rfl
theorem bM.tupI{ws:List W}{p:Addr}(a:gy K H p vs)(b:RelWs K μ H ws vs):bM K μ H (.tup ws) (.ref p):=by unfold bM;exact⟨p,vs,rfl,a,b⟩
theorem bM.locI{a:Addr}(e:μ[n]?=some a):bM K μ H (.loc n) (.ref a):=by unfold bM;exact⟨a,e,rfl⟩
end
def wA(a:Addr)(C:Value):HO:=.ext fun h=>∃o vs,h.get? a=some o/\o.cls=C/\o.data=.fields vs
def Bo(b:Addr)(q:Str):HO:=.ext fun h=>∃o vs t,h.get? b=some o/\o.data=.fields vs/\vs[1]?=some (.str q t)
def Uq(K:Frag)(H:Hp)(a:Addr)(xs:List V):Prop:=
 (∃o,H a=some (.frz o (.lst xs)))\/∃(o:Obj) (bN:Array Value) (n:Nat),K.lookup a=some o/\o.cls=.type "list"/\o.dict=none/\o.data=.seq bN n/\bN.size<=sizeLine/\cK 0 xs bN.toList
theorem Uq.sq{a:Addr}(h:Uq K H a xs):um K H a xs:=by
 rcases h with⟨o,h⟩|h
 ·exact .inl (.inr ⟨o,h⟩)
 ·exact .inr h
def au.isRo:au->Bool
 |.ro _=>true
 |.gone=>true
 |_=>false
def DX(a:Addr)(es:List DictEntry):Heap->Prop:=fun h=>∃o ep,h.get? a=some o/\o.ExactDict/\o.data=.dict es.toArray ep
abbrev VY(a:Addr)(es:List DictEntry):HO:=.ext (DX a es)
def Bp(K:Frag)(μ:List Addr)(H:Hp)(p:KX×W)(e:DictEntry):Prop:=e.hash=p.1.hash/\(∃v,bM K μ H p.1.w v/\dz 0 v e.key)/\∃v,bM K μ H p.2 v/\dz 0 v e.val
def Vh(a:Addr)(o:Obj):HO:=.ext fun h=>h.get? a=some o
def mY(K:Frag)(mg:Str->Option Value)(μ:List Addr)(H:Hp):au->Addr->Prop
 |.lst ws,a=>∃vs,H a=some (.lst vs)/\RelWs K μ H ws vs
 |.ro ws,a=>∃vs,Uq K H a vs/\RelWs K μ H ws vs
 |.exc c,a=>∃C,mg c=some C/\H a=some (wA a C)
 |.dct g_,a=>∃vs,H a=some (.dK ((g_.map fun p=>p.1.key).zip vs))/\RelWs K μ H (g_.map fun p=>p.2) vs
 |.rod g_,a=>∃vs o,H a=some (.frz o (.dK ((g_.map fun p=>p.1.key).zip vs)))/\RelWs K μ H (g_.map fun p=>p.2) vs
 |.dcx g_,a=>∃es,H a=some (VY a es)/\(a==sysModules)=false/\Paired (Bp K μ H) g_ es/\(g_.map fun p=>p.1).Nodup
 |.rox g_,a=>∃es o,H a=some (.frz o (VY a es))/\(a==sysModules)=false/\Paired (Bp K μ H) g_ es/\(g_.map fun p=>p.1).Nodup
 |.obj c fs,a=>∃C dx vs,mg c=some (.ref C)/\H a=some (.ins C dx ((fs.map fun p=>p.1).zip vs))/\RelWs K μ H (fs.map fun p=>p.2) vs
 |.tab P pos q,a=>a=P/\∃ps,H a=some (.tbl ps)/\TriplesOk ps.toList/\(codeAmong pos ps.toList=none\/∃c,codeAmong pos ps.toList=some (.ref c)/\H c=some (Bo c q))
 |.pin k c o w,a=>a=c/\H a=some (Vh a o)/\(k=false->∃fd cd,o.data=.func fd/\fd.code=.ref cd/\H cd=some (Bo cd fd.qualname))/\∃v,bM K μ H w v/\(k=true->∃u,o.data=.cell (some u)/\dz 0 v u)
 |.gone,_=>True
structure jC(K:Frag)(mg:Str->Option Value)(μ:List Addr)(st:List au)(H:Hp):Prop where
 nd:∀(i j:Nat) (a:Addr) (ci cj:au),st[i]?=some ci->st[j]?=some cj->ci.isRo=false->cj.isRo=false->μ[i]?=some a->μ[j]?=some a->i=j
 len:st.length=μ.length
 at':∀(i:Nat) (c:au) (a:Addr),st[i]?=some c->μ[i]?=some a->mY K mg μ H c a
section
variable{st:List au}
theorem Bp.mono(h:μ <+: μ')(x:fE K H H'){p:KX×W}{e:DictEntry}(r:Bp K μ H p e):Bp K μ' H' p e:=by
 obtain⟨a,⟨v,b,c⟩,u,d,g⟩:=r
 exact⟨a,⟨v,b.mono h x,c⟩,u,d.mono h x,g⟩
theorem mY.keep(h:μ <+: μ')(x:fE K H H'){c:au}{a:Addr}(e:∀o,H a=some o->H' a=some o)(e2:∀b q,H b=some (Bo b q)->H' b=some (Bo b q))(r:mY K mg μ H c a):mY K mg μ' H' c a:=by
 cases c with
 |lst ws=>obtain⟨vs,p,y⟩:=r;exact⟨vs,e _ p,y.mono h x⟩
 |ro ws=>
  obtain⟨vs,p,y⟩:=r
  refine⟨vs,?_,y.mono h x⟩
  rcases p with⟨o,p⟩|p
  ·exact .inl ⟨o,e _ p⟩
  ·exact .inr p
 |exc c=>obtain⟨C,p,y⟩:=r;exact⟨C,p,e _ y⟩
 |dct g_=>obtain⟨vs,p,y⟩:=r;exact⟨vs,e _ p,y.mono h x⟩
 |rod g_=>obtain⟨vs,o,p,y⟩:=r;exact⟨vs,o,e _ p,y.mono h x⟩
 |dcx g_=>obtain⟨es,p,d,y,z⟩:=r;exact⟨es,e _ p,d,Paired.imp' (fun _ _ q=>q.mono h x) y,z⟩
 |rox g_=>obtain⟨es,o,p,d,y,z⟩:=r;exact⟨es,o,e _ p,d,Paired.imp' (fun _ _ q=>q.mono h x) y,z⟩
 |obj c fs=>obtain⟨C,dx,vs,m,p,y⟩:=r;exact⟨C,dx,vs,m,e _ p,y.mono h x⟩
 |tab P pos q=>
  obtain⟨ea,ps,p,t,y⟩:=r
  refine⟨ea,ps,e _ p,t,?_⟩
  rcases y with y|⟨c,y,z⟩
  ·exact .inl y
  ·exact .inr ⟨c,y,e2 _ _ z⟩
 |pin k c o w=>obtain⟨ea,p,g,v,y,z⟩:=r;exact⟨ea,e _ p,fun q=>let ⟨fd,cd,q1,q2,q3⟩:=g q;⟨fd,cd,q1,q2,e2 _ _ q3⟩,v,y.mono h x,z⟩
 |gone=>trivial
theorem mY.ro_ne{c:au}{a:Addr}(r:mY K mg μ H c a)(h:c.isRo=false):∃o,H a=some o:=by
 cases c with
 |lst ws=>obtain⟨vs,p,y⟩:=r;exact⟨_,p⟩
 |ro ws=>cases h
 |exc c=>obtain⟨C,p,y⟩:=r;exact⟨_,y⟩
 |dct g_=>obtain⟨vs,p,y⟩:=r;exact⟨_,p⟩
 |rod g_=>obtain⟨vs,o,p,y⟩:=r;exact⟨_,p⟩
 |dcx g_=>obtain⟨es,p,_⟩:=r;exact⟨_,p⟩
 |rox g_=>obtain⟨es,o,p,_⟩:=r;exact⟨_,p⟩
 |obj c fs=>obtain⟨C,dx,vs,m,p,y⟩:=r;exact⟨_,p⟩
 |tab P pos q=>obtain⟨_,ps,p,_⟩:=r;exact⟨_,p⟩
 |pin k c o w=>obtain⟨_,p,_⟩:=r;exact⟨_,p⟩
 |gone=>cases h
theorem jC.same(S:jC K mg μ st H)(e:vA H H'):jC K mg μ st H':=⟨S.nd,S.len,fun i c a h1 h2=>(S.at' i c a h1 h2).keep (aq _) (gy.same e) (e a) fun b q h=>e b _ h⟩
theorem jC.get(S:jC K mg μ st H){c:au}(h:st[n]?=some c):∃a,μ[n]?=some a/\mY K mg μ H c a:=by
 have hn:n<μ.length:=by rw[<- S.len];exact(ax.mp h).1
 exact⟨μ[n],aj hn,S.at' n c _ h (aj hn)⟩
theorem jC.push(S:jC K mg μ st H){p:Addr}{o:HO}{c:au}(hp:H p=none)(hc:mY K mg (μ++[p]) (fU H p o) c p):jC K mg (μ++[p]) (st++[c]) (fU H p o):=by
 have hs:vA H (fU H p o):=cS hp o
 have CV:μ <+: μ++[p]:=a_ _ _
 have old:∀{i:Nat} {d:au} {a:Addr},i<st.length->(st++[c])[i]?=some d->(μ++[p])[i]?=some a->st[i]?=some d/\μ[i]?=some a:=fun{i d a} hi h1 h2=>by
  rw[aR hi]at h1
  rw[aR (by rw[<- S.len];exact hi)]at h2
  exact⟨h1,h2⟩
 have new:∀{i:Nat} {d:au} {a:Addr},¬ i<st.length->(st++[c])[i]?=some d->(μ++[p])[i]?=some a->i=st.length/\d=c/\a=p:=fun{i d a} hi h1 h2=>by
  have hi':i=st.length:=by
   have:=(ax.mp h1).1
   simp at this;omega
  subst hi'
  simp at h1
  rw[S.len,aS (aA _)]at h2
  simp at h2
  exact⟨rfl,h1.symm,h2.symm⟩
 refine⟨fun i j a ci cj h1 h2 r1 r2 m1 m2=>?_,by simp[S.len],fun i d a h1 h2=>?_⟩
 ·by_cases hi:i<st.length
  ·obtain⟨x1,x2⟩:=old hi h1 m1
   by_cases hj:j<st.length
   ·obtain⟨y1,y2⟩:=old hj h2 m2
    exact S.nd i j a ci cj x1 y1 r1 r2 x2 y2
   ·obtain⟨_,_,rfl⟩:=new hj h2 m2
    obtain⟨o',z⟩:=(S.at' i ci a x1 x2).ro_ne r1
    rw[hp]at z;cases z
  ·obtain⟨e1,_,rfl⟩:=new hi h1 m1
   by_cases hj:j<st.length
   ·obtain⟨y1,y2⟩:=old hj h2 m2
    obtain⟨o',z⟩:=(S.at' j cj a y1 y2).ro_ne r2
    rw[hp]at z;cases z
   ·obtain⟨e2,_,_⟩:=new hj h2 m2
    omega
 ·by_cases hi:i<st.length
  ·obtain⟨x1,x2⟩:=old hi h1 h2
   exact(S.at' i d a x1 x2).keep CV (gy.same hs) (hs a) fun b q h=>hs b _ h
  ·obtain⟨_,rfl,rfl⟩:=new hi h1 h2
   exact hc
theorem jC.setG(S:jC K mg μ st H){a:Addr}{c c':au}{o o':HO}(hn:st[n]?=some c)(CT:c.isRo=false)(hm:μ[n]?=some a)(ha:H a=some o)(hf:∀q u,o≠.frz q u)(hg:∀q,o≠Bo a q)(hx:fE K H (fU H a o'))(Wy:c'.isRo=false)(hr:mY K mg μ (fU H a o') c' a):jC K mg μ (st.set n c') (fU H a o'):=by
 have hl:n<st.length:=(ax.mp hn).1
 have back:∀{i:Nat} {d:au},(st.set n c')[i]?=some d->∃d',st[i]?=some d'/\(d'=d\/(i=n/\d=c')):=fun{i d} h=>by
  by_cases e:i=n
  ·subst e
   rw[b8 hl]at h
   exact⟨_,hn,.inr ⟨rfl,(bf h).symm⟩⟩
  ·rw[cL (Ne.symm e)]at h
   exact⟨d,h,.inl rfl⟩
 refine⟨fun i j b ci cj h1 h2 r1 r2 m1 m2=>?_,by simp[S.len],fun i d b h1 h2=>?_⟩
 ·obtain⟨di,x1,y1⟩:=back h1
  obtain⟨dj,x2,y2⟩:=back h2
  refine S.nd i j b di dj x1 x2 ?_ ?_ m1 m2
  ·rcases y1 with rfl|⟨rfl,rfl⟩
   ·exact r1
   ·rw[hn]at x1;cases x1;exact CT
  ·rcases y2 with rfl|⟨rfl,rfl⟩
   ·exact r2
   ·rw[hn]at x2;cases x2;exact CT
 ·by_cases e:i=n
  ·subst e
   rw[b8 hl]at h1
   cases h1
   rw[hm]at h2;cases h2
   exact hr
  ·rw[cL (Ne.symm e)]at h1
   have r:=S.at' i d b h1 h2
   by_cases hrd:d.isRo=true
   ·cases d with
    |ro zs=>
     obtain⟨us,p,q⟩:=r
     refine⟨us,?_,q.mono (aq _) hx⟩
     rcases p with⟨o2,p⟩|p
     ·exact .inl ⟨o2,by rw[cX (by rintro rfl;rw[ha]at p;cases p;exact hf _ _ rfl)];exact p⟩
     ·exact .inr p
    |lst _=>cases hrd
    |exc _=>cases hrd
    |dct _=>cases hrd
    |rod _=>cases hrd
    |dcx _=>cases hrd
    |rox _=>cases hrd
    |obj _ _=>cases hrd
    |tab _ _ _=>cases hrd
    |pin _ _ _ _=>cases hrd
    |gone=>trivial
   ·refine r.keep (aq _) hx (fun o ho=>?_) fun b' q h=>by rw[cX (by rintro rfl;rw[ha]at h;cases h;exact hg _ rfl)];exact h
    have hb:b≠a:=by
     rintro rfl
     exact e (S.nd i n b d _ h1 hn (by simpa using hrd) CT h2 hm)
    rw[cX hb];exact ho
theorem jC.set(S:jC K mg μ st H){a:Addr}{ws TU:List W}{EA:List V}(hn:st[n]?=some (.lst ws))(hm:μ[n]?=some a)(ha:H a=some (.lst vs))(hr:RelWs K μ H TU EA):jC K mg μ (st.set n (.lst TU)) (fU H a (.lst EA)):=by
 have hx:fE K H (fU H a (.lst EA)):=gy.but mU ha
 have hl:n<st.length:=(ax.mp hn).1
 have back:∀{i:Nat} {d:au},(st.set n (.lst TU))[i]?=some d->∃d',st[i]?=some d'/\(d'=d\/(i=n/\d=.lst TU)):=fun{i d} h=>by
  by_cases e:i=n
  ·subst e
   rw[b8 hl]at h
   exact⟨_,hn,.inr ⟨rfl,(bf h).symm⟩⟩
  ·rw[cL (Ne.symm e)]at h
   exact⟨d,h,.inl rfl⟩
 refine⟨fun i j b ci cj h1 h2 r1 r2 m1 m2=>?_,by simp[S.len],fun i d b h1 h2=>?_⟩
 ·obtain⟨di,x1,y1⟩:=back h1
  obtain⟨dj,x2,y2⟩:=back h2
  refine S.nd i j b di dj x1 x2 ?_ ?_ m1 m2
  ·rcases y1 with rfl|⟨rfl,rfl⟩
   ·exact r1
   ·rw[hn]at x1;cases x1;rfl
  ·rcases y2 with rfl|⟨rfl,rfl⟩
   ·exact r2
   ·rw[hn]at x2;cases x2;rfl
 ·by_cases e:i=n
  ·subst e
   rw[b8 hl]at h1
   cases h1
   rw[hm]at h2;cases h2
   exact⟨EA,ia,hr.mono (aq _) hx⟩
  ·rw[cL (Ne.symm e)]at h1
   have r:=S.at' i d b h1 h2
   by_cases CT:d.isRo=true
   ·cases d with
    |ro zs=>
     obtain⟨us,p,q⟩:=r
     refine⟨us,?_,q.mono (aq _) hx⟩
     rcases p with⟨o',p⟩|p
     ·exact .inl ⟨o',by rw[cX (by rintro rfl;rw[ha]at p;cases p)];exact p⟩
     ·exact .inr p
    |lst _=>cases CT
    |exc _=>cases CT
    |dct _=>cases CT
    |rod _=>cases CT
    |dcx _=>cases CT
    |rox _=>cases CT
    |obj _ _=>cases CT
    |tab _ _ _=>cases CT
    |pin _ _ _ _=>cases CT
    |gone=>trivial
   ·refine r.keep (aq _) hx (fun o ho=>?_) fun b' q h=>by rw[cX (by rintro rfl;rw[ha]at h;cases h)];exact h
    have hb:b≠a:=by
     rintro rfl
     exact e (S.nd i n b d _ h1 hn (by simpa using CT) rfl h2 hm)
    rw[cX hb];exact ho
end
end L2
variable{st bg st1 z:List L2.au}{t:L2.FT}{ws:List L2.W}{ρ:L2.cV}{fa fe fo el:L2.FE}{F G:List L2.W->List L2.au->L2.R L2.W}{ck:Option (Nat×List L2.W)}
namespace L2
open PySem PySem.Spec PyProof.Rows
structure Rl(X:Cx)(μ:List Addr)(ρ:cV)(st:List au)(σ:St)(H:Hp):Prop where
 env:Paired (fun(o:Option W) (s:Option V)=>∀w,o=some w->∃v,s=some v/\bM X.K μ H w v) ρ σ
 sto:jC X.K X.mg μ st H
theorem uw(h:μ <+: μ')(x:fE K H H'):∀{ρ:cV} {σ:St},Paired (fun(o:Option W) (s:Option V)=>∀w,o=some w->∃v,s=some v/\bM K μ H w v) ρ σ ->
  Paired (fun(o:Option W) (s:Option V)=>∀w,o=some w->∃v,s=some v/\bM K μ' H' w v) ρ σ
 |_,_,.nil=>.nil
 |_,_,.cons a t=>.cons (fun w e=>let ⟨v,p,q⟩:=a w e;⟨v,p,q.mono h x⟩) (uw h x t)
theorem Rl.to(r:Rl X μ ρ st σ H)(h:μ <+: μ')(x:fE X.K H H')(s:jC X.K X.mg μ' bg H'):Rl X μ' ρ bg σ H':=⟨uw h x r.env,s⟩
theorem wB:∀{ρ:cV} {σ:St} {i:Nat} {w:W},Paired (fun(o:Option W) (s:Option V)=>∀w,o=some w->∃v,s=some v/\bM K μ H w v) ρ σ->ρ[i]?=some (some w)->∃v,σ[i]?=some (some v)/\bM K μ H w v
 |_,_,_,_,.nil,e=>by simp at e
 |_,_,0,w,.cons a t,e=>by simp at e;obtain⟨v,p,q⟩:=a w e;exact⟨v,by simp[p],q⟩
 |_,_,i+1,w,.cons a t,e=>by simpa using wB (i:=i) t (by simpa using e)
theorem sT{w:W}{v:V}(r:bM K μ H w v):∀{ρ:cV} {σ:St} (i:Nat),Paired (fun(o:Option W) (s:Option V)=>∀w,o=some w->∃v,s=some v/\bM K μ H w v) ρ σ ->
  Paired (fun(o:Option W) (s:Option V)=>∀w,o=some w->∃v,s=some v/\bM K μ H w v) (ρ.set i (some w)) (σ.set i (some v))
 |_,_,_,.nil=>.nil
 |_,_,0,.cons a t=>.cons (fun w' e=>⟨v,rfl,by cases e;exact r⟩) t
 |_,_,i+1,.cons a t=>.cons a (sT r i t)
structure vh(X:Cx)(ak:List (Addr×Obj))(σ:St)(c:Str)(H:Hp)(e:Value)(s:Shared):Prop where
 inv:bH X ak σ H s
 ex:∃x C t B,e=.ref x/\X.mg c=some C/\H x=none/\B.StaysIn s.heap/\B.get? x=none/\s.heap.FunFrames B X.stack /\
  (s.heap.TracedW B x C (.ref t)\/(∃oe vs,s.heap.get? x=some oe/\oe.cls=C/\oe.dict=none/\oe.data=.fields vs/\vs[1]?=some .none/\vs[0]?=some (.ref t))\/∃L,X.env.frame=some L/\s.heap.TracedAtW B x C (.ref t) (rawInt L)) /\
  ∀b o,s.heap.get? b=some o->(H b≠none\/((∃o0,X.s₀.heap.get? b=some o0)/\b∉X.fs/\b∉X.ex)\/((∃y,X.env.cells.lookup y=some b)/\b∉sN X.stack)\/∃p∈X.pn++ak,p.1=b)->B.get? b=some o
def XS(X:Cx)(c:Str)(μ:List Addr)(ρ:cV)(st:List au)(H:Hp):Prop:=
 ∀ak μ' σ' H' e s',μ <+: μ'->fE X.K H H'->Rl X μ' ρ st σ' H'->vh X ak σ' c H' e s'->X.xe e s'
def XE(X:Cx)(c:Str)(μ:List Addr)(st:List au)(σ:St)(H:Hp):Prop:=
 ∀ak μ' H' e s',μ <+: μ'->fE X.K H H'->jC X.K X.mg μ' st H'->vh X ak σ c H' e s'->X.xe e s'
theorem XE.mono{c:Str}{μ1:List Addr}{H1:Hp}(h:XE X c μ st σ H)(p:μ <+: μ1)(x:fE X.K H H1):XE X c μ1 st σ H1:=fun ak μ' H' e s' a b=>h ak μ' H' e s' (p.trans a) (x.trans b)
theorem XS.mono{c:Str}{μ1:List Addr}{H1:Hp}(h:XS X c μ ρ st H)(p:μ <+: μ1)(x:fE X.K H H1):XS X c μ1 ρ st H1:=fun ak μ' σ' H' e s' a b=>h ak μ' σ' H' e s' (p.trans a) (x.trans b)
theorem XS.toE{c:Str}{UE:List au}(h:XS X c μ ρ st H)(r:Rl X μ ρ UE σ H):XE X c μ st σ H:=fun ak μ' H' e s' a b s f=>h ak μ' σ H' e s' a b (r.to a b s) f
def RK(X:Cx)(rel:List Addr->Hp->α->β->Prop)(μ:List Addr)(σ:St)(H:Hp)(Q:β->Hp->Prop):R α->Prop
 |.ok a bg=>∀μ' b H',μ <+: μ'->fE X.K H H'->jC X.K X.mg μ' bg H'->rel μ' H' a b->Q b H'
 |.ex c bg=>XE X c μ bg σ H
 |.bad=>False
theorem RK.mono{rel:List Addr->Hp->α->β->Prop}{μ1:List Addr}{H1:Hp}{Q:β->Hp->Prop}{r:R α}(h:RK X rel μ σ H Q r)(p:μ <+: μ1)(x:fE X.K H H1):RK X rel μ1 σ H1 Q r:=by
 cases r with
 |ok a st=>exact fun μ' b H' a1 b1=>h μ' b H' (p.trans a1) (x.trans b1)
 |ex c st=>exact XE.mono h p x
 |bad=>exact h
def tG(X:Cx)(rel:List Addr->Hp->α->β->Prop)(f:cV->List au->R α)(σ:St)(H:Hp)(Q:β->Hp->Prop):Prop:=
 ∃μ ρ st,Rl X μ ρ st σ H/\RK X rel μ σ H Q (f ρ st)
abbrev ux(X:Cx):List Addr->Hp->W->V->Prop:=fun μ H w v=>bM X.K μ H w v
abbrev Vi(X:Cx):List Addr->Hp->List W->List V->Prop:=fun μ H w v=>RelWs X.K μ H w v
abbrev ON:List Addr->Hp->Bool->Bool->Prop:=fun _ _ a b=>a=b
abbrev tE(X:Cx)(f:FE):TE:=tG X (ux X) f
abbrev tT(X:Cx)(f:FT):TT:=tG X ON f
abbrev R1(X:Cx)(f:FA):TA:=tG X (Vi X) f
theorem RK.bind{α' β':Type}{rel:List Addr->Hp->α->β->Prop}{TW:List Addr->Hp->α'->β'->Prop}{r:R α}{k:α->List au->R α'}{Q:β'->Hp->Prop}{T:β->Hp->Prop}
  (h:RK X TW μ σ H Q (r.bind k)) (l:Rl X μ ρ st σ H)
  (hk:∀μ' bg x v H',μ <+: μ'->fE X.K H H'->Rl X μ' ρ bg σ H'->rel μ' H' x v->RK X TW μ' σ H' Q (k x bg)->T v H'):RK X rel μ σ H T r:=by
 cases r with
 |ok a bg=>exact fun μ' b H' p x s q=>hk μ' bg a b H' p x (l.to p x s) q (RK.mono h p x)
 |ex c bg=>exact h
 |bad=>exact h
def SK(X:Cx)(μ:List Addr)(H:Hp)(D:zv):RS->Prop
 |.nx ρ st=>∀μ' σ' H',μ <+: μ'->fE X.K H H'->Rl X μ' ρ st σ' H'->D.nx σ' H'
 |.bk ρ st=>∀μ' σ' H',μ <+: μ'->fE X.K H H'->Rl X μ' ρ st σ' H'->D.bk σ' H'
 |.ct ρ st=>∀μ' σ' H',μ <+: μ'->fE X.K H H'->Rl X μ' ρ st σ' H'->D.ct σ' H'
 |.rt w st=>∀μ' v H',μ <+: μ'->fE X.K H H'->jC X.K X.mg μ' st H'->bM X.K μ' H' w v->D.rt v H'
 |.ex c ρ st=>XS X c μ ρ st H
 |.bad=>False
theorem SK.mono{μ1:List Addr}{H1:Hp}{D:zv}{r:RS}(h:SK X μ H D r)(p:μ <+: μ1)(x:fE X.K H H1):SK X μ1 H1 D r:=by
 cases r with
 |nx ρ st=>exact fun μ' b H' a1 b1=>h μ' b H' (p.trans a1) (x.trans b1)
 |bk ρ st=>exact fun μ' b H' a1 b1=>h μ' b H' (p.trans a1) (x.trans b1)
 |ct ρ st=>exact fun μ' b H' a1 b1=>h μ' b H' (p.trans a1) (x.trans b1)
 |rt w st=>exact fun μ' b H' a1 b1=>h μ' b H' (p.trans a1) (x.trans b1)
 |ex c ρ st=>exact XS.mono h p x
 |bad=>exact h
def Ur(X:Cx)(g:FS):TS:=fun D σ H=>∃μ ρ st,Rl X μ ρ st σ H/\SK X μ H D (g ρ st)
structure SE(X:Cx)(e:Expr)(f:FE):Prop where
 h:PE X e (tE X f)
structure ST(X:Cx)(e:Expr)(f:FT):Prop where
 h:PT X e (tT X f)
structure SW(X:Cx)(e:Expr)(f:FT):Prop where
 h:PW X e (tT X f)
structure SA(X:Cx)(es:List Expr)(f:FA):Prop where
 h:PA X es (R1 X f)
structure SS(X:Cx)(s:Stmt)(g:FS):Prop where
 h:PS X s (Ur X g)
structure SB(X:Cx)(s:List Stmt)(g:FS):Prop where
 h:Fz X s (Ur X g)
theorem PE.imp{t t':TE}(h:PE X e t)(i:∀σ H Q,t' σ H Q->t σ H Q):PE X e t':=fun ak s σ H Q I q=>h ak s σ H Q I (i _ _ _ q)
theorem PT.imp{t t':TT}(h:PT X e t)(i:∀σ H Q,t' σ H Q->t σ H Q):PT X e t':=fun ak s σ H Q I q=>h ak s σ H Q I (i _ _ _ q)
theorem PW.imp{t t':TT}(h:PW X e t)(i:∀σ H Q,t' σ H Q->t σ H Q):PW X e t':=fun wh ak s σ H Q I q=>h wh ak s σ H Q I (i _ _ _ q)
theorem PA.imp{e:List Expr}{t t':TA}(h:PA X e t)(i:∀σ H Q,t' σ H Q->t σ H Q):PA X e t':=fun pos ak s σ H Q I q=>h pos ak s σ H Q I (i _ _ _ q)
theorem PS.imp{e:Stmt}{t t':TS}(h:PS X e t)(i:∀D σ H,t' D σ H->t D σ H):PS X e t':=fun ak s σ H D I q=>h ak s σ H D I (i _ _ _ q)
theorem Fz.imp{e:List Stmt}{t t':TS}(h:Fz X e t)(i:∀D σ H,t' D σ H->t D σ H):Fz X e t':=fun ak s σ H D I q=>h ak s σ H D I (i _ _ _ q)
section
variable{a b:Expr}{gK:List Expr}{fb fc:FE}{ft fu:FT}{fs:FA}
def ag(i:Nat):FE:=fun ρ st=>match ρ[i]? with
 |some (some w)=>.ok w st
 |_=>.bad
theorem ae(i:Nat){pos:Pos}(hN:X.N[i]?=some x:=by rfl)(hv:Rb X.env.scope x:=by first|exact Or.inl rfl|exact Or.inr (Or.inl rfl)|exact Or.inr (Or.inr rfl))(hd:(x==("__debug__":Str))=false:=by decide)
  (C2:(x==("__classdict__":Str))=false:=by decide):SE X (.Name x pos) (ag i):=⟨(pv i hN hv hd C2).imp fun σ H Q h=>by
 obtain⟨μ,ρ,st,r,h⟩:=h
 unfold ag at h
 cases e:ρ[i]? with
 |none=>rw[e]at h;exact h.elim
 |some ow=>
  cases ow with
  |none=>rw[e]at h;exact h.elim
  |some w=>
   rw[e]at h
   obtain⟨v,e1,e2⟩:=wB r.env e
   exact⟨v,e1,h μ v H (aq _) fE.refl r.sto e2⟩⟩
def eC(w:W):FE:=fun _ st=>.ok w st
abbrev eI(n:Int):FE:=eC (.int n)
theorem R3{w:W}{v:V}(hc:PE X e (tC v))(hr:∀μ H,bM X.K μ H w v):SE X e (eC w):=⟨hc.imp fun σ H Q h=>by
 obtain⟨μ,ρ,st,r,h⟩:=h
 exact h μ v H (aq _) fE.refl r.sto (hr _ _)⟩
theorem aB{i:Int}:SE X (.Constant (.int i) j pos) (eC (.int i)):=R3 NV fun _ _=>.int
theorem ou{k:Bool}:SE X (.Constant (.bool k) j pos) (eC (.bl k)):=R3 Re fun _ _=>.bl
theorem p_:SE X (.Constant .none j pos) (eC .non):=R3 NW fun _ _=>.non
theorem eZ(h:x=tx l:=by decide +kernel):SE X (.Constant (.str x) j pos) (eC (.str l)):=R3 NX fun _ _=>by rw[h];exact .str
theorem Vj{w:W}(h:∃u v,X.mg x=some u/\dz 0 v u/\∀μ H,bM X.K μ H w v)(hg:Gl X x:=by rfl)(hd:(x==("__debug__":Str))=false:=by decide):SE X (.Name x pos) (eC w):=by
 obtain⟨u,v,a,b,c⟩:=h
 exact R3 (RO ⟨u,a,b⟩ hg hd) c
def e2(f:W->W->List au->R W)(fa fb:FE):FE:=fun ρ st=>(fa ρ st).bind fun x st=>(fb ρ st).bind fun y st=>f x y st
def GL(X:Cx)(μ:List Addr)(H:Hp)(Q:VK):R W->Prop
 |.ok w bg=>∀μ' v H',μ <+: μ'->fE X.K H H'->jC X.K X.mg μ' bg H'->bM X.K μ' H' w v->Q v H'
 |_=>False
def vC:R α->Prop
 |.ex _ _=>False
 |_=>True
def Vk(X:Cx)(f:W->W->List au->R W):R2:=fun x y H Q=>∃μ st wx wy,jC X.K X.mg μ st H/\bM X.K μ H wx x/\bM X.K μ H wy y/\GL X μ H Q (f wx wy st)
structure xR(X:Cx)(g:Value->Value->Sem Value)(f:W->W->List au->R W):Prop where
 h:pR X g (Vk X f)
 n:∀x y st,vC (f x y st)
theorem uy{Q:VK}{r:R W}(h:RK X (ux X) μ σ H Q r)(n:vC r):GL X μ H Q r:=by
 cases r with
 |ok a st=>exact h
 |ex c st=>exact n.elim
 |bad=>exact h
theorem EV{f:W->W->List au->R W}{Q:VK}(n:∀x y st,vC (f x y st))(h:tE X (e2 f fa fb) σ H Q):Rq (Vk X f) (tE X fa) (tE X fb) σ H Q:=by
 walk_at "2"
 refine⟨μ,ρ,st,l,RK.bind h l fun μ1 st1 x v H1 p1 x1 l1 q1 h1=>⟨μ1,ρ,st1,l1,RK.bind h1 l1 fun μ2 c_ y u H2 p2 x2 l2 q2 h2=>?_⟩⟩
 exact⟨μ2,c_,x,y,l2.sto,q1.mono p2 x2,q2,uy h2 (n _ _ _)⟩
theorem bB{op:Operator}{f:W->W->List au->R W}(ho:xR X (binaryOp op) f)(ha:SE X a fa)(hb:SE X b fb):SE X (.BinOp a op b pos) (e2 f fa fb):=⟨(Rs ho.h ha.h hb.h).imp fun _ _ _ h=>EV ho.n h⟩
theorem sV{f:W->W->List au->R W}(ho:xR X (compareOp op) f)(ha:SE X a fa)(hb:SE X b fb)(hm:behindInMarks op b=false:=by first|exact G6 _|rfl):SE X (.Compare a [op] [b] pos) (e2 f fa fb):=⟨(K0 ho.h ha.h hb.h hm).imp fun _ _ _ h=>EV ho.n h⟩
def eO(fa:FE):FT:=fun ρ st=>(fa ρ st).bind fun x st=>match x with
 |.bl k=>.ok k st
 |_=>.bad
theorem sX{Q:Bool->Hp->Prop}(h:tT X (eO fa) σ H Q):tE X fa σ H fun x H1=>∃k,x=.bl k/\Q k H1:=by
 walk_at "2"
 walk_at "1"
 cases x with
 |bl k=>exact⟨k,q1.blE,h1 μ1 k H1 (aq _) fE.refl l1.sto rfl⟩
 |_=>exact h1.elim
theorem cv{f:W->W->List au->R W}(ho:xR X (compareOp op) f)(ha:SE X a fa)(hb:SE X b fb)(hm:behindInMarks op b=false:=by first|exact G6 _|rfl):ST X (.Compare a [op] [b] pos) (eO (e2 f fa fb)):=⟨(K1 ho.h ha.h hb.h hm).imp fun σ H Q h=>by
 have h':tE X (e2 f fa fb) σ H fun x H1=>∃k,x=.bl k/\Q k H1:=sX h
 exact EV ho.n h'⟩
theorem hU(h:SE X e fe)(he:∀whole,isTrue e X.env whole=(do let v <- whole;standAt e.pos;holding [v] (truthy v)):=by intro _;rfl):ST X e (eO fe):=⟨(NZ h.h he).imp fun σ H Q h=>sX h⟩
def Ky(t u:FT):FT:=fun ρ st=>(t ρ st).bind fun k st=>if k then u ρ st else .ok false st
def F8(t u:FT):FT:=fun ρ st=>(t ρ st).bind fun k st=>if k then .ok true st else u ρ st
def A6(t:FT):FT:=fun ρ st=>(t ρ st).bind fun k st=>.ok (!k) st
theorem zJ(ha:ST X a ft):SW X (.BoolOp .And [a] pos) ft:=⟨KN ha.h⟩
theorem uz(ha:ST X a ft):SW X (.BoolOp .Or [a] pos) ft:=⟨N0 ha.h⟩
theorem Dx(ha:ST X a ft)(hb:SW X (.BoolOp .And (b::gK) pos) fu):SW X (.BoolOp .And (a::b::gK) pos) (Ky ft fu):=⟨(N1 ha.h hb.h).imp fun σ H Q h=>by
 walk_at "2"
 walk_at "1"
 cases q1
 cases x with
 |true=>exact⟨μ1,ρ,st1,l1,h1⟩
 |false=>exact h1 μ1 false H1 (aq _) fE.refl l1.sto rfl⟩
theorem yM(ha:ST X a ft)(hb:SW X (.BoolOp .Or (b::gK) pos) fu):SW X (.BoolOp .Or (a::b::gK) pos) (F8 ft fu):=⟨(Rg ha.h hb.h).imp fun σ H Q h=>by
 walk_at "2"
 walk_at "1"
 cases q1
 cases x with
 |false=>exact⟨μ1,ρ,st1,l1,h1⟩
 |true=>exact h1 μ1 true H1 (aq _) fE.refl l1.sto rfl⟩
theorem zK(h:SW X e ft):ST X e ft:=⟨h.h.pt⟩
theorem kG(ha:ST X a ft):ST X (.UnaryOp .Not a pos) (A6 ft):=⟨(N2 ha.h).imp fun σ H Q h=>by
 walk_at "2"
 walk_at "1"
 cases q1
 exact h1 μ1 _ H1 (aq _) fE.refl l1.sto rfl⟩
def zL(fa fb:FE):FE:=fun ρ st=>(fa ρ st).bind fun x st=>match x with
 |.bl true=>fb ρ st
 |.bl false=>.ok (.bl false) st
 |_=>.bad
def Lp(fa:FE):FE:=fun ρ st=>(fa ρ st).bind fun x st=>match x with
 |.bl k=>.ok (.bl (!k)) st
 |_=>.bad
theorem Bq{op:BoolOp}(h:SE X a fa):SE X (.BoolOp op [a] pos) fa:=⟨N3 h.h⟩
theorem yN(ha:SE X a fa)(hb:SE X (.BoolOp .And (b::gK) pos) fb):SE X (.BoolOp .And (a::b::gK) pos) (zL fa fb):=⟨(N4 ha.h hb.h).imp fun σ H Q h=>by
 walk_at "2"
 walk_at "1"
 cases x with
 |bl k=>
  refine⟨k,q1.blE,?_⟩
  cases k with
  |true=>exact⟨μ1,ρ,st1,l1,h1⟩
  |false=>exact h1 μ1 _ H1 (aq _) fE.refl l1.sto .bl
 |_=>exact h1.elim⟩
theorem R4(ha:SE X a fa):SE X (.UnaryOp .Not a pos) (Lp fa):=⟨(N5 ha.h).imp fun σ H Q h=>by
 walk_at "2"
 walk_at "1"
 cases x with
 |bl k=>exact⟨k,q1.blE,h1 μ1 _ H1 (aq _) fE.refl l1.sto .bl⟩
 |_=>exact h1.elim⟩
def GM(t:FT)(fa fb:FE):FE:=fun ρ st=>(t ρ st).bind fun k st=>if k then fa ρ st else fb ρ st
theorem Dy(hc:ST X c ft)(ha:SE X a fa)(hb:SE X b fb):SE X (.IfExp c a b pos) (GM ft fa fb):=⟨(GT hc.h ha.h hb.h).imp fun σ H Q h=>by
 walk_at "2"
 walk_at "1"
 cases q1
 cases x with
 |false=>exact⟨μ1,ρ,st1,l1,h1⟩
 |true=>exact⟨μ1,ρ,st1,l1,h1⟩⟩
def W.isNon:W->Bool
 |.non=>true
 |_=>false
def zM(fa:FE):FE:=fun ρ st=>(fa ρ st).bind fun x st=>.ok (.bl x.isNon) st
def iB(fa:FE):FE:=fun ρ st=>(fa ρ st).bind fun x st=>.ok (.bl (!x.isNon)) st
theorem Mv{w:W}{v:V}(r:bM X.K μ H w v):decide (v=.non)=w.isNon:=by
 cases w with
 |non=>rw[r.nonE];rfl
 |bl b=>rw[r.blE];rfl
 |int b=>rw[r.intE];rfl
 |str b=>rw[r.strE];rfl
 |tup b=>obtain⟨p,vs,rfl,_⟩:=r.tupE;rfl
 |loc b=>obtain⟨p,_,rfl⟩:=r.locE;rfl
theorem Mw{Q:VK}(h:tE X (zM fa) σ H Q):Rf (tE X fa) σ H Q:=by
 walk_at "2"
 walk_at "1"
 show Q (.bl (decide (v=.non))) H1
 rw[Mv q1]
 exact h1 μ1 _ H1 (aq _) fE.refl l1.sto .bl
theorem OO{Q:VK}(h:tE X (iB fa) σ H Q):Mo (tE X fa) σ H Q:=by
 walk_at "2"
 walk_at "1"
 show Q (.bl (!decide (v=.non))) H1
 rw[Mv q1]
 exact h1 μ1 _ H1 (aq _) fE.refl l1.sto .bl
theorem R5(ha:SE X a fa):SE X (.Compare a [.Is] [.Constant .none j i9] pos) (zM fa):=⟨(NY (GR ha.h)).imp fun _ _ _ h=>Mw h⟩
theorem Dz(ha:SE X a fa):ST X (.Compare a [.Is] [.Constant .none j i9] pos) (eO (zM fa)):=⟨(GS (GR ha.h)).imp fun _ _ _ h=>Mw (sX h)⟩
theorem jr(ha:SE X a fa):ST X (.Compare a [.IsNot] [.Constant .none j i9] pos) (eO (iB fa)):=⟨(GS (KM ha.h)).imp fun _ _ _ h=>OO (sX h)⟩
def aD:FA:=fun _ st=>.ok [] st
def ah(fa:FE)(fs:FA):FA:=fun ρ st=>(fa ρ st).bind fun x st=>(fs ρ st).bind fun xs st=>.ok (x::xs) st
theorem ar:SA X [] aD:=⟨ut.imp fun σ H Q h=>by
 walk_at "2"
 exact h μ [] H (aq _) fE.refl l.sto .nilI⟩
theorem aa(ha:SE X e fe)(hr:SA X es fs)(hs:starEach (e::es) X.env=(false,eval e X.env)::starEach es X.env:=by rfl):SA X (e::es) (ah fe fs):=⟨(kW ha.h hr.h hs).imp fun σ H Q h=>by
 walk_at "2"
 refine⟨μ,ρ,st,l,RK.bind h l fun μ1 st1 x v H1 p1 x1 l1 q1 h1=>⟨μ1,ρ,st1,l1,RK.bind h1 l1 fun μ2 c_ xs vs H2 p2 x2 l2 q2 h2=>?_⟩⟩
 exact h2 μ2 _ H2 (aq _) fE.refl l2.sto (.consI (q1.mono p2 x2) q2)⟩
def R6(zs:List (List Nat)):FA:=fun _ st=>.ok (zs.map W.str) st
def rj(ws:List W)(st:List au):R W:=if ws.length<=nO then .ok (.tup ws) st else .bad
def qa(ws:List W)(st:List au):R W:=if ws.length<=nO then .ok #[5] (st++[.lst ws])else .bad
def fJ(fs:FA):FE:=fun ρ st=>(fs ρ st).bind fun ws st=>rj ws st
def l6(fs:FA):FE:=fun ρ st=>(fs ρ st).bind fun ws st=>qa ws st
theorem jC.newLst(S:jC K mg μ st H){p:Addr}(hp:H p=none)(r:RelWs K μ H ws vs):jC K mg (μ++[p]) (st++[.lst ws]) (fU H p (.lst vs)):=
 S.push hp ⟨vs,ia,r.mono (a_ _ _) (gy.same (cS hp _))⟩
theorem qb(S:jC K mg μ st H){p:Addr}:bM K (μ++[p]) H' #[5] (.ref p):=.locI (by rw[S.len];simp)
theorem Hy{Q:VK}(S:jC X.K X.mg μ st H)(q:RelWs X.K μ H ws vs)(h:RK X (ux X) μ σ H Q (rj ws st)):vs.length<=sizeLine/\∀p H2,H p=none->H2=fU H p (.tup vs)->Q (.ref p) H2:=by
 unfold rj at h
 by_cases hz:ws.length<=nO
 ·rw[aK hz]at h
  refine⟨by rw[<- q.len];exact p8 hz,fun p H2 hp e=>?_⟩
  subst e
  have x:=gy.same (K:=X.K) (cS hp (.tup vs))
  exact h μ _ _ (aq _) x (S.same (cS hp _)) (.tupI gy.new (q.mono (aq _) x))
 ·rw[aU hz]at h;exact h.elim
theorem wC{σ:St}{Q:VK}(S:jC X.K X.mg μ st H)(q:RelWs X.K μ H ws vs)(h:RK X (ux X) μ σ H Q (qa ws st)):vs.length<=sizeLine/\∀p H2,H p=none->H2=fU H p (.lst vs)->Q (.ref p) H2:=by
 unfold qa at h
 by_cases hz:ws.length<=nO
 ·rw[aK hz]at h
  refine⟨by rw[<- q.len];exact p8 hz,fun p H2 hp e=>?_⟩
  subst e
  exact h (μ++[p]) _ _ (a_ _ _) (gy.same (cS hp _)) (S.newLst hp q) (qb S)
 ·rw[aU hz]at h;exact h.elim
theorem dX(h:SA X es fs):SE X (.Tuple es k pos) (fJ fs):=⟨(ER h.h).imp fun σ H Q h=>by
 walk_at "2"
 exact⟨μ,ρ,st,l,RK.bind h l fun μ1 st1 x v H1 p1 x1 l1 q1 h1=>Hy l1.sto q1 h1⟩⟩
theorem jK(h:SA X es fs):SE X (.List es pos) (l6 fs):=⟨(Lg h.h).imp fun σ H Q h=>by
 walk_at "2"
 exact⟨μ,ρ,st,l,RK.bind h l fun μ1 st1 x v H1 p1 x1 l1 q1 h1=>wC l1.sto q1 h1⟩⟩
end
end L2
namespace L2
open PySem PySem.Spec PyProof.Rows
section
theorem l7{Q:VK}{i:Int}(S:jC X.K X.mg μ st H)(h:GL X μ H Q (.ok (.int i) st)):Q (.int i) H:=h μ _ H (aq _) fE.refl S .int
theorem qc{Q:VK}{i:Bool}(S:jC X.K X.mg μ st H)(h:GL X μ H Q (.ok (.bl i) st)):Q (.bl i) H:=h μ _ H (aq _) fE.refl S .bl
theorem sY{Q:VK}{i:List Nat}(S:jC X.K X.mg μ st H)(h:GL X μ H Q (.ok (.str i) st)):Q (.str (tx i)) H:=h μ _ H (aq _) fE.refl S .str
theorem OP{Q:VK}{r:R W}(h:GL X μ H Q r):RK X (ux X) μ σ H Q r:=by
 cases r with
 |ok a st=>exact h
 |ex c st=>exact h.elim
 |bad=>exact h
def F9(C:Int->Int->Prop)[∀i j,Decidable (C i j)](f:Int->Int->Int):W->W->List au->R W
 |.int i,.int j,st=>if C i j then .ok (.int (f i j)) st else .bad
 |_,_,_=>.bad
theorem Br{C C':Int->Int->Prop}[∀i j,Decidable (C' i j)]{f:Int->Int->Int}(h:pR X g (rI C fun i j=>.int (f i j)))(hC:∀i j,C' i j->C i j):xR X g (F9 C' f):=⟨h.imp fun x y H Q zq=>by
 obtain⟨μ,st,wx,wy,S,rx,ry,q⟩:=zq
 cases wx with
 |int i=>
  cases wy with
  |int j=>
   simp only[F9]at q
   by_cases c:C' i j
   ·rw[aK c]at q;exact⟨i,j,rx.intE,ry.intE,hC i j c,l7 S q⟩
   ·rw[aU c]at q;exact q.elim
  |_=>exact q.elim
 |_=>cases wy<;>exact q.elim,fun x y st=>by
 unfold F9
 split
 ·split<;>trivial
 ·trivial⟩
def F_(f:Int->Int->Bool):W->W->List au->R W
 |.int i,.int j,st=>.ok (.bl (f i j)) st
 |_,_,_=>.bad
theorem Hz{f:Int->Int->Bool}(h:pR X g (G4 fun i j=>.bl (f i j))):xR X g (F_ f):=⟨h.imp fun x y H Q zq=>by
 obtain⟨μ,st,wx,wy,S,rx,ry,q⟩:=zq
 cases wx with
 |int i=>
  cases wy with
  |int j=>exact⟨i,j,rx.intE,ry.intE,qc S q⟩
  |_=>exact q.elim
 |_=>cases wy<;>exact q.elim,fun x y st=>by
 unfold F_
 split<;>trivial⟩
abbrev OQ(i j:Int):Prop:=(-(2^64)<i/\i<2^64)\/(-(2^64)<j/\j<2^64)
abbrev lD:=F9 (fun _ _=>True) fun i j=>i-j
abbrev R7:=F9 OQ fun i j=>i*j
abbrev iX:=F9 (fun _ j=>0<j) fun i j=>i%j
abbrev vi:=F9 (fun _ j=>0<j/\j<1073741824) fun i j=>i/j
abbrev R8:=F9 (fun i j=>0<=j/\j<=1000000/\i.natAbs<2^64) fun i j=>i^j.toNat
abbrev Bs:=F9 (fun i j=>0<=j/\j<=1000000/\i.natAbs<2^64) fun i j=>i*2^j.toNat
abbrev OR:=F9 (fun _ j=>0<=j) fun i j=>i/2^j.toNat
abbrev HA:=F9 (fun _ _=>True) fun i j=>Builtin.bitAnd i j
theorem HB{f:Int->Int->V}(h:pR X g (G4 f)):pR X g (rI (fun _ _=>True) f):=h.imp fun _ _ _ _ ⟨i,j,a,b,_,q⟩=>⟨i,j,a,b,q⟩
theorem jZ:xR X (binaryOp .Sub) lD:=Br (HB Oh) fun _ _ _=>trivial
theorem R9:xR X (binaryOp .Mult) R7:=Br Oi fun _ _ h=>h
theorem ib:xR X (binaryOp .Mod) iX:=Br Oj fun _ _ h=>h
theorem uC:xR X (binaryOp .FloorDiv) vi:=Br KZ fun _ _ h=>h
theorem R_:xR X (binaryOp .Pow) R8:=Br Ol fun _ _ h=>h
theorem Mx:xR X (binaryOp .LShift) Bs:=Br G5 fun _ _ h=>h
theorem R':xR X (binaryOp .RShift) OR:=Br Om fun _ _ h=>h
theorem OS:xR X (binaryOp .BitAnd) HA:=Br (HB On) fun _ _ _=>trivial
def cN:W->W->List au->R W
 |.int i,.int j,st=>.ok (.int (i+j)) st
 |.str a,.str b,st=>if a.length+b.length<=nO then .ok (.str (a++b)) st else .bad
 |.tup a,.tup b,st=>rj (a++b) st
 |.loc n,.loc m,st=>match st[n]?,st[m]? with
  |some (.lst a),some (.lst b)=>qa (a++b) st
  |_,_=>.bad
 |_,_,_=>.bad
theorem Lq(ws:List W)(st:List au):vC (rj ws st):=by unfold rj;split<;>trivial
theorem Lr(ws:List W)(st:List au):vC (qa ws st):=by unfold qa;split<;>trivial
theorem cE:xR X (binaryOp .Add) cN:=⟨fun ak s σ H x y v u Q I rv ru zq=>by
 obtain⟨μ,st,wx,wy,S,rx,ry,q⟩:=zq
 cases wx with
 |int i=>
  cases wy with
  |int j=>exact Og ak s σ H x y v u Q I rv ru ⟨i,j,rx.intE,ry.intE,l7 S q⟩
  |_=>exact q.elim
 |str a=>
  cases wy with
  |str b=>
   simp only[cN]at q
   by_cases c:a.length+b.length<=nO
   ·rw[aK c]at q
    exact C8 ak s σ H x y v u Q I rv ru ⟨_,_,rx.strE,ry.strE,by rw[jB,jB];exact p8 c,by rw[Dn];exact sY S q⟩
   ·rw[aU c]at q;exact q.elim
  |_=>exact q.elim
 |tup a=>
  cases wy with
  |tup b=>
   obtain⟨p1,vs1,rfl,h1,r1⟩:=rx.tupE
   obtain⟨p2,vs2,rfl,h2,r2⟩:=ry.tupE
   have q':GL X μ H Q (rj (a++b) st):=q
   unfold rj at q'
   by_cases c:(a++b).length<=nO
   ·rw[aK c]at q'
    refine OL.h ak s σ H _ _ v u Q I rv ru ⟨p1,p2,vs1,vs2,rfl,rfl,h1,h2,by rw[<- r1.len,<- r2.len,<- ai];exact p8 c,fun p H2 e t=>?_⟩
    exact q' μ _ _ (aq _) (gy.same e) (S.same e) (.tupI t ((r1.app r2).mono (aq _) (gy.same e)))
   ·rw[aU c]at q';exact q'.elim
  |_=>exact q.elim
 |loc n=>
  cases wy with
  |loc m=>
   simp only[cN]at q
   cases e1:st[n]? with
   |none=>rw[e1]at q;exact q.elim
   |some c1=>
    cases e2:st[m]? with
    |none=>rw[e1,e2]at q;cases c1<;>exact q.elim
    |some c2=>
     cases c1 with
     |lst a=>
      cases c2 with
      |lst b=>
       rw[e1,e2]at q
       obtain⟨a1,g1,vs1,k1,r1⟩:=S.get e1
       obtain⟨a2,g2,vs2,k2,r2⟩:=S.get e2
       obtain⟨b1,f1,rfl⟩:=rx.locE
       obtain⟨b2,f2,rfl⟩:=ry.locE
       rw[g1]at f1;cases f1
       rw[g2]at f2;cases f2
       obtain⟨hz,qq⟩:=wC (σ:=σ) S (r1.app r2) (OP q)
       exact Lj ak s σ H _ _ v u Q I rv ru ⟨a1,a2,vs1,vs2,rfl,rfl,k1,k2,by rw[<- ai];exact hz,qq⟩
      |_=>rw[e1,e2]at q;exact q.elim
     |_=>rw[e1,e2]at q;exact q.elim
  |_=>exact q.elim
 |_=>cases wy<;>exact q.elim,fun x y st=>by
 unfold cN
 split
 ·trivial
 ·split<;>trivial
 ·exact Lq _ _
 ·split
  ·exact Lr _ _
  ·trivial
 ·trivial⟩
abbrev Ls:=F_ fun i j=>decide (i<j)
abbrev F':=F_ fun i j=>decide (j<i)
abbrev OT:=F_ fun i j=>decide (j<=i)
theorem w_lt:xR X (compareOp .Lt) Ls:=Hz Ru
theorem x5:xR X (compareOp .Gt) F':=Hz Rw
theorem Lu:xR X (compareOp .GtE) OT:=Hz Rx
end
end L2
namespace L2
open PySem PySem.Spec PyProof.Rows
mutual
def l8:W->W->Option Bool
 |.non,.non=>some true
 |.bl a,.bl b=>some (a==b)
 |.bl a,.int b=>some ((if a then 1 else 0)==b)
 |.int a,.bl b=>some (a==(if b then 1 else 0))
 |.int a,.int b=>some (a==b)
 |.str a,.str b=>some (a==b)
 |.tup a,.tup b=>eqWs a b
 |.loc _,_=>none
 |.non,.loc _=>none
 |.bl _,.loc _=>none
 |.int _,.loc _=>none
 |.str _,.loc _=>none
 |.tup _,.loc _=>none
 |.non,.bl _=>some false
 |.non,.int _=>some false
 |.non,.str _=>some false
 |.non,.tup _=>some false
 |.bl _,.non=>some false
 |.bl _,.str _=>some false
 |.bl _,.tup _=>some false
 |.int _,.non=>some false
 |.int _,.str _=>some false
 |.int _,.tup _=>some false
 |.str _,.non=>some false
 |.str _,.bl _=>some false
 |.str _,.int _=>some false
 |.str _,.tup _=>some false
 |.tup _,.non=>some false
 |.tup _,.bl _=>some false
 |.tup _,.int _=>some false
 |.tup _,.str _=>some false
def eqWs:List W->List W->Option Bool
 |[],[]=>some true
 |[],_::_=>some false
 |_::_,[]=>some false
 |x::xs,y::ys=>match l8 x y,eqWs xs ys with
  |some a,some b=>some (a&&b)
  |_,_=>none
end
mutual
def W.dep:W->Nat
 |.tup ws=>depWs ws+1
 |_=>0
def depWs:List W->Nat
 |[]=>0
 |w::ws=>max w.dep (depWs ws)
end
theorem rZ:∀(xs ys:List W) (b:Bool),eqWs xs ys=some b->∃e:Nat->Bool,(∀j (h1:j<xs.length) (h2:j<ys.length),l8 xs[j] ys[j]=some (e j))/\((List.range (min xs.length ys.length)).all e&&xs.length==ys.length)=b
 |[],[],b,h=>by unfold eqWs at h;cases h;exact⟨fun _=>true,fun j h1=>absurd h1 (lT _),rfl⟩
 |[],y::ys,b,h=>by unfold eqWs at h;cases h;exact⟨fun _=>true,fun j h1=>absurd h1 (lT _),by simp⟩
 |x::xs,[],b,h=>by unfold eqWs at h;cases h;exact⟨fun _=>true,fun j _ h1=>absurd h1 (lT _),by simp⟩
 |x::xs,y::ys,b,h=>by
  unfold eqWs at h
  cases e1:l8 x y with
  |none=>rw[e1]at h;simp at h
  |some a=>
   cases e2:eqWs xs ys with
   |none=>rw[e1,e2]at h;simp at h
   |some c=>
    rw[e1,e2]at h
    simp at h
    obtain⟨e,he,hb⟩:=rZ xs ys c e2
    refine⟨fun j=>match j with|0=>a|j+1=>e j,fun j h1 h2=>?_,?_⟩
    ·cases j with
     |zero=>exact e1
     |succ j=>exact he j (kj h1) (kj h2)
    ·have m:min (x::xs).length (y::ys).length=min xs.length ys.length+1:=by simp only[bZ];omega
     rw[m,pc,List.all_cons,List.all_map,<- h,<- hb]
     simp[Function.comp_def,Bool.and_assoc]
theorem EW{a b:W}{x:V}{k:Bool}(hn:a.dep<=0)(ra:bM X.K μ H a x)(rb:bM X.K μ H b x)(he:l8 a b=some k):k=true:=by
 cases a with
 |tup i=>unfold W.dep at hn;omega
 |non=>cases ra.nonE;cases b<;>first|(unfold l8 at he;cases he;rfl)|cases rb.blE|cases rb.intE|cases rb.strE|(obtain⟨_,_,z,_⟩:=rb.tupE;cases z)|(unfold l8 at he;cases he)
 |bl i=>cases ra.blE;cases b<;>first|(cases rb.blE;unfold l8 at he;simp at he;exact he)|cases rb.nonE|cases rb.intE|cases rb.strE|(obtain⟨_,_,z,_⟩:=rb.tupE;cases z)|(unfold l8 at he;cases he)
 |int i=>cases ra.intE;cases b<;>first|(cases rb.intE;unfold l8 at he;simp at he;exact he)|cases rb.nonE|cases rb.blE|cases rb.strE|(obtain⟨_,_,z,_⟩:=rb.tupE;cases z)|(unfold l8 at he;cases he)
 |str i=>cases ra.strE;cases b<;>first|(have z:=rb.strE;injection z with z;rw[Do.mp z]at he;unfold l8 at he;simp at he;exact he)|cases rb.nonE|cases rb.blE|cases rb.intE|(obtain⟨_,_,z,_⟩:=rb.tupE;cases z)|(unfold l8 at he;cases he)
 |loc i=>cases b<;>(unfold l8 at he;cases he)
theorem HC(I:bH X ak σ H s):∀(n:Nat) (a b:W) (x:V) (k:Bool),a.dep<=n->bM X.K μ H a x->bM X.K μ H b x->l8 a b=some k->k=true:=by
 intro n
 induction n with
 |zero=>exact fun a b x k hn ra rb he=>EW hn ra rb he
 |succ n ih=>
  intro a b x k hn ra rb he
  cases a with
  |tup i=>
   obtain⟨p',EA,rfl,hS',r'⟩:=ra.tupE
   cases b with
   |tup z=>
    obtain⟨p,vs,e,hS,r⟩:=rb.tupE
    cases e
    obtain rfl:=I.tuple_inj hS hS'
    have he':eqWs i z=some k:=by unfold l8 at he;exact he
    have dn:depWs i<=n:=by unfold W.dep at hn;omega
    have key:∀(i z:List W) (vs:List V) (k:Bool),depWs i<=n->RelWs X.K μ H i vs->RelWs X.K μ H z vs->eqWs i z=some k->k=true:=by
     intro i
     induction i with
     |nil=>
      intro z vs k _ r' r he
      have e1:=r'.nilE
      subst e1
      cases z with
      |nil=>unfold eqWs at he;cases he;rfl
      |cons _ _=>have e2:=r.len;simp at e2
     |cons w i ih2=>
      intro z vs k dn r' r he
      obtain⟨x,xs,rfl,rx,rxs⟩:=r'.consE
      cases z with
      |nil=>have e2:=r.len;simp at e2
      |cons y z=>
       obtain⟨x2,xs2,e3,ry,rys⟩:=r.consE
       cases e3
       unfold eqWs at he
       cases e1:l8 w y with
       |none=>rw[e1]at he;simp at he
       |some k1=>
        cases e2:eqWs i z with
        |none=>rw[e1,e2]at he;simp at he
        |some k2=>
         rw[e1,e2]at he
         simp at he
         unfold depWs at dn
         have q1:=ih w y x k1 #[0] rx ry e1
         have q2:=ih2 z xs k2 #[0] rxs rys e2
         rw[<- he,q1,q2];rfl
    exact key i z _ k dn r' r he'
   |non=>cases rb.nonE
   |bl z=>cases rb.blE
   |int z=>cases rb.intE
   |str z=>cases rb.strE
   |loc z=>unfold l8 at he;cases he
  |_=>exact EW (aA _) ra rb he
theorem uD:∀{ws:List W} {j:Nat} (h:j<ws.length),ws[j].dep<=depWs ws
 |w::ws,0,_=>by unfold depWs;exact Nat.le_max_left _ _
 |w::ws,j+1,h=>by unfold depWs;exact aN (uD (j:=j) (kj h)) (Nat.le_max_right _ _)
inductive Sh(s:Shared):W->Value->Prop
 |non:Sh s .non .none
 |bl (b:Bool):Sh s (.bl b) (.bool b)
 |int (i:Int) (t:Tok):Sh s (.int i) (.int i t)
 |str (l:List Nat) (t:Tok):Sh s (.str l) (.str (tx l) t)
 |tup (ws:List W) (p:Addr) (bN:List Value) (h:IsTup s.heap p bN.toArray):Sh s (.tup ws) (.ref p)
 |loc (n:Nat) (u:Value):Sh s (.loc n) u
section
theorem vj(I:bH X ak σ H s){a:W}{x:V}(ra:bM X.K μ H a x)(ru:dz s.toks x u):Sh s a u:=by
 cases a with
 |non=>cases ra.nonE;cases ru;exact .non
 |bl i=>cases ra.blE;cases ru;exact .bl _
 |int i=>cases ra.intE;obtain⟨t,rfl⟩:=ru;exact .int _ _
 |str i=>cases ra.strE;obtain⟨t,rfl⟩:=ru;exact .str _ _
 |tup i=>obtain⟨p,vs,rfl,hS,_⟩:=ra.tupE;cases ru;obtain⟨bN,_,ht,_⟩:=I.tuple hS;exact .tup _ _ _ ht
 |loc i=>exact .loc _ _
open SeqAt.EqAt in
theorem EX{a b:W}{k:Bool}(ha:Sh s a u)(hb:Sh s b v)(hu:A.units<cLine)(ht:b.dep=0\/a.dep=0)(he:l8 a b=some k):SeqAt.EqAt A s u v k:=by
 cases ha<;>cases hb<;>first
  |(unfold l8 at he;cases he;done)
  |(unfold l8 at he;cases he;with_reducible first|exact same _|exact bool_none _|exact bool_bool _ _|exact bool_int _ _ _|exact bool_str _ _ _|exact int_none _ _|exact int_bool _ _ _|exact int_int _ _ _ _|exact int_str _ _ _ _|exact str_none _ _|exact str_bool _ _ _|exact str_int _ _ _ _|exact none_bool _|exact none_int _ _|exact none_str _ _)
  |(unfold l8 at he;cases he;(with_reducible first|refine' bool_tuple _ ?_ hu|refine' int_tuple _ _ ?_ hu|refine' str_tuple _ _ ?_ hu|refine' tuple_none ?_ hu|refine' tuple_bool _ ?_ hu|refine' tuple_int _ _ ?_ hu|refine' tuple_str _ _ ?_ hu|refine' none_tuple ?_ hu);rotate_left;assumption)
  |(unfold W.dep at ht;omega)
  |skip
 rename_i i t z r
 unfold l8 at he;cases he
 have:=str_str (A:=A) (s:=s) (tx i) t (tx z) r
 rw[<- rV]at this
 exact this
open SeqAt.RcAt in
theorem Lv{a b:W}{k:Bool}(ha:Sh s a u)(hb:Sh s b v)(hu:A.units<cLine)(ht:b.dep=0\/a.dep=0)(he:l8 a b=some k):SeqAt.RcAt A s u v k:=by
 cases ha<;>cases hb<;>first
  |(unfold l8 at he;cases he;done)
  |(unfold l8 at he;cases he;with_reducible first|exact none_none|exact bool_none _|exact bool_bool _ _|exact bool_int _ _ _|exact bool_str _ _ _|exact int_none _ _|exact int_bool _ _ _|exact int_int _ _ _ _|exact int_str _ _ _ _|exact str_none _ _|exact str_bool _ _ _|exact str_int _ _ _ _|exact none_bool _|exact none_int _ _|exact none_str _ _)
  |(unfold l8 at he;cases he;(with_reducible first|refine' bool_tuple _ ?_ hu|refine' int_tuple _ _ ?_ hu|refine' str_tuple _ _ ?_ hu|refine' tuple_none ?_ hu|refine' tuple_bool _ ?_ hu|refine' tuple_int _ _ ?_ hu|refine' tuple_str _ _ ?_ hu|refine' none_tuple ?_ hu);rotate_left;assumption)
  |(unfold W.dep at ht;omega)
  |skip
 rename_i i t z r
 unfold l8 at he;cases he
 have:=str_str (A:=A) (s:=s) (tx i) t (tx z) r
 rw[<- rV]at this
 exact this
open SeqAt.RcNeAt in
theorem Ga         {a b:W}  {k:Bool} (ha : Sh s a u) (hb : Sh s b v) (hu : A.units < cLine) (ht : b.dep = 0 \/ a.dep = 0) (he : l8  a b = some k) : SeqAt.RcNeAt A s u v (!k) := by
  cases ha <;> cases hb <;> first
    | (unfold l8  at he; cases he; done)
    | (unfold l8  at he; cases he; try simp only [Bool.not_true, Bool.not_false]
       with_reducible first | exact none_none | exact bool_none _ | exact bool_bool _ _ | exact bool_int _ _ _ | exact bool_str _ _ _ | exact int_none _ _ | exact int_bool _ _ _ | exact int_int _ _ _ _ | exact int_str _ _ _ _ | exact str_none _ _ | exact str_bool _ _ _ | exact str_int _ _ _ _ | exact none_bool _ | exact none_int _ _ | exact none_str _ _)
    | (unfold l8  at he; cases he; try simp only [Bool.not_true, Bool.not_false]
       (with_reducible first | refine' bool_tuple _ ?_ hu | refine' int_tuple _ _ ?_ hu | refine' str_tuple _ _ ?_ hu | refine' tuple_none ?_ hu | refine' tuple_bool _ ?_ hu | refine' tuple_int _ _ ?_ hu | refine' tuple_str _ _ ?_ hu | refine' none_tuple ?_ hu); rotate_left; assumption)
    | (unfold W.dep at ht; omega)
    | skip
  rename_i i t z r
  unfold l8  at he; cases he
  have := str_str (A := A) (s := s) (tx i) t (tx z) r
  rw [<- rV           ] at this
  exact this
theorem Bt{i z:List W}{EA:List V}{its':List Value}{e:Nat->Bool}{A:Around}{m:Nat}(ih:∀(a b:W) (A:Around) (x y:V) (u v:Value) (k:Bool),a.dep<=m->bM X.K μ H a x->bM X.K μ H b y->dz nk x u->dz nk y v->A.units+m<cLine->l8 a b=some k->SeqAt.EqAt A s u v k)
  (r':RelWs X.K μ H i EA) (r:RelWs X.K μ H z vs) (w':cK nk EA its') (w:cK nk vs bN) (hd:depWs i<=m) (hu:A.units+1+m<cLine) (h1:∀j (h1:j<i.length) (h2:j<z.length),l8 i[j] z[j]=some (e j)):∀j (j1:j<its'.toArray.size) (j2:j<bN.toArray.size),SeqAt.EqAt A.in1 s its'.toArray[j] bN.toArray[j] (e j):=fun j j1 j2=>by
 have j1':j<i.length:=by rw[r'.len,w'.length];simpa using j1
 have j2':j<z.length:=by rw[r.len,w.length];simpa using j2
 obtain⟨x1,g1,q1⟩:=r'.get (aj j1')
 obtain⟨x2,g2,q2⟩:=r.get (aj j2')
 obtain⟨u1,f1,v1⟩:=w'.get g1
 obtain⟨u2,f2,v2⟩:=w.get g2
 have E:=ih i[j] z[j] A.in1 x1 x2 u1 u2 (e j) (aN (uD j1') hd) q1 q2 v1 v2 hu (h1 j j1' j2')
 have t1:its'.toArray[j]=u1:=by simpa using (ax.mp f1).2
 have t2:bN.toArray[j]=u2:=by simpa using (ax.mp f2).2
 rw[t1,t2];exact E
theorem HD(I:bH X ak σ H s):∀(n:Nat) (a b:W) (A:Around) (x y:V) (u v:Value) (k:Bool),a.dep<=n->bM X.K μ H a x->bM X.K μ H b y->dz s.toks x u->dz s.toks y v->A.units+n<cLine->l8 a b=some k->SeqAt.EqAt A s u v k:=by
 intro n
 induction n with
 |zero=>exact fun a b A x y u v k hn ra rb ru rv hu he=>EX (vj I ra ru) (vj I rb rv) hu (.inr (by omega)) he
 |succ m ih=>
  intro a b A x y u v k hn ra rb ru rv hu he
  by_cases hb:b.dep=0\/a.dep=0
  ·exact EX (vj I ra ru) (vj I rb rv) #[0] hb he
  ·cases b with
   |tup z=>
    cases a with
    |tup i=>
     obtain⟨p',EA,rfl,hS',r'⟩:=id ra.tupE;cases ru;obtain⟨its',w',ht',_⟩:=I.tuple hS'
     obtain⟨p,vs,rfl,hS,r⟩:=id rb.tupE;cases rv;obtain⟨bN,w,ht,_⟩:=I.tuple hS
     by_cases AV:p'=p
     ·subst AV
      rw[HC I (m+1) (.tup i) (.tup z) (.ref p') k hn ra rb he]
      exact SeqAt.EqAt.same _
     ·obtain⟨e,h1,h2⟩:=rZ i z k (by unfold l8 at he;exact he)
      have R:=SeqAt.RcAt.tuples (A:=A) (e:=e) ht' ht #[0] (Bt ih r' r w' w (by unfold W.dep at hn;omega) #[0] h1)
      rw[show its'.toArray.size=i.length by simp[<- w'.length,<- r'.len],show bN.toArray.size=z.length by simp[<- w.length,<- r.len],h2]at R
      exact SeqAt.EqAt.of_refs AV R
    |_=>exact(hb (.inr rfl)).elim
   |_=>exact(hb (.inl rfl)).elim
theorem HE(I:bH X ak σ H s){a b:W}{x y:V}{k:Bool}(hn:b.dep=0\/a.dep<=n)(ra:bM X.K μ H a x)(rb:bM X.K μ H b y)(ru:dz s.toks x u)(rv:dz s.toks y v)(hu:A.units+n<cLine)(he:l8 a b=some k):SeqAt.RcAt A s u v k/\SeqAt.RcNeAt A s u v (!k):=by
 by_cases hb:b.dep=0\/a.dep=0
 ·exact⟨Lv (vj I ra ru) (vj I rb rv) #[0] hb he,Ga (vj I ra ru) (vj I rb rv) #[0] hb he⟩
 cases b with
 |tup z=>
  cases a with
  |tup i=>
   obtain⟨p',EA,rfl,hS',r'⟩:=ra.tupE;cases ru;obtain⟨its',w',ht',_⟩:=I.tuple hS'
   obtain⟨p,vs,rfl,hS,r⟩:=rb.tupE;cases rv;obtain⟨bN,w,ht,_⟩:=I.tuple hS
   obtain⟨e,h1,h2⟩:=rZ i z k (by unfold l8 at he;exact he)
   have hd:depWs i+1<=n:=hn.elim (fun z=>(hb (.inl z)).elim) id
   obtain⟨m,rfl⟩:∃m,n=m+1:=⟨n-1,by omega⟩
   have T:=Bt (A:=A) (HD I m) r' r w' w #[0] #[0] h1
   have R:=SeqAt.RcAt.tuples (A:=A) (e:=e) ht' ht #[0] T
   have R2:=SeqAt.RcNeAt.tuples (A:=A) (e:=e) ht' ht #[0] T
   rw[show its'.toArray.size=i.length by simp[<- w'.length,<- r'.len],show bN.toArray.size=z.length by simp[<- w.length,<- r.len],h2]at R R2
   exact⟨R,R2⟩
  |_=>exact(hb (.inr rfl)).elim
 |_=>exact(hb (.inl rfl)).elim
end
def ku:W->W->List au->R W:=fun x y st=>match l8 x y with
 |some k=>if y.dep=0\/x.dep<=64 then .ok (.bl k) st else .bad
 |none=>.bad
theorem jd(hr:jW k X.A):xR X (compareOp .Eq) ku:=⟨fun ak s σ H x y v u Q I rv ru zq=>by
 obtain⟨μ,st,wx,wy,S,rx,ry,q⟩:=zq
 unfold ku at q
 cases e:l8 wx wy with
 |none=>rw[e]at q;exact q.elim
 |some b=>
  rw[e]at q
  simp only at q
  by_cases c:wy.dep=0\/wx.dep<=64
  ·rw[aK c]at q
   have:=hr.units
   exact(HE I c rx ry rv ru this e).1 X.prog X.w X.xe _ ⟨.bl b,H,I,rfl,qc S q⟩
  ·rw[aU c]at q;exact q.elim,fun x y st=>by
 unfold ku
 split
 ·split<;>trivial
 ·trivial⟩
def Kz:W->W->List au->R W:=fun x y st=>match l8 x y with
 |some k=>if y.dep=0\/x.dep<=64 then .ok (.bl (!k)) st else .bad
 |none=>.bad
theorem OU(hr:jW k X.A):xR X (compareOp .NotEq) Kz:=⟨fun ak s σ H x y v u Q I rv ru zq=>by
 obtain⟨μ,st,wx,wy,S,rx,ry,q⟩:=zq
 unfold Kz at q
 cases e:l8 wx wy with
 |none=>rw[e]at q;exact q.elim
 |some b=>
  rw[e]at q
  simp only at q
  by_cases c:wy.dep=0\/wx.dep<=64
  ·rw[aK c]at q
   have:=hr.units
   exact(HE I c rx ry rv ru this e).2 X.prog X.w X.xe _ ⟨.bl (!b),H,I,rfl,qc S q⟩
  ·rw[aU c]at q;exact q.elim,fun x y st=>by
 unfold Kz
 split
 ·split<;>trivial
 ·trivial⟩
def x6(x:W):List W->Option Bool
 |[]=>some false
 |y::ys=>match l8 y x,x6 x ys with
  |some a,some b=>some (a||b)
  |_,_=>none
def GN(Ub:Bool)(x y:W)(st:List au):R W:=match y with
 |.str l=>(match x with
  |.str [c]=>.ok (.bl (if Ub then !decide (c∈l)else decide (c∈l))) st
  |_=>.bad)
 |.tup ys=>(match x6 x ys with
  |some k=>if depWs ys<=63 then .ok (.bl (if Ub then !k else k)) st else .bad
  |none=>.bad)
 |.loc n=>(match st[n]? with
  |some (.lst ys)=>(match x6 x ys with
   |some k=>if depWs ys<=63 then .ok (.bl (if Ub then !k else k)) st else .bad
   |none=>.bad)
  |_=>.bad)
 |_=>.bad
theorem Bu{x:W}:∀{ys:List W} {k:Bool},x6 x ys=some k->(∀(j:Nat) w,ys[j]?=some w->∃b,l8 w x=some b)/\(k=true↔∃(j:Nat) (w:W),ys[j]?=some w/\l8 w x=some true)
 |[],k,h=>by
  unfold x6 at h;cases h
  exact⟨fun j w e=>by simp at e,fun z=>(by cases z),fun⟨j,w,e,_⟩=>(by simp at e)⟩
 |y::ys,k,h=>by
  unfold x6 at h
  cases e1:l8 y x with
  |none=>rw[e1]at h;simp at h
  |some a=>
   cases e2:x6 x ys with
   |none=>rw[e1,e2]at h;simp at h
   |some b=>
    rw[e1,e2]at h
    simp at h
    obtain⟨q1,q2⟩:=Bu e2
    refine⟨fun j w e=>?_,fun z=>?_,fun⟨j,w,e,f⟩=>?_⟩
    ·cases j with
     |zero=>simp at e;subst e;exact⟨a,e1⟩
     |succ j=>exact q1 j w (by simpa using e)
    ·rw[<- h]at z
     cases a with
     |true=>exact⟨0,y,rfl,e1⟩
     |false=>
      obtain⟨j,w,p,q⟩:=q2.mp (by simpa using z)
      exact⟨j+1,w,by simpa using p,q⟩
    ·rw[<- h]
     cases j with
     |zero=>simp at e;subst e;rw[e1]at f;cases f;rfl
     |succ j=>rw[q2.mpr ⟨j,w,by simpa using e,f⟩];simp
theorem wD(I:bH X ak σ H s){wx:W}{x:V}(rx:bM X.K μ H wx x)(rv:dz s.toks x v)(n:Nat){A:Around}(hu:A.units+n<cLine)
  {ys:List W} {vs:List V} {us:List Value} {k:Bool} (hd:depWs ys<=n) (rs:RelWs X.K μ H ys vs) (u8:cK s.toks vs us) (ha:x6 wx ys=some k):∃e:Value->Bool,(∀u,u∈us.toArray->SeqAt.EqAt A s u v (e u))/\us.toArray.any e=k:=by
 classical
 obtain⟨q1,q2⟩:=Bu ha
 have at':∀(j:Nat) (u:Value),us[j]?=some u->∃w b,ys[j]?=some w/\l8 w wx=some b/\SeqAt.EqAt A s u v b:=fun j u e=>by
  have hj:j<ys.length:=by
   have h1:=(ax.mp e).1
   rw[rs.len,u8.length];exact h1
  obtain⟨b,hb⟩:=q1 j ys[j] (aj hj)
  obtain⟨y,g1,r1⟩:=rs.get (aj hj)
  obtain⟨u',f1,v1⟩:=u8.get g1
  rw[e]at f1;cases f1
  exact⟨_,b,aj hj,hb,HD I n ys[j] wx A y x u v b (aN (uD hj) hd) r1 rx v1 rv hu hb⟩
 refine⟨fun u=>decide (∃(j:Nat) (w:W),us[j]?=some u/\ys[j]?=some w/\l8 w wx=some true),fun u hu=>?_,?_⟩
 ·by_cases c:∃(j:Nat) (w:W),us[j]?=some u/\ys[j]?=some w/\l8 w wx=some true
  ·show SeqAt.EqAt A s u v (decide _)
   rw[bF c]
   obtain⟨j,w,e1,e2,e3⟩:=c
   obtain⟨w',b,f1,f2,f3⟩:=at' j u e1
   rw[e2]at f1;cases f1
   rw[e3]at f2;cases f2
   exact f3
  ·show SeqAt.EqAt A s u v (decide _)
   rw[a7 c]
   obtain⟨j,hj,e⟩:=List.mem_iff_getElem.mp (show u∈us by simpa using hu)
   have e':us[j]?=some u:=by rw[aj hj,e]
   obtain⟨w',b,f1,f2,f3⟩:=at' j u e'
   cases b with
   |false=>exact f3
   |true=>exact absurd ⟨j,w',e',f1,f2⟩ c
 ·rw[List.any_toArray]
  cases k with
  |true=>
   obtain⟨j,w,e1,e2⟩:=q2.mp rfl
   have hj:j<us.length:=by rw[<- u8.length,<- rs.len];exact(ax.mp e1).1
   exact List.any_eq_true.mpr ⟨us[j],dR hj,bF ⟨j,w,aj hj,e1,e2⟩⟩
  |false=>
   refine List.any_eq_false.mpr fun u _ c=>?_
   obtain⟨j,w,_,e1,e2⟩:=of_decide_eq_true c
   have:=q2.mpr ⟨j,w,e1,e2⟩
   cases this
theorem Lw(hr:jW k X.A):xR X (compareOp .In) (GN false):=⟨fun ak s σ H x y v u Q I rv ru zq=>by
 obtain⟨μ,st,wx,wy,S,rx,ry,q⟩:=zq
 have hu:=hr.units
 cases wy with
 |str l=>
  simp only[GN]at q
  split at q
  ·exact FW ak s σ H x y v u Q I rv ru ⟨_,_,rx.strE,ry.strE,qc S q⟩
  ·exact q.elim
 |tup ys=>
  simp only[GN]at q
  cases hk:x6 wx ys with
  |none=>rw[hk]at q;exact q.elim
  |some kk=>
   rw[hk]at q
   simp only at q
   by_cases c:depWs ys<=63
   ·rw[aK c]at q
    obtain⟨p,vs,rfl,hS,r⟩:=ry.tupE
    cases ru
    obtain⟨bN,w,ht,_⟩:=I.tuple hS
    obtain⟨e,he,ha⟩:=wD (A:=X.A.in1) I rx rv 63 (by show X.A.units+1+63<cLine;omega) c r w hk
    exact SeqAt.in_tupleAt e ht he ⟨.bl _,H,I,rfl,by rw[ha];exact qc S q⟩
   ·rw[aU c]at q;exact q.elim
 |loc n=>
  simp only[GN]at q
  cases e1:st[n]? with
  |none=>rw[e1]at q;exact q.elim
  |some cc=>
   rw[e1]at q
   cases cc with
   |lst ys=>
    simp only at q
    cases hk:x6 wx ys with
    |none=>rw[hk]at q;exact q.elim
    |some kk=>
     rw[hk]at q
     simp only at q
     by_cases c:depWs ys<=63
     ·rw[aK c]at q
      obtain⟨a1,g1,vs,k1,r⟩:=S.get e1
      obtain⟨b1,f1,rfl⟩:=ry.locE
      rw[g1]at f1;cases f1
      cases ru
      obtain⟨bN,w,ht,_⟩:=I.list (um.of k1)
      obtain⟨e,he,ha⟩:=wD (A:=X.A.in1) I rx rv 63 (by show X.A.units+1+63<cLine;omega) c r w hk
      exact SeqAt.in_listAt e ht.isList he ⟨.bl _,H,I,rfl,by rw[ha];exact qc S q⟩
     ·rw[aU c]at q;exact q.elim
   |_=>exact q.elim
 |_=>exact q.elim,fun x y st=>by
 unfold GN
 repeat' split
 all_goals trivial⟩
end L2
namespace L2
open PySem PySem.Spec PyProof.Rows
section
variable{w:World}
theorem Bv{t sl:Addr}{items:Array Value}{vl vu:Value}{lo hi:Option Int}(ht:IsTup s.heap t items)(hs:s.heap.IsSliceOf sl vl vu .none)(pl:IsPart vl lo)(pu:IsPart vu hi)
  (hw:HT.sIx items.size 0 lo=0/\HT.sIx items.size items.size hi=items.size) (h:Q (.ref t) s):wpAny #[6] A (getItem (.ref t) (.ref sl)) Q E s:=by
 obtain⟨os,hos,hcs,NJ⟩:=id hs
 have hTs:s.TypeIs (.ref sl) "slice":=⟨os,hos,hcs⟩
 unfold getItem
 try with_reducible refine dv ?_
 first|refine af (ay ?_)|skip
 refine af (wpAny_sequenceKey ht.typeIs #[3] ?_)
 refine af (bT (name:=Str.ofString "__getitem__") ht.typeIs eN
  (cm eN ht.typeIs entry_tuple_getitem ?_ (args_tuple_getitem _ _)))
 show wpAny _ _ (Builtin.Tuple.tupleItemsOf (.ref t) >>= _) _ _ s
 refine af (tupleItemsOf_ ht ?_)
 refine af (i' hTs ?_)
 rw[aK #[3]]
 refine af (HT.sliceApplied_gen hs pl pu ?_)
 have hyes:(((HT.sIx items.size 0 lo:Nat):Int)==0&&(1:Int)==1&&(HT.sIx items.size items.size hi-HT.sIx items.size 0 lo)==items.size)=true:=by
  rw[hw.1,hw.2];simp
 show wpAny _ _ (if (((HT.sIx items.size 0 lo:Nat):Int)==0&&(1:Int)==1&&(HT.sIx items.size items.size hi-HT.sIx items.size 0 lo)==items.size)=true then _ else _) _ _ s
 rw[aK hyes]
 unfold Builtin.Tuple.tupleIsExact
 obtain⟨ot,hot,hct,nt,hdt⟩:=id ht
 refine af (af (i' (T:="tuple") ht.typeIs ?_))
 refine ay ?_
 rw[aK #[3]]
 exact af (kU (ay ⟨_,rfl,ay h⟩))
end
section
variable{a b:Expr}{fb fc:FE}{fs:FA}
def lstOf(st:List au)(n:Nat):Option (List W):=match st[n]? with
 |some (.lst ws)=>some ws
 |some (.ro ws)=>some ws
 |_=>none
theorem jC.lstOf(S:jC K mg μ st H)(h:lstOf st n=some ws):∃a vs,μ[n]?=some a/\um K H a vs/\RelWs K μ H ws vs:=by
 unfold L2.lstOf at h
 cases e:st[n]? with
 |none=>rw[e]at h;cases h
 |some cc=>
  rw[e]at h
  cases cc with
  |lst zs=>cases h;obtain⟨a,g,vs,k,r⟩:=S.get e;exact⟨a,vs,g,um.of k,r⟩
  |ro zs=>cases h;obtain⟨a,g,vs,k,r⟩:=S.get e;exact⟨a,vs,g,k.sq,r⟩
  |exc zs=>cases h
  |dct zs=>cases h
  |rod zs=>cases h
  |dcx zs=>cases h
  |rox zs=>cases h
  |obj _ _=>cases h
  |tab _ _ _=>cases h
  |pin _ _ _ _=>cases h
  |gone=>cases h
def uE(o:Option α)(k:α->R W):R W:=match o with
 |some a=>k a
 |none=>.bad
@[simp] theorem eY{α:Type}(a:α)(k:α->R W):uE (some a) k=k a:=rfl
def bu(x y:W)(st:List au):R W:=match x,y with
 |.tup ws,.int i=>uE (uu ws i) fun w=>.ok w st
 |.str l,.int i=>if l.length<=nO then uE (uu l i) (fun c=>.ok (.str [c]) st)else .bad
 |.loc n,.int i=>uE (lstOf st n) fun ws=>uE (uu ws i) fun w=>.ok w st
 |_,_=>.bad
theorem EY{i:Int}{w:W}(r:RelWs K μ H ws vs)(h:uu ws i=some w):∃v,uu vs i=some v/\bM K μ H w v:=by
 unfold uu at h ⊢
 rw[<- r.len]
 cases e:EI ws.length i with
 |none=>rw[e]at h;cases h
 |some k=>rw[e]at h;exact r.get h
theorem Vl:Kx X (Vk X bu):=fun value slice ak s σ H x y v u Q I rv ru zq hs=>by
 obtain⟨μ,st,wx,wy,S,rx,ry,q⟩:=zq
 refine Oy value slice ak s σ H x y v u Q I rv ru ?_ hs
 cases wy with
 |int i=>
  cases wx with
  |tup ws=>
   simp only[bu]at q
   cases e1:uu ws i with
   |none=>rw[e1]at q;exact q.elim
   |some w=>
    rw[e1]at q
    obtain⟨p,vs,rfl,hS,r⟩:=rx.tupE
    obtain⟨z,f,g⟩:=EY r e1
    exact .inr (.inl ⟨p,vs,i,z,rfl,ry.intE,hS,f,q μ z H (aq _) fE.refl S g⟩)
  |str l=>
   simp only[bu]at q
   by_cases c:l.length<=nO
   ·rw[aK c]at q
    cases e1:uu l i with
    |none=>rw[e1]at q;exact q.elim
    |some w=>
     rw[e1]at q
     exact .inr (.inr ⟨_,i,w,rx.strE,ry.intE,by rw[jB];exact p8 c,by rw[OB];exact e1,sY S q⟩)
   ·rw[aU c]at q;exact q.elim
  |loc n=>
   simp only[bu]at q
   cases e0:lstOf st n with
   |none=>rw[e0]at q;exact q.elim
   |some ws=>
    rw[e0]at q
    cases e1:uu ws i with
    |none=>rw[eY,e1]at q;exact q.elim
    |some w=>
     rw[eY,e1]at q
     obtain⟨a,vs,g,hS,r⟩:=S.lstOf e0
     obtain⟨b1,f1,rfl⟩:=rx.locE
     rw[g]at f1;cases f1
     obtain⟨z,f,g⟩:=EY r e1
     exact .inl ⟨_,vs,i,z,rfl,ry.intE,hS,f,q μ z H (aq _) fE.refl S g⟩
  |_=>exact q.elim
 |_=>cases wx<;>exact q.elim
theorem vk{o:Option α}{k:α->R W}(h:∀a,vC (k a)):vC (uE o k):=by
 unfold uE
 split
 ·exact h _
 ·trivial
theorem Sa(x y:W)(st:List au):vC (bu x y st):=by
 unfold bu
 split
 ·exact vk fun _=>trivial
 ·split
  ·exact vk fun _=>trivial
  ·trivial
 ·exact vk fun _=>vk fun _=>trivial
 ·trivial
theorem be(ha:SE X a fa)(hb:SE X b fb)(hs:EK b:=by intro _ _;rfl):SE X (.Subscript a b pos) (e2 bu fa fb):=⟨(RF Vl ha.h hb.h hs).imp fun _ _ _ h=>EV Sa h⟩
abbrev FO:=cV->List au->R (Option Int)
abbrev Vm:List Addr->Hp->Option Int->Option Int->Prop:=fun _ _ a b=>a=b
structure SO(X:Cx)(e:Option Expr)(f:FO):Prop where
 h:PO X e (tG X Vm f)
def gM:FO:=fun _ st=>.ok none st
def eW(fa:FE):FO:=fun ρ st=>(fa ρ st).bind fun x st=>match x with
 |.int i=>.ok (some i) st
 |_=>.bad
theorem PO.imp{e:Option Expr}{t t':TO}(h:PO X e t)(i:∀σ H Q,t' σ H Q->t σ H Q):PO X e t':=fun ak s σ H Q I q=>h ak s σ H Q I (i _ _ _ q)
theorem e_:SO X none gM:=⟨K7.imp fun σ H Q h=>by
 walk_at "2"
 exact h μ none H (aq _) fE.refl l.sto rfl⟩
theorem dr(ha:SE X a fa):SO X (some a) (eW fa):=⟨(K8 ha.h).imp fun σ H Q h=>by
 walk_at "2"
 walk_at "1"
 cases x with
 |int k=>exact⟨k,q1.intE,h1 μ1 _ H1 (aq _) fE.refl l1.sto rfl⟩
 |_=>exact h1.elim⟩
def j4(xs:List α)(lo hi:Option Int):List α:=(xs.drop (HT.sIx xs.length 0 lo)).take (HT.sIx xs.length xs.length hi-HT.sIx xs.length 0 lo)
def wE(x:W)(lo hi:Option Int)(st:List au):R W:=match x with
 |.tup ws=>.ok (.tup (j4 ws lo hi)) st
 |.str l=>if l.length<=nO then .ok (.str (j4 l lo hi)) st else .bad
 |.loc n=>uE (lstOf st n) fun ws=>.ok (.loc st.length) (st++[.lst (j4 ws lo hi)])
 |_=>.bad
theorem Sb(x:W)(lo hi:Option Int)(st:List au):vC (wE x lo hi st):=by
 unfold wE uE
 repeat' split
 all_goals trivial
def rk(fa:FE)(fl fh:FO):FE:=fun ρ st=>(fa ρ st).bind fun x st=>(fl ρ st).bind fun l st=>(fh ρ st).bind fun h st=>wE x l h st
theorem Vn:RD X (fun x lo hi H Q=>∃μ st wx,jC X.K X.mg μ st H/\bM X.K μ H wx x/\GL X μ H Q (wE wx lo hi st)):=by
 intro ak s σ H x v vl vu lo hi sl Q I rv hs pl pu ⟨μ,st,wx,S,rx,q⟩
 cases wx with
 |tup ws=>
  obtain⟨p,vs,rfl,hS,r⟩:=rx.tupE
  have hl:=r.len
  by_cases hw:HT.sIx vs.length 0 lo=0/\HT.sIx vs.length vs.length hi=vs.length
  ·cases rv
   obtain⟨bN,w,ht,hz⟩:=I.tuple hS
   have gB:bN.toArray.size=vs.length:=by rw[aT];exact w.length.symm
   refine⟨"tuple",_,eN.lookup,ht.typeIs,Bv ht hs pl pu (by rw[gB];exact hw) ⟨.ref p,H,I,rfl,?_⟩⟩
   have e:j4 ws lo hi=ws:=by
    unfold j4
    rw[hl,hw.1,hw.2,List.drop_zero,Nat.sub_zero,<- hl,cJ]
   have q':GL X μ H Q (.ok (.tup (j4 ws lo hi)) st):=q
   rw[e]at q'
   exact q' μ _ H (aq _) fE.refl S rx
  ·refine Ou ak s σ H _ v vl vu lo hi sl Q I rv hs pl pu ⟨p,vs,rfl,hS,hw,fun p2 KI=>?_⟩
   have x:=gy.same (K:=X.K) (cS KI (.tup (we vs lo hi)))
   have rc:RelWs X.K μ H (j4 ws lo hi) (we vs lo hi):=by
    unfold j4 we
    rw[hl]
    exact(r.drop _).take _
   exact q μ _ _ (aq _) x (S.same (cS KI _)) (.tupI gy.new (rc.mono (aq _) x))
 |str l=>
  simp only[wE]at q
  by_cases c:l.length<=nO
  ·rw[aK c]at q
   exact OE ak s σ H _ v vl vu lo hi sl Q I rv hs pl pu ⟨l,rx.strE,p8 c,sY S q⟩
  ·rw[aU c]at q;exact q.elim
 |loc n=>
  simp only[wE]at q
  cases e0:lstOf st n with
  |none=>rw[e0]at q;exact q.elim
  |some ws=>
   rw[e0]at q
   obtain⟨a,vs,g,hS,r⟩:=S.lstOf e0
   obtain⟨b1,f1,rfl⟩:=rx.locE
   rw[g]at f1;cases f1
   have hl:=r.len
   refine K' ak s σ H _ v vl vu lo hi sl Q I rv hs pl pu ⟨_,vs,rfl,hS,fun p2 KI=>?_⟩
   have rc:RelWs X.K μ H (j4 ws lo hi) (we vs lo hi):=by
    unfold j4 we
    rw[hl]
    exact(r.drop _).take _
   exact q (μ++[p2]) _ _ (a_ _ _) (gy.same (cS KI _)) (S.newLst KI rc) (qb S)
 |_=>exact q.elim
theorem l9{lo hi:Option Expr}{fl fh:FO}(ha:SE X a fa)(hl:SO X lo fl)(hh:SO X hi fh):SE X (.Subscript a (.Slice lo hi none p2) pos) (rk fa fl fh):=⟨(G' Vn ha.h hl.h hh.h).imp fun σ H Q h=>by
 walk_at "2"
 refine⟨μ,ρ,st,l,RK.bind h l fun μ1 st1 x v H1 p1 x1 l1 q1 h1=>⟨μ1,ρ,st1,l1,RK.bind h1 l1 fun μ2 c_ y u H2 p2 x2 l2 q2 h2=>⟨μ2,ρ,c_,l2,RK.bind h2 l2 fun μ3 nL z t H3 p3 x3 l3 q3 h3=>?_⟩⟩⟩
 cases q2;cases q3
 exact⟨μ3,nL,x,l3.sto,(q1.mono p2 x2).mono p3 x3,uy h3 (Sb _ _ _ _)⟩⟩
def VZ(X:Cx)(F:List W->List au->R W):List V->Hp->VK->Prop:=fun vs H Q=>∃μ st ws,jC X.K X.mg μ st H/\RelWs X.K μ H ws vs/\GL X μ H Q (F ws st)
structure qd(X:Cx)(f:Value)(F:List W->List au->R W):Prop where
 h:jb X f (VZ X F)
 n:∀ws st,vC (F ws st)
def bJ(F:List W->List au->R W)(fs:FA):FE:=fun ρ st=>(fs ρ st).bind fun ws st=>F ws st
theorem EZ{Q:VK}(n:∀ws st,vC (F ws st))(h:tE X (bJ F fs) σ H Q):U5 (VZ X F) (R1 X fs) σ H Q:=by
 walk_at "2"
 exact⟨μ,ρ,st,l,RK.bind h l fun μ1 st1 x v H1 p1 x1 l1 q1 h1=>⟨μ1,st1,x,l1.sto,q1,uy h1 (n _ _)⟩⟩
theorem bS{id:String}(hc:qd X (.builtin id) F)(hm:X.mg x=none)(hv:bootBuiltins x=some (.builtin id))(ha:SA X (e::es) fs)(hg:Gl X x:=by rfl)(hn:x ≠ "__name__":=by decide)(J9:(x==("__debug__":Str))=false:=by decide)
  (he:starEach (e::es) X.env=(false,eval e X.env)::starEach es X.env:=by rfl) (on:(backTo pos (starEach es X.env)).any (·.1)=false:=by rfl):SE X (.Call (.Name x p) (e::es) [] pos) (bJ F fs):=⟨(p7 hc.h hg hm hv ha.h hn J9 he on).imp fun _ _ _ h=>EZ hc.n h⟩
theorem gg(hc:qd X (.type T) F)(hm:X.mg x=none)(hv:bootBuiltins x=some (.type T))(ha:SA X (e::es) fs)(hg:Gl X x:=by rfl)(hn:x ≠ "__name__":=by decide)(J9:(x==("__debug__":Str))=false:=by decide)
  (he:starEach (e::es) X.env=(false,eval e X.env)::starEach es X.env:=by rfl) (on:(backTo pos (starEach es X.env)).any (·.1)=false:=by rfl):SE X (.Call (.Name x p) (e::es) [] pos) (bJ F fs):=⟨(FP hc.h hg hm hv ha.h hn J9 he on).imp fun _ _ _ h=>EZ hc.n h⟩
theorem RelWs.two{a b:W}(r:RelWs K μ H [a,b] vs):∃x y,vs=[x,y]/\bM K μ H a x/\bM K μ H b y:=by
 obtain⟨x,xs,rfl,rx,rn⟩:=r.consE
 obtain⟨y,ys,rfl,ry,rm⟩:=rn.consE
 rw[rm.nilE];exact⟨x,y,rfl,rx,ry⟩
theorem RelWs.one{a:W}(r:RelWs K μ H [a] vs):∃x,vs=[x]/\bM K μ H a x:=by
 obtain⟨x,xs,rfl,rx,rn⟩:=r.consE
 rw[rn.nilE];exact⟨x,rfl,rx⟩
def dG(ws:List W)(st:List au):R W:=match ws with
 |[.tup xs]=>.ok (.int xs.length) st
 |[.str l]=>if l.length<=nO then .ok (.int l.length) st else .bad
 |[.loc n]=>uE (lstOf st n) fun xs=>.ok (.int xs.length) st
 |_=>.bad
theorem dO:qd X (.builtin "len") dG:=⟨fun ak s σ H vs us Q I rv zq=>by
 obtain⟨μ,st,ws,S,r,q⟩:=zq
 unfold dG at q
 split at q
 ·obtain⟨x,rfl,rx⟩:=r.one
  obtain⟨p,ys,rfl,hS,r'⟩:=rx.tupE
  exact sP ak s σ H _ us Q I rv ⟨p,ys,rfl,.inr hS,by rw[<- r'.len];exact l7 S q⟩
 ·obtain⟨x,rfl,rx⟩:=r.one
  split at q
  ·rename_i c
   exact zA ak s σ H _ us Q I rv ⟨_,by rw[rx.strE],by rw[jB];exact p8 c,by rw[jB];exact l7 S q⟩
  ·exact q.elim
 ·obtain⟨x,rfl,rx⟩:=r.one
  unfold uE at q
  split at q
  ·rename_i ys e0
   obtain⟨a,vs,g,hS,r'⟩:=S.lstOf e0
   obtain⟨b1,f1,rfl⟩:=rx.locE
   rw[g]at f1;cases f1
   exact sP ak s σ H _ us Q I rv ⟨_,vs,rfl,.inl hS,by rw[<- r'.len];exact l7 S q⟩
  ·exact q.elim
 ·exact q.elim,fun ws st=>by
 unfold dG uE
 repeat' split
 all_goals trivial⟩
def DA(ws:List W)(st:List au):R W:=match ws with
 |[.int i,.int j]=>.ok (.int (if j>i then j else i)) st
 |_=>.bad
def Gb(ws:List W)(st:List au):R W:=match ws with
 |[.int i,.int j]=>.ok (.int (if j<i then j else i)) st
 |_=>.bad
theorem Sc(hc:X.calm=true:=by rfl):qd X (.builtin "max") DA:=⟨fun ak s σ H vs us Q I rv zq=>by
 obtain⟨μ,st,ws,S,r,q⟩:=zq
 unfold DA at q
 split at q
 ·obtain⟨x,y,rfl,rx,ry⟩:=r.two
  exact FH hc ak s σ H _ us Q I rv ⟨_,_,by rw[rx.intE,ry.intE],l7 S q⟩
 ·exact q.elim,fun ws st=>by unfold DA;split<;>trivial⟩
theorem Sd(hc:X.calm=true:=by rfl):qd X (.builtin "min") Gb:=⟨fun ak s σ H vs us Q I rv zq=>by
 obtain⟨μ,st,ws,S,r,q⟩:=zq
 unfold Gb at q
 split at q
 ·obtain⟨x,y,rfl,rx,ry⟩:=r.two
  exact FJ hc ak s σ H _ us Q I rv ⟨_,_,by rw[rx.intE,ry.intE],l7 S q⟩
 ·exact q.elim,fun ws st=>by unfold Gb;split<;>trivial⟩
def je(ws:List W)(st:List au):R W:=match ws with
 |[.tup xs]=>.ok (.tup xs) st
 |[.loc n]=>uE (lstOf st n) fun xs=>.ok (.tup xs) st
 |_=>.bad
theorem kZ:qd X (.type "tuple") je:=⟨fun ak s σ H vs us Q I rv zq=>by
 obtain⟨μ,st,ws,S,r,q⟩:=zq
 unfold je at q
 split at q
 ·obtain⟨x,rfl,rx⟩:=r.one
  obtain⟨p,ys,rfl,hS,r'⟩:=id rx.tupE
  exact A_ ak s σ H _ us Q I rv ⟨p,ys,rfl,hS,q μ _ H (aq _) fE.refl S rx⟩
 ·obtain⟨x,rfl,rx⟩:=r.one
  unfold uE at q
  split at q
  ·rename_i ys e0
   obtain⟨a,vs,g,hS,r'⟩:=S.lstOf e0
   obtain⟨b1,f1,rfl⟩:=rx.locE
   rw[g]at f1;cases f1
   refine Bc ak s σ H _ us Q I rv ⟨_,vs,rfl,hS,fun l H2 hl e=>?_⟩
   subst e
   have x:=gy.same (K:=X.K) (cS hl (.tup vs))
   exact q μ _ _ (aq _) x (S.same (cS hl _)) (.tupI gy.new (r'.mono (aq _) x))
  ·exact q.elim
 ·exact q.elim,fun ws st=>by
 unfold je uE
 repeat' split
 all_goals trivial⟩
def yO(ws:List W)(st:List au):R W:=match ws with
 |[.tup xs]=>.ok (.loc st.length) (st++[.lst xs])
 |[.loc n]=>uE (lstOf st n) fun xs=>.ok (.loc st.length) (st++[.lst xs])
 |_=>.bad
theorem OV:qd X (.type "list") yO:=⟨fun ak s σ H vs us Q I rv zq=>by
 obtain⟨μ,st,ws,S,r,q⟩:=zq
 unfold yO at q
 split at q
 ·obtain⟨x,rfl,rx⟩:=r.one
  obtain⟨p,ys,rfl,hS,r'⟩:=id rx.tupE
  refine wm ak s σ H _ us Q I rv ⟨p,ys,rfl,.inr hS,fun l H2 hl e=>?_⟩
  subst e
  exact q (μ++[l]) _ _ (a_ _ _) (gy.same (cS hl _)) (S.newLst hl r') (qb S)
 ·obtain⟨x,rfl,rx⟩:=r.one
  unfold uE at q
  split at q
  ·rename_i ys e0
   obtain⟨a,vs,g,hS,r'⟩:=S.lstOf e0
   obtain⟨b1,f1,rfl⟩:=rx.locE
   rw[g]at f1;cases f1
   refine wm ak s σ H _ us Q I rv ⟨_,vs,rfl,.inl hS,fun l H2 hl e=>?_⟩
   subst e
   exact q (μ++[l]) _ _ (a_ _ _) (gy.same (cS hl _)) (S.newLst hl r') (qb S)
  ·exact q.elim
 ·exact q.elim,fun ws st=>by
 unfold yO uE
 repeat' split
 all_goals trivial⟩
def Gd(ws:List W)(st:List au):R W:=match ws with
 |[.int i]=>.ok (.int i) st
 |[.bl k]=>.ok (.int (if k then 1 else 0)) st
 |_=>.bad
theorem My:qd X (.type "int") Gd:=⟨fun ak s σ H vs us Q I rv zq=>by
 obtain⟨μ,st,ws,S,r,q⟩:=zq
 unfold Gd at q
 split at q
 ·obtain⟨x,rfl,rx⟩:=r.one
  exact yB ak s σ H _ us Q I rv (.inl ⟨_,by rw[rx.intE],l7 S q⟩)
 ·obtain⟨x,rfl,rx⟩:=r.one
  exact yB ak s σ H _ us Q I rv (.inr ⟨_,by rw[rx.blE],l7 S q⟩)
 ·exact q.elim,fun ws st=>by unfold Gd;split<;>trivial⟩
end
section
variable{a b:Expr}{fb fc:FE}{fs:FA}{ft:FT}{st1:Stmt}{sr sa sb:List Stmt}{g g':FS}
def aM(g g':FS):FS:=fun ρ st=>match g ρ st with
 |.nx ρ' bg=>g' ρ' bg
 |r=>r
def bW:FS:=fun ρ st=>.nx ρ st
theorem bO:SB X [] bW:=⟨KO.imp fun D σ H h=>by
 walk_at "2"
 exact h μ σ H (aq _) fE.refl l⟩
theorem aH(h1:SS X st1 g):SB X [st1] g:=⟨KP h1.h⟩
theorem av(h1:SS X st1 g)(h2:SB X sr g'):SB X (st1::sr) (aM g g'):=⟨(GU h1.h h2.h).imp fun D σ H h=>by
 walk_at "2"
 refine⟨μ,ρ,st,l,?_⟩
 unfold aM at h
 cases e:g ρ st with
 |nx ρ' bg=>rw[e]at h;exact fun μ' σ' H' p x l'=>⟨μ',ρ',bg,l',SK.mono h p x⟩
 |rt w bg=>rw[e]at h;exact h
 |bk ρ' bg=>rw[e]at h;exact h
 |ct ρ' bg=>rw[e]at h;exact h
 |ex c ρ' bg=>rw[e]at h;exact h
 |bad=>rw[e]at h;exact h⟩
def DB:FS:=fun ρ st=>.bk ρ st
theorem HF:SS X (.Break pos) DB:=⟨GV.imp fun D σ H h=>by
 walk_at "2"
 exact h μ σ H (aq _) fE.refl l⟩
def R.stmt(r:R α)(ρ:cV)(k:α->List au->RS):RS:=match r with
 |.ok a st=>k a st
 |.ex c st=>.ex c ρ st
 |.bad=>.bad
@[simp] theorem R.stmt_ok{α:Type}(a:α)(st:List au)(ρ:cV)(k:α->List au->RS):(R.ok a st).stmt ρ k=k a st:=rfl
theorem RK.stmt{rel:List Addr->Hp->α->β->Prop}{D:zv}{r:R α}{k:α->List au->RS}{T:β->Hp->Prop}
  (h:SK X μ H D (r.stmt ρ k)) (l:Rl X μ ρ st σ H)
  (hk:∀μ' bg x v H',μ <+: μ'->fE X.K H H'->Rl X μ' ρ bg σ H'->rel μ' H' x v->SK X μ' H' D (k x bg)->T v H'):RK X rel μ σ H T r:=by
 cases r with
 |ok a bg=>exact fun μ' b H' p x s q=>hk μ' bg a b H' p x (l.to p x s) q (SK.mono h p x)
 |ex c bg=>exact XS.toE h l
 |bad=>exact h
def dm(fe:FE):FS:=fun ρ st=>(fe ρ st).stmt ρ fun _ st=>.nx ρ st
theorem cI(he:SE X e fe)(hs:swapsWith e none pos.line X.env=pure false:=by rfl):SS X (.Expr e pos) (dm fe):=⟨(KQ he.h hs).imp fun D σ H h=>by
 walk_at "2"
 exact⟨μ,ρ,st,l,RK.stmt h l fun μ1 st1 x v H1 p1 x1 l1 q1 h1=>h1 μ1 σ H1 (aq _) fE.refl l1⟩⟩
def cQ(fe:FE):FS:=fun ρ st=>(fe ρ st).stmt ρ fun w st=>.rt w st
theorem bh(he:SE X e fe):SS X (.Return (some e) pos) (cQ fe):=⟨(N7 he.h).imp fun D σ H h=>by
 walk_at "2"
 exact⟨μ,ρ,st,l,RK.stmt h l fun μ1 st1 x v H1 p1 x1 l1 q1 h1=>h1 μ1 v H1 (aq _) fE.refl l1.sto q1⟩⟩
def gz(t:FT)(g g':FS):FS:=fun ρ st=>(t ρ st).stmt ρ fun k st=>if k then g ρ st else g' ρ st
theorem cH(hc:ST X c ft)(ha:SB X sa g)(hb:SB X sb g'):SS X (.If c sa sb pos) (gz ft g g'):=⟨(Rm hc.h ha.h hb.h).imp fun D σ H h=>by
 walk_at "2"
 refine⟨μ,ρ,st,l,RK.stmt h l fun μ1 st1 x v H1 p1 x1 l1 q1 h1=>?_⟩
 cases q1
 cases x with
 |true=>exact⟨μ1,ρ,st1,l1,h1⟩
 |false=>exact⟨μ1,ρ,st1,l1,h1⟩⟩
abbrev FG:=W->cV->Option cV
abbrev Mz:=List W->cV->Option cV
def Se(X:Cx)(f:FG):TG:=fun v σ H Q=>∃μ ρ st w ρ',Rl X μ ρ st σ H/\bM X.K μ H w v/\f w ρ=some ρ'/\∀σ',Rl X μ ρ' st σ' H->Q σ' H
def Vo(X:Cx)(f:Mz):KR:=fun vs σ H Q=>∃μ ρ st ws ρ',Rl X μ ρ st σ H/\RelWs X.K μ H ws vs/\f ws ρ=some ρ'/\∀σ',Rl X μ ρ' st σ' H->Q σ' H
theorem PG.imp{t t':TG}(h:PG X e t)(i:∀v σ H Q,t' v σ H Q->t v σ H Q):PG X e t':=fun ak s σ H x u Q I r q=>h ak s σ H x u Q I r (i _ _ _ _ q)
theorem Mp.imp{e:List Expr}{t t':KR}(h:Mp X e t)(i:∀v σ H Q,t' v σ H Q->t v σ H Q):Mp X e t':=fun ak s σ H x u Q I r q=>h ak s σ H x u Q I r (i _ _ _ _ q)
structure SG(X:Cx)(e:Expr)(f:FG):Prop where
 h:PG X e (Se X f)
structure Us(X:Cx)(e:List Expr)(f:Mz):Prop where
 h:Mp X e (Vo X f)
def kH(i:Nat):FG:=fun w ρ=>some (ρ.set i (some w))
theorem E0(hN:X.N.Nodup)(hi:X.N[i]?=some x)(hx:Kw X.env.scope x)(hf:X.fn x=true\/X.env.scope.names.lookup x=some .local:=by first|exact .inl rfl|exact .inr rfl|assumption):SG X (.Name x pos) (kH i):=⟨(KT hN hi hx hf).imp fun v σ H Q h=>by
 obtain⟨μ,ρ,st,w,ρ',l,r,e,q⟩:=h
 cases e
 exact q _ ⟨sT r i l.env,l.sto⟩⟩
def rq:Mz:=fun ws ρ=>match ws with
 |[]=>some ρ
 |_=>none
def gq(f:FG)(fs:Mz):Mz:=fun ws ρ=>match ws with
 |w::ws=>(f w ρ).bind fun ρ'=>fs ws ρ'
 |[]=>none
theorem l_:Us X [] rq:=⟨KU.imp fun vs σ H Q h=>by
 obtain⟨μ,ρ,st,ws,ρ',l,r,e,q⟩:=h
 cases ws with
 |nil=>cases e;exact⟨r.nilE,q σ l⟩
 |cons _ _=>cases e⟩
theorem d7{f:FG}{fs:Mz}(h1:SG X e f)(h2:Us X es fs)(hs:(assignEach (e::es) X.env).map (·.2)=assign e X.env::(assignEach es X.env).map (·.2):=by rfl):Us X (e::es) (gq f fs):=⟨(GX h1.h h2.h hs).imp fun vs σ H Q h=>by
 obtain⟨μ,ρ,st,ws,ρ',l,r,e,q⟩:=h
 cases ws with
 |nil=>cases e
 |cons w ws=>
  obtain⟨x,xs,rfl,rx,rs⟩:=r.consE
  simp only[gq]at e
  cases e1:f w ρ with
  |none=>rw[e1]at e;cases e
  |some ρ1=>
   rw[e1]at e
   exact⟨x,xs,rfl,μ,ρ,st,w,ρ1,l,rx,e1,fun σ1 l1=>⟨μ,ρ1,st,ws,ρ',l1,rs,e,q⟩⟩⟩
def HG(n:Nat)(fs:Mz):FG:=fun w ρ=>match w with
 |.tup ws=>if ws.length=n then fs ws ρ else none
 |_=>none
theorem oy{k:Nat}{fs:Mz}(hc:X.calm=true)(h:Us X es fs)(hn:(assignEach es X.env).length=n:=by rfl)(oZ:(assignEach es X.env).findIdx? (·.1)=none:=by rfl):SG X (.Tuple es k pos) (HG n fs):=⟨(N8 hc h.h hn oZ).imp fun v σ H Q h=>by
 obtain⟨μ,ρ,st,w,ρ',l,r,e,q⟩:=h
 cases w with
 |tup ws=>
  obtain⟨p,vs,rfl,hS,rs⟩:=r.tupE
  simp only[HG]at e
  by_cases c:ws.length=n
  ·rw[aK c]at e
   exact⟨p,vs,rfl,hS,by rw[<- rs.len];exact c,μ,ρ,st,ws,ρ',l,rs,e,q⟩
  ·rw[aU c]at e;cases e
 |_=>cases e⟩
def wF(fe:FE)(f:FG):FS:=fun ρ st=>(fe ρ st).stmt ρ fun w st=>match f w ρ with
 |some ρ'=>.nx ρ' st
 |none=>.bad
theorem Sf{f:FG}{D:zv}(h:Ur X (wF fe f) D σ H):GY (tE X fe) (Se X f) D σ H:=by
 walk_at "2"
 refine⟨μ,ρ,st,l,RK.stmt h l fun μ1 st1 x v H1 p1 x1 l1 q1 h1=>?_⟩
 cases e1:f x ρ with
 |none=>rw[e1]at h1;exact h1.elim
 |some ρ'=>rw[e1]at h1;exact⟨μ1,ρ,st1,x,ρ',l1,q1,e1,fun σ' l'=>h1 μ1 σ' H1 (aq _) fE.refl l'⟩
theorem DC{f:FG}(he:SE X e fe)(hg:SG X tg f)(hs:swapsWithSole [tg] e pos.line X.env=pure false:=by rfl)(hw:swappedStores [tg] e X.env=pure none:=by rfl)(h1:(assignEach [tg] X.env).map (·.2)=[assign tg X.env]:=by rfl):SS X (.Assign [tg] e pos) (wF fe f):=⟨(GZ he.h hg.h hs hw h1).imp fun D σ H h=>Sf h⟩
def bd(i:Nat)(fe:FE):FS:=fun ρ st=>(fe ρ st).stmt ρ fun w st=>.nx (ρ.set i (some w)) st
theorem OW(hN:X.N.Nodup)(hi:X.N[i]?=some x)(hx:Kw X.env.scope x)(he:SE X e fe)(hs:swapsWith e (some (.Name x i9)) pos.line X.env=pure false:=by rfl)(hf:X.fn x=true\/X.env.scope.names.lookup x=some .local:=by first|exact .inl rfl|exact .inr rfl|assumption) :
  SS X (.Assign [.Name x i9] e pos) (bd i fe):=⟨(N_ hN hi hx he.h hs hf).imp fun D σ H h=>by
 walk_at "2"
 exact⟨μ,ρ,st,l,RK.stmt h l fun μ1 st1 x v H1 p1 x1 l1 q1 h1=>h1 μ1 _ H1 (aq _) fE.refl ⟨sT q1 i l1.env,l1.sto⟩⟩⟩
def rC(x i v:W)(st:List au):Option (List au):=match x,i with
 |.loc n,.int k=>(match st[n]? with
  |some (.lst ws)=>(EI ws.length k).map fun j=>st.set n (.lst (ws.set j v))
  |_=>none)
 |_,_=>none
def Bw(fo fi fe:FE)(f:W->W->W->List au->Option (List au)):FS:=fun ρ st=>(fe ρ st).stmt ρ fun v st=>(fo ρ st).stmt ρ fun x st=>(fi ρ st).stmt ρ fun i st=>match f x i v st with
 |some bg=>.nx ρ bg
 |none=>.bad
def MA(X:Cx)(f:W->W->W->List au->Option (List au)):KS:=fun o i v H Q=>∃μ st wo wi wv bg,jC X.K X.mg μ st H/\bM X.K μ H wo o/\bM X.K μ H wi i/\bM X.K μ H wv v/\f wo wi wv st=some bg/\∀H',fE X.K H H'->jC X.K X.mg μ bg H'->Q H'
theorem DD:GW X (MA X rC):=fun ak s σ H o i v ov iv u Q I r1 r2 r3 zq=>by
 obtain⟨μ,st,wo,wi,wv,bg,S,ro,ri,rv,e,q⟩:=zq
 cases wo with
 |loc n=>
  cases wi with
  |int k=>
   simp only[rC]at e
   cases e1:st[n]? with
   |none=>rw[e1]at e;cases e
   |some cc=>
    rw[e1]at e
    cases cc with
    |lst ws=>
     simp only at e
     cases e2:EI ws.length k with
     |none=>rw[e2]at e;cases e
     |some jj=>
      rw[e2]at e
      cases e
      obtain⟨a1,g1,vs,k1,r⟩:=S.get e1
      obtain⟨b1,f1,rfl⟩:=ro.locE
      rw[g1]at f1;cases f1
      refine FY ak s σ H _ i v ov iv u Q I r1 r2 r3 ⟨a1,vs,k,jj,rfl,ri.intE,k1,by rw[<- r.len];exact e2,fun H2 eH=>?_⟩
      subst eH
      exact q _ (gy.but mU k1) (S.set e1 g1 k1 (r.setI jj rv))
    |_=>cases e
  |_=>cases e
 |_=>cases wi<;>cases e
theorem DE{f:W->W->W->List au->Option (List au)}{i:Expr}{fi:FE}(QT:GW X (MA X f))(he:SE X e fe)(ho:SE X o fo)(hi:SE X i fi)
  (ha:∀v,assign (.Subscript o i i9) X.env v=(do
   let ov <- holding [v] (eval o X.env)
   let iv <- holding [v,ov] (eval i X.env)
   standAt i9
   holding [v,ov,iv] (setItem ov iv v)
   release [v,ov,iv] []):=by intro _;rfl)
  (hs:swapsWithSole [.Subscript o i i9] e pos.line X.env=pure false:=by rfl) (hw:swappedStores [.Subscript o i i9] e X.env=pure none:=by rfl) (h1:(assignEach [.Subscript o i i9] X.env).map (·.2)=[assign (.Subscript o i i9) X.env]:=by rfl) :
  SS X (.Assign [.Subscript o i i9] e pos) (Bw fo fi fe f):=⟨(GZ he.h (N9 ho.h hi.h QT ha) hs hw h1).imp fun D σ H h=>by
 walk_at "2"
 refine⟨μ,ρ,st,l,RK.stmt h l fun μ1 st1 v vv H1 p1 x1 l1 q1 h1=>⟨μ1,ρ,st1,l1,RK.stmt h1 l1 fun μ2 c_ x xv H2 p2 x2 l2 q2 h2=>⟨μ2,ρ,c_,l2,RK.stmt h2 l2 fun μ3 nL i iv H3 p3 x3 l3 q3 h3=>?_⟩⟩⟩
 cases e1:f x i v nL with
 |none=>rw[e1]at h3;exact h3.elim
 |some bg=>
  rw[e1]at h3
  exact⟨μ3,nL,x,i,v,bg,l3.sto,q2.mono p3 x3,q3,(q1.mono p2 x2).mono p3 x3,e1,fun H' xx S'=>h3 μ3 σ H' (aq _) xx (l3.to (aq _) xx S')⟩⟩
end
def mZ(st:List au):Option (Nat×List W)->Prop
 |none=>True
 |some (n,ws)=>lstOf st n=some ws
abbrev HH:=List W×Option (Nat×List W)
abbrev FI:=cV->List au->R HH
def DF(X:Cx)(J:It)(k:HH)(μ:List Addr)(H:Hp):Prop:=
 ∀(i:Nat) μ' bg H',μ <+: μ'->fE X.K H H'->jC X.K X.mg μ' bg H'->mZ bg k.2 ->
  (∀w,k.1[i]?=some w->J.go i H'/\∀x H'',J.yld i H' x H''->fE X.K H' H''/\jC X.K X.mg μ' bg H''/\bM X.K μ' H'' w x)/\(k.1.length<=i->J.stop i H')
abbrev Sg(X:Cx):List Addr->Hp->HH->It->Prop:=fun μ H k J=>DF X J k μ H
structure SI(X:Cx)(tg it:Expr)(f:FI):Prop where
 h:PI X tg it (fun σ H R=>tG X (Sg X) f σ H R)
theorem PI.imp{it:Expr}{t t':TI}(h:PI X tg it t)(i:∀σ H Q,t' σ H Q->t σ H Q):PI X tg it t':=fun ak s σ H Q I q=>h ak s σ H Q I (i _ _ _ q)
open Classical in
def wG(f:FG)(body:FS)(ck:Option (Nat×List W)):List W->FS
 |[],ρ,st=>if mZ st ck then .nx ρ st else .bad
 |w::ws,ρ,st=>if mZ st ck then(match f w ρ with
  |none=>.bad
  |some ρ'=>(match body ρ' st with
   |.nx ρ2 c_=>wG f body ck ws ρ2 c_
   |.ct ρ2 c_=>wG f body ck ws ρ2 c_
   |.bk ρ2 c_=>.nx ρ2 c_
   |.rt w c_=>.rt w c_
   |.ex c ρ2 c_=>.ex c ρ2 c_
   |.bad=>.bad))else .bad
def mS(fi:FI)(f:FG)(body:FS):FS:=fun ρ st=>(fi ρ st).stmt ρ fun k st=>wG f body k.2 k.1 ρ st
section
variable{a b:Expr}{fb:FE}{fs:FA}{ft:FT}{g:FS}{f:FG}{fi:FI}
theorem iK(hi:SI X tg ec fi)(hg:SG X tg f)(hb:SB X body g)(hc:X.calm=true:=by rfl)(hp:PassesOwn #[4] X.A X.env X.xe:=by passes_own)(hs:∀x,foldedSetIterable ec X.env x=pure x:=by intro _;rfl):SS X (.For tg ec body [] pos) (mS fi f g):=⟨(Ob hp hc hi.h hg.h hb.h hs).imp fun D σ H h=>by
 walk_at "2"
 refine⟨μ,ρ,st,l,RK.stmt h l fun μ1 st1 k J H1 p1 x1 l1 wk h1=>?_⟩
 refine⟨fun i m σ' H'=>i<=k.1.length/\m=k.1.length-i/\∃μ' ρ' bg,μ1 <+: μ'/\fE X.K H1 H'/\Rl X μ' ρ' bg σ' H'/\SK X μ' H' D (wG f g k.2 (k.1.drop i) ρ' bg),
  ⟨_,bY _,rfl,μ1,ρ,st1,aq _,fE.refl,l1,h1⟩,?_⟩
 rintro i m σ' H' ⟨hi,rfl,μ',ρ',bg,pm,xm,lm,hm⟩
 by_cases hlt:i<k.1.length
 ·rw[dD hlt]at hm
  unfold wG at hm
  by_cases ck:mZ bg k.2
  ·rw[aK ck]at hm
   obtain⟨go,yld⟩:=(wk i μ' bg H' pm xm lm.sto ck).1 _ (aj hlt)
   cases hf:f k.1[i] ρ' with
   |none=>rw[hf]at hm;exact hm.elim
   |some ρ2=>
    rw[hf]at hm
    simp only at hm
    refine .inr ⟨go,fun σ2 H2=>∃μ2 ρ3 c_,μ' <+: μ2/\fE X.K H' H2/\Rl X μ2 ρ3 c_ σ2 H2/\SK X μ2 H2 D (wG f g k.2 (k.1.drop (i+1)) ρ3 c_),fun σ2 H2 ⟨μ2,ρ3,c_,q1,q2,q3,q4⟩=>
     ⟨_,by omega,hlt,rfl,μ2,ρ3,c_,pm.trans q1,xm.trans q2,q3,q4⟩,fun x H2 hy=>?_⟩
    obtain⟨y1,y2,y3⟩:=yld x H2 hy
    refine⟨μ',ρ',bg,k.1[i],ρ2,lm.to (aq _) y1 y2,y3,hf,fun σ2 l2=>⟨μ',ρ2,bg,l2,?_⟩⟩
    cases e:g ρ2 bg with
    |nx ρ3 nL=>rw[e]at hm;exact fun μ4 σ4 H4 p4 x4 l4=>⟨μ4,ρ3,nL,p4,y1.trans x4,l4,SK.mono hm p4 (y1.trans x4)⟩
    |ct ρ3 nL=>rw[e]at hm;exact fun μ4 σ4 H4 p4 x4 l4=>⟨μ4,ρ3,nL,p4,y1.trans x4,l4,SK.mono hm p4 (y1.trans x4)⟩
    |bk ρ3 nL=>rw[e]at hm;exact fun μ4 σ4 H4 p4 x4 l4=>hm μ4 σ4 H4 p4 (y1.trans x4) l4
    |rt w nL=>rw[e]at hm;exact fun μ4 v4 H4 p4 x4=>hm μ4 v4 H4 p4 (y1.trans x4)
    |ex c ρ3 nL=>rw[e]at hm;exact XS.mono hm (aq _) y1
    |bad=>rw[e]at hm;exact hm
  ·rw[aU ck]at hm;exact hm.elim
 ·have hi':i=k.1.length:=by omega
  subst hi'
  rw[pi (aA _)]at hm
  unfold wG at hm
  by_cases ck:mZ bg k.2
  ·rw[aK ck]at hm
   exact .inl ⟨(wk _ μ' bg H' pm xm lm.sto ck).2 (aA _),hm μ' σ' H' (aq _) fE.refl lm⟩
  ·rw[aU ck]at hm;exact hm.elim⟩
def eK(t:FT)(body:FS):Nat->FS
 |0,_,_=>.bad
 |n+1,ρ,st=>(t ρ st).stmt ρ fun k st=>if k then(match body ρ st with
   |.nx ρ2 c_=>eK t body n ρ2 c_
   |.ct ρ2 c_=>eK t body n ρ2 c_
   |.bk ρ2 c_=>.nx ρ2 c_
   |.rt w c_=>.rt w c_
   |.ex c ρ2 c_=>.ex c ρ2 c_
   |.bad=>.bad)else .nx ρ st
open Classical in
def oz(t:FT)(body:FS):FS:=fun ρ st=>if h:∃n,eK t body n ρ st≠.bad then eK t body h.choose ρ st else .bad
theorem qe(t:FT)(g:FS):∀(n:Nat) (ρ:cV) (st:List au),eK t g n ρ st≠.bad->eK t g (n+1) ρ st=eK t g n ρ st
 |0,_,_,h=>absurd rfl h
 |n+1,ρ,st,h=>by
  unfold eK at h ⊢
  cases e:t ρ st with
  |ex c st1=>rfl
  |bad=>rfl
  |ok k st1=>
   rw[e]at h
   simp only[R.stmt_ok]at h ⊢
   cases k with
   |false=>rfl
   |true=>
    simp only[gF]at h ⊢
    cases e2:g ρ st1 with
    |nx ρ2 c_=>rw[e2]at h;exact qe t g n ρ2 c_ h
    |ct ρ2 c_=>rw[e2]at h;exact qe t g n ρ2 c_ h
    |_=>rfl
theorem yP{n m:Nat}(h:eK t g n ρ st≠.bad)(hm:n<=m):eK t g m ρ st=eK t g n ρ st:=by
 induction hm with
 |refl=>rfl
 |@step m _ ih=>rw[qe t g m ρ st (by rw[ih];exact h),ih]
theorem yQ{r:RS}(h:eK t g n ρ st=r)(hr:r≠.bad):oz t g ρ st=r:=by
 have hx:∃n,eK t g n ρ st≠.bad:=⟨n,by rw[h];exact hr⟩
 unfold oz
 rw[dif_pos hx]
 have c:=hx.choose_spec
 have a:=yP c (Nat.le_max_left hx.choose n)
 have b:=yP (n:=n) (m:=max hx.choose n) (by rw[h];exact hr) (Nat.le_max_right _ _)
 rw[<- a,b,h]
theorem Bx{D:zv}:∀(n:Nat) (σ:St) (H:Hp) (μ:List Addr) (ρ:cV) (st:List au),Rl X μ ρ st σ H->SK X μ H D (eK t g n ρ st)->G0 (tT X t) (Ur X g) D σ H:=by
 intro n σ H μ ρ st l h
 refine⟨fun m σ' H'=>∃μ' ρ' bg,Rl X μ' ρ' bg σ' H'/\SK X μ' H' D (eK t g m ρ' bg),⟨n,μ,ρ,st,l,h⟩,?_⟩
 rintro m σ' H' ⟨μ',ρ',bg,l',h'⟩
 cases m with
 |zero=>exact h'.elim
 |succ m=>
  refine⟨μ',ρ',bg,l',RK.stmt h' l' fun μ1 st1 k v H1 p1 x1 l1 q1 h1=>?_⟩
  cases q1
  cases k with
  |false=>exact h1 μ1 σ' H1 (aq _) fE.refl l1
  |true=>
   refine⟨fun σ2 H2=>∃μ2 ρ2 c_,Rl X μ2 ρ2 c_ σ2 H2/\SK X μ2 H2 D (eK t g m ρ2 c_),fun σ2 H2 z=>⟨m,cb m,z⟩,μ1,ρ',st1,l1,?_⟩
   simp only[gF]at h1
   cases e:g ρ' st1 with
   |nx ρ3 nL=>rw[e]at h1;exact fun μ4 σ4 H4 p4 x4 l4=>⟨μ4,ρ3,nL,l4,SK.mono h1 p4 x4⟩
   |ct ρ3 nL=>rw[e]at h1;exact fun μ4 σ4 H4 p4 x4 l4=>⟨μ4,ρ3,nL,l4,SK.mono h1 p4 x4⟩
   |bk ρ3 nL=>rw[e]at h1;exact h1
   |rt w nL=>rw[e]at h1;exact h1
   |ex c ρ3 nL=>rw[e]at h1;exact h1
   |bad=>rw[e]at h1;exact h1
theorem wH(hc:ST X c t)(hb:SB X body g)(hp:PassesOwn #[4] X.A X.env X.xe:=by passes_own):SS X (.While c body [] pos) (oz t g):=⟨(G1 hp hc.h hb.h).imp fun D σ H h=>by
 walk_at "2"
 unfold oz at h
 by_cases hx:∃n,eK t g n ρ st≠.bad
 ·rw[dif_pos hx]at h;exact Bx _ σ H μ ρ st l h
 ·rw[dif_neg hx]at h;exact h.elim⟩
def HI(fe:FE):FI:=fun ρ st=>(fe ρ st).bind fun x st=>match x with
 |.tup ws=>.ok (ws,none) st
 |_=>.bad
theorem HJ(he:SE X e fe):SI X tg e (HI fe):=⟨(Oa he.h).imp fun σ H R h=>by
 walk_at "2"
 walk_at "1"
 cases x with
 |tup ws=>
  obtain⟨p,vs,rfl,hS,r⟩:=q1.tupE
  refine⟨p,rfl,⟨vs,hS⟩,h1 μ1 _ H1 (aq _) fE.refl l1.sto fun i μ' bg H' pp xx S _=>⟨fun w hw=>?_,fun hl=>⟨vs,xx _ _ hS,by rw[<- r.len];exact hl⟩⟩⟩
  have r':=r.mono pp xx
  obtain⟨v,g1,g2⟩:=r'.get hw
  refine⟨⟨vs,v,xx _ _ hS,g1⟩,fun y H'' hy=>?_⟩
  obtain⟨rfl,hy⟩:=hy
  have:=hy vs (xx _ _ hS)
  rw[g1]at this;cases this
  exact⟨fE.refl,S,g2⟩
 |_=>exact h1.elim⟩
def MB(fe:FE):FI:=fun ρ st=>(fe ρ st).bind fun x st=>match x with
 |.loc n=>(match lstOf st n with
  |some ws=>.ok (ws,some (n,ws)) st
  |none=>.bad)
 |_=>.bad
theorem OX(he:SE X e fe):SI X tg e (MB fe):=⟨(KW he.h).imp fun σ H R h=>by
 walk_at "2"
 walk_at "1"
 cases x with
 |loc n=>
  obtain⟨a,ha,rfl⟩:=q1.locE
  simp only at h1
  cases e1:lstOf st1 n with
  |none=>rw[e1]at h1;exact h1.elim
  |some ws=>
   rw[e1]at h1
   obtain⟨a',vs0,g0,hS0,r0⟩:=l1.sto.lstOf e1
   rw[ha]at g0;cases g0
   refine⟨a,rfl,⟨vs0,hS0⟩,h1 μ1 _ H1 (aq _) fE.refl l1.sto fun i μ' bg H' pp xx S ck=>?_⟩
   obtain⟨a2,vs,g2,hS,r⟩:=S.lstOf (show lstOf bg n=some ws from ck)
   have:μ'[n]?=some a:=pre_get pp ha
   rw[g2]at this;cases this
   refine⟨fun w hw=>?_,fun hl=>⟨vs,hS,by rw[<- r.len];exact hl⟩⟩
   obtain⟨v,g1,g3⟩:=r.get hw
   refine⟨⟨vs,v,hS,g1⟩,fun y H'' hy=>?_⟩
   obtain⟨rfl,hy⟩:=hy
   have:=hy vs hS
   rw[g1]at this;cases this
   exact⟨fE.refl,S,g3⟩
 |_=>exact h1.elim⟩
def gN(lo:Int)(n:Nat):List W:=(List.range n).map fun(i:Nat)=>W.int (lo+i)
theorem fK(lo:Int)(n:Nat):(gN lo n).length=n:=by simp[gN]
theorem DG{lo:Int}:DF X (Um lo n) (gN lo n,none) μ H:=fun i μ' bg H' pp xx S _=>by
 refine⟨fun w hw=>?_,fun hl=>by rw[fK]at hl;exact hl⟩
 have hi:i<n:=by
  have:=(ax.mp hw).1
  rw[fK]at this;exact this
 refine⟨hi,fun y H'' hy=>?_⟩
 obtain⟨rfl,rfl⟩:=hy
 have e:w=.int (lo+i):=by
  unfold gN at hw
  rw[aG,gH hi]at hw
  exact(bf hw).symm
 subst e
 exact⟨fE.refl,S,.int⟩
def dP(fs:FA):FI:=fun ρ st=>(fs ρ st).bind fun ws st=>match ws with
 |[.int j]=>if -(2^62)<=j/\j<2^62 then .ok (gN 0 j.toNat,none) st else .bad
 |_=>.bad
theorem im(hm:X.mg "range"=none)(ha:SA X [a] fs)(hg:Gl X "range":=by rfl)(hs:starEach [a] X.env=[(false,eval a X.env)]:=by rfl):SI X tg (.Call (.Name "range" p) [a] [] pos) (dP fs):=⟨(FC hg hm ha.h hs).imp fun σ H R h=>by
 walk_at "2"
 walk_at "1"
 split at h1
 ·obtain⟨y,rfl,ry⟩:=q1.one
  split at h1
  ·rename_i c
   exact⟨_,by rw[ry.intE],c.1,c.2,h1 μ1 _ H1 (aq _) fE.refl l1.sto DG⟩
  ·exact h1.elim
 ·exact h1.elim⟩
end
end L2
variable{fi:L2.FI}
namespace L2
open PySem PySem.Spec PyProof.Rows
mutual
def W.und(n:Nat):W->Bool
 |.loc m=>decide (m<n)
 |.tup ws=>undWs n ws
 |_=>true
def undWs(n:Nat):List W->Bool
 |[]=>true
 |w::ws=>w.und n&&undWs n ws
end
def au.und(n:Nat):au->Bool
 |.lst ws=>undWs n ws
 |.ro ws=>undWs n ws
 |.exc _=>true
 |.dct g_=>undWs n (g_.map fun p=>p.2)
 |.rod g_=>undWs n (g_.map fun p=>p.2)
 |.dcx g_=>undWs n (g_.map fun p=>p.2)
 |.rox g_=>undWs n (g_.map fun p=>p.2)
 |.obj _ fs=>undWs n (fs.map fun p=>p.2)
 |.tab _ _ _=>true
 |.pin _ _ _ w=>w.und n
 |.gone=>true
section
mutual
theorem bM.und:∀{w:W} {v:V},bM K μ H w v->w.und μ.length=true
 |.non,_,_=>by simp[W.und]
 |.bl _,_,_=>by simp[W.und]
 |.int _,_,_=>by simp[W.und]
 |.str _,_,_=>by simp[W.und]
 |.tup _,_,r=>by obtain⟨p,vs,_,_,c⟩:=r.tupE;unfold W.und;exact RelWs.und c
 |.loc _,_,r=>by obtain⟨a,e,_⟩:=r.locE;unfold W.und;exact bF (ax.mp e).1
theorem RelWs.und:∀{ws:List W} {vs:List V},RelWs K μ H ws vs->undWs μ.length ws=true
 |[],_,_=>by unfold undWs;rfl
 |_::_,_,r=>by obtain⟨x,xs,_,b,c⟩:=r.consE;unfold undWs;rw[bM.und b,RelWs.und c];rfl
end
mutual
theorem bM.take:∀{w:W} {v:V},bM K μ H w v->w.und n=true->bM K (μ.take n) H w v
 |.non,_,r,_=>by rw[r.nonE];exact .non
 |.bl _,_,r,_=>by rw[r.blE];exact .bl
 |.int _,_,r,_=>by rw[r.intE];exact .int
 |.str _,_,r,_=>by rw[r.strE];exact .str
 |.tup _,_,r,b=>by obtain⟨p,vs,rfl,h,c⟩:=r.tupE;unfold W.und at b;exact .tupI h (RelWs.takeN c b)
 |.loc _,_,r,b=>by obtain⟨a,e,rfl⟩:=r.locE;unfold W.und at b;exact .locI (by rw[cw (of_decide_eq_true b)];exact e)
theorem RelWs.takeN:∀{ws:List W} {vs:List V},RelWs K μ H ws vs->undWs n ws=true->RelWs K (μ.take n) H ws vs
 |[],_,r,_=>by rw[r.nilE];exact .nilI
 |_::_,_,r,b=>by
  obtain⟨x,xs,rfl,b1,c1⟩:=r.consE
  unfold undWs at b
  rw[dC]at b
  exact .consI (bM.take b1 b.1) (RelWs.takeN c1 b.2)
end
theorem KX.und_w(k:KX)(n:Nat):k.w.und n=true:=by
 have hi:∀ks:List Int,undWs n (ks.map W.int)=true:=fun ks=>by
  induction ks with
  |nil=>rfl
  |cons a l ih=>show(true&&undWs n (l.map W.int))=true;rw[ih];rfl
 cases k with
 |bo b=>rfl
 |fl ks=>unfold KX.w W.und;exact hi ks
 |pr i ks=>unfold KX.w W.und undWs;rw[show(W.int i).und n=true from rfl];unfold undWs;rw[show(W.tup (ks.map W.int)).und n=true by unfold W.und;exact hi ks];rfl
theorem wI:∀{g_:List (KX×W)} {es:List DictEntry},Paired (Bp K μ H) g_ es->undWs μ.length (g_.map fun p=>p.2)=true
 |_,_,.nil=>rfl
 |_,_,.cons r t=>by
  obtain⟨_,_,v,h,_⟩:=r
  show(_&&undWs _ _)=true
  rw[h.und,wI t];rfl
theorem uF:∀{g_:List (KX×W)} {es:List DictEntry},Paired (Bp K μ H) g_ es->undWs n (g_.map fun p=>p.2)=true->Paired (Bp K (μ.take n) H) g_ es
 |_,_,.nil,_=>.nil
 |_,_,.cons r t,b=>by
  obtain⟨a,⟨u,c,d⟩,v,h,g⟩:=r
  have b:(_&&undWs n _)=true:=b
  rw[dC]at b
  exact .cons ⟨a,⟨u,bM.take c (KX.und_w _ n),d⟩,v,bM.take h b.1,g⟩ (uF t b.2)
theorem mY.und{c:au}{a:Addr}(r:mY K mg μ H c a):c.und μ.length=true:=by
 cases c with
 |lst ws=>obtain⟨vs,_,y⟩:=r;exact y.und
 |ro ws=>obtain⟨vs,_,y⟩:=r;exact y.und
 |exc c=>rfl
 |dct g_=>obtain⟨vs,_,y⟩:=r;exact y.und
 |rod g_=>obtain⟨vs,_,_,y⟩:=r;exact y.und
 |dcx g_=>obtain⟨es,_,_,y,_⟩:=r;exact wI y
 |rox g_=>obtain⟨es,_,_,_,y,_⟩:=r;exact wI y
 |obj _ fs=>obtain⟨_,_,vs,_,_,y⟩:=r;exact y.und
 |tab _ _ _=>rfl
 |pin _ _ _ _=>obtain⟨_,_,_,v,y,_⟩:=r;exact y.und
 |gone=>rfl
theorem mY.take{c:au}{a:Addr}(r:mY K mg μ H c a)(b:c.und n=true):mY K mg (μ.take n) H c a:=by
 cases c with
 |lst ws=>obtain⟨vs,x,y⟩:=r;exact⟨vs,x,y.takeN b⟩
 |ro ws=>obtain⟨vs,x,y⟩:=r;exact⟨vs,x,y.takeN b⟩
 |exc c=>exact r
 |dct g_=>obtain⟨vs,x,y⟩:=r;exact⟨vs,x,y.takeN b⟩
 |rod g_=>obtain⟨vs,o,x,y⟩:=r;exact⟨vs,o,x,y.takeN b⟩
 |dcx g_=>obtain⟨es,x,d,y,z⟩:=r;exact⟨es,x,d,uF y b,z⟩
 |rox g_=>obtain⟨es,o,x,d,y,z⟩:=r;exact⟨es,o,x,d,uF y b,z⟩
 |obj _ fs=>obtain⟨C,dx,vs,m,x,y⟩:=r;exact⟨C,dx,vs,m,x,y.takeN b⟩
 |tab _ _ _=>exact r
 |pin _ _ _ _=>obtain⟨ea,p,g,v,y,z⟩:=r;exact⟨ea,p,g,v,y.take b,z⟩
 |gone=>trivial
end
theorem gZ.ex{w:World}{a:Addr}{o:HO}(x:gZ P w nk H h a o):∃ob,h.get? a=some ob:=by
 cases o with
 |lst xs=>obtain⟨_,_,_,_,e⟩:=x;exact⟨_,e⟩
 |tup xs=>obtain⟨_,_,_,o,e,_⟩:=x;exact⟨_,e⟩
 |dK g_=>obtain⟨_,_,_,_,o,_,_,e,_⟩:=x;exact⟨_,e⟩
 |dT g_=>obtain⟨_,_,_,_,o,_,_,e,_⟩:=x;exact⟨_,e⟩
 |set S n=>obtain⟨o,_,_,_,e,_⟩:=x;exact⟨_,e⟩
 |ins C dx fs=>obtain⟨_,_,_,e,_⟩:=x;exact⟨_,e⟩
 |own y=>obtain⟨_,e⟩:=x;exact⟨_,e⟩
 |xd fs=>obtain⟨_,⟨_,_,_,e,_⟩,_⟩:=x;exact⟨_,e⟩
 |rng lo hi=>obtain⟨_,_,_,e⟩:=x;exact⟨_,e⟩
 |frz ob u=>obtain⟨e,_⟩:=x;exact⟨_,e⟩
 |tbl ps=>exact⟨_,(show h.get? a=some _ from x)⟩
 |met f y=>exact⟨_,(show h.get? a=some _ from x)⟩
 |ext φ=>obtain⟨_,⟨_,e⟩,_⟩:=x;exact⟨_,e⟩
def MC(st bg:List au)(ws:List W):Prop:=undWs st.length ws=true/\st.length<=bg.length/\∀(i:Nat),i<st.length->bg[i]?=st[i]?\/∃c,bg[i]?=some c/\c.und st.length=true
open Classical in
def iL(st bg:List au)(ws:List W):List au:=if MC st bg ws then bg.take st.length else bg
theorem wJ{ws:List W}{vs:List V}(S:jC K mg μ st H)(S':jC K mg μ' bg H')(p:μ <+: μ')(r:RelWs K μ' H' ws vs) :
  ∃μ2,μ <+: μ2/\jC K mg μ2 (iL st bg ws) H'/\RelWs K μ2 H' ws vs:=by
 unfold iL
 by_cases k:MC st bg ws
 ·rw[aK k]
  obtain⟨k1,k2,k3⟩:=k
  have e:μ'.take st.length=μ:=by
   obtain⟨t,rfl⟩:=p
   rw[S.len,gY]
  refine⟨μ'.take st.length,by rw[e];exact aq _,⟨fun i j a ci cj h1 h2 r1 r2 m1 m2=>?_,by rw[aF,aF,S'.len],fun i c a h1 h2=>?_⟩,r.takeN k1⟩
  ·have hi:i<st.length:=by have:=(ax.mp h1).1;rw[aF]at this;omega
   have hj:j<st.length:=by have:=(ax.mp h2).1;rw[aF]at this;omega
   rw[cw hi]at h1 m1
   rw[cw hj]at h2 m2
   exact S'.nd i j a ci cj h1 h2 r1 r2 m1 m2
  ·have hi:i<st.length:=by have:=(ax.mp h1).1;rw[aF]at this;omega
   rw[cw hi]at h1 h2
   refine(S'.at' i c a h1 h2).take ?_
   rcases k3 i hi with q|⟨c',q,b⟩
   ·rw[h1]at q
    obtain⟨a0,g0,r0⟩:=S.get q.symm
    have:=r0.und
    rw[S.len];exact this
   ·rw[h1]at q;cases q;exact b
 ·rw[aU k]
  exact⟨μ',p,S',r⟩
def c8(N:Nat)(body:FS)(ws:List W)(st:List au):R W:=match body #[12] st with
 |.rt w bg=>.ok w (iL st bg [w])
 |.nx _ bg=>.ok .non (iL st bg [])
 |.ex c _ bg=>.ex c (iL st bg [])
 |_=>.bad
def iJ(P:Program)(w:World):FM:=fun outer H s E e s'=>∃x C t B H',e=.ref x/\E C none H'/\s'.os=s.os/\AllBare s'.gens/\Un (sN outer) [] H H' s.heap s'.heap/\uj P w s'.toks H' s'.heap/\H' x=none/\Heap.FlyingW B outer x C (.ref t) s'.heap /\
 ∀b o,s'.heap.get? b=some o->(H' b≠none\/((∃o0,s.heap.get? b=some o0)/\b∉sN outer))->B.get? b=some o
def iY(K:Frag)(mg:Str->Option Value)(n:Nat)(F:List W->List au->R W):Sp:=fun vs H Q E=>vs.length=n/\∃μ ws st,jC K mg μ st H/\RelWs K μ H ws vs/\(match F ws st with
 |.ok w bg=>∀μ' v H',μ <+: μ'->fE K H H'->jC K mg μ' bg H'->bM K μ' H' w v->Q v H'
 |.ex c bg=>∀C μ' H',mg c=some C->μ <+: μ'->fE K H H'->jC K mg μ' bg H'->E C none H'
 |.bad=>False)
theorem vh.noted{c:Str}{e:Value}{Q:Unit->Shared->Prop}{E:Value->Shared->Prop}{M:Model}(f:vh X ak σ c H e s)(oZ:X.stack=X.env::outer)(yu:X.env.frame=some X.env.locals)(hA:X.A.frames=some X.stack)
  (h:∀x C t B h',e=.ref x->X.mg c=some C->H x=none->Heap.FlyingW B X.stack x C (.ref t) h'->s.heap.UpToSlots h' ->
   (∀b o,s.heap.get? b=some o->(H b≠none\/((∃o0,X.s₀.heap.get? b=some o0)/\b∉X.fs/\b∉X.ex)\/((∃y,X.env.cells.lookup y=some b)/\b∉sN X.stack)\/∃p∈X.pn++ak,p.1=b)->B.get? b=some o)->Q () { s with heap:=h' }) :
  wpAny M X.A (leaving X.env e) Q E s:=by
 obtain⟨x,C,t,B,rfl,hC,hx,st,nx,ff,tr,xS⟩:=f.ex
 rw[oZ]at ff hA
 rcases tr with tr|⟨oe,vs,he,rfl,_,hd,h1,h0⟩|⟨L,hL,tr⟩
 ·refine wpAny_leaving_nextW hA ff yu tr st nx fun h' hL=>?_
  obtain⟨k1,k2,k3,k4⟩:=hL
  exact h x C t B h' rfl hC hx ⟨k1,nx,by rw[oZ];exact k2,k3⟩ k4 xS
 ·refine wpAny_leaving_firstW hA ff yu he st nx hd h1 h0 fun h' hL=>?_
  obtain⟨k1,k2,k3,k4⟩:=hL
  exact h x _ t B h' rfl hC hx ⟨k1,nx,by rw[oZ];exact k2,k3⟩ k4 xS
 ·unfold leaving
  refine af (py hL tr (uf ⟨st,nx,ff,tr⟩ fun h' fl up=>?_))
  exact h x C t B h' rfl hC hx (by rw[oZ];exact fl) up xS
theorem vh.leaves{c:Str}{e:Value}{E:XK}{E':Value->Shared->Prop}(f:vh X ak σ c H e s)(oZ:X.stack=X.env::X.outer)(yu:X.env.frame=some X.env.locals)(hA:X.A.frames=some X.stack)(zn:X.ex=[])
  (hE:∀C,X.mg c=some C->E C none H):wpAny M X.A (leaving X.env e) (fun _ s''=>iJ X.prog X.w X.outer X.H₀ X.s₀ E e s'') E' s:=by
 refine f.noted oZ yu hA fun x C t B h' he hC hx fl up xS=>?_
 have I:=f.inv
 have un:=I.base
 rw[zn]at un
 have fsE:X.fs=sN X.outer:=rfl
 obtain⟨f1,f2,f3,f4⟩:=fl
 rw[oZ]at f3
 obtain⟨_,_,f3'⟩:=f3
 have frames:∀b∈sN X.outer,∀o,s.heap.get? b=some o->∃sl,h'.get? b=some { o with slots:=sl }:=fun b hb o ho=>by
  obtain⟨_,o',ho',hd⟩:=I.funs.mem hb
  rw[ho]at ho';cases ho'
  exact up b o ho hd
 have kept:∀b o,s.heap.get? b=some o->(∃o0,X.s₀.heap.get? b=some o0)->b∉sN X.outer->h'.get? b=some o:=fun b o ho h0 hb=>f1 b o (xS b o ho (.inr (.inl ⟨h0,hb,by rw[zn];simp⟩)))
 have keptH:∀b o,s.heap.get? b=some o->H b≠none->h'.get? b=some o:=fun b o ho h0=>f1 b o (xS b o ho (.inl h0))
 refine⟨x,C,t,B,H,he,hE C hC,I.os,I.bare,⟨fun b o q n hb hx=>?_,fun b o q n hb hx=>?_,fun b o q n hx=>un.free b o q n hx,fun b o q hx=>?_,un.tups,un.frzs,un.tbls⟩,fun b u hb=>?_,hx,⟨f1,f2,f3',f4⟩,fun b o ho hr=>?_⟩
 ·exact kept b o (un.keep b o q n hb hx) ⟨o,q⟩ hb
 ·obtain⟨sl,q1⟩:=un.slot b o q n hb hx
  obtain⟨sl2,q2⟩:=frames b hb _ q1
  exact⟨sl2,q2⟩
 ·obtain⟨o',q1⟩:=un.there b o q hx
  by_cases hb:b∈sN X.outer
  ·obtain⟨sl2,q2⟩:=frames b hb _ q1;exact⟨_,q2⟩
  ·exact⟨o',kept b o' q1 ⟨o,q⟩ hb⟩
 ·refine(I.hok b u hb).stay (fun c v hc q=>?_) (fun _ q=>q) fun _ _ q=>q
  refine keptH c v q ?_
  rcases hc with rfl|hc
  ·rw[hb];simp
  ·rw[hc];simp
 ·rcases hr with hr|⟨⟨o0,h0⟩,hb⟩
  ·cases hu:H b with
   |none=>exact absurd hu hr
   |some u=>
    have lt:=I.hok.lt hu
    obtain⟨ob,hob⟩:∃ob,s.heap.get? b=some ob:=by
     exact(I.hok b u hu).ex
    have:=keptH b ob hob hr
    rw[ho]at this;cases this
    exact xS b o hob (.inl hr)
  ·obtain⟨o',q1⟩:=un.there b o0 h0 #[15]
   have:=kept b o' q1 ⟨o0,h0⟩ hb
   rw[ho]at this;cases this
   exact xS b o q1 (.inr (.inl ⟨⟨o0,h0⟩,hb,by rw[zn];simp⟩))
structure bQ(P:Program)(w:World)(K:Frag)(mg:Str->Option Value)(base:Heap)(k:Nat)(x:Str)(n:Nat)(F:List W->List au->R W):Prop where
 ex:∃(f:Addr) (fd:FuncData) (ps:List Str),mg x=some (.ref f)/\keepIn K (.ref f)=true/\ps.length=n/\rd K fd ps []/\c6 P w K mg base (iJ P w) k f fd ps (iY K mg n F)
theorem bQ.mono{w:World}(h:bQ P w K mg base j x n F)(hj:j<=k):bQ P w K mg base k x n F:=by
 obtain⟨f,fd,ps,a,b,c,d,e⟩:=h.ex
 exact⟨f,fd,ps,a,b,c,d,e.mono hj⟩
def b7(n:Nat)(F:List W->List au->R W)(fs:FA):FE:=fun ρ st=>(fs ρ st).bind fun ws st=>if ws.length=n then F ws st else .bad
section
theorem HK{f:Addr}{Q:VK}{us:List Value}{vs:List V}
  (Fn:c6 X.prog X.w X.K X.mg X.base (iJ X.prog X.w) k f fd ps (iY X.K X.mg n F)) (hn:ps.length=n) (hr:jW k X.A) (hb:rd X.K fd ps []) (I:bH X ak σ H s) (S:jC X.K X.mg μ st H) (r:RelWs X.K μ H ws vs) (rv:cK s.toks vs us) (hl:ws.length=n)
  (h:RK X (ux X) μ σ H Q (F ws st)):wpAny #[4] X.A (call (.ref f) us) (EP X ak σ Q) X.xe s:=by
 have hl':(us++([]:List Value)).length=ps.length:=by rw[a8,<- rv.length,<- r.len,hl,hn]
 cases e:F ws st with
 |bad=>rw[e]at h;exact h.elim
 |ok w bg=>
  rw[e]at h
  refine up (sL (i_ (Fn.run X.A X.stack s H ⟨us,[]⟩ us vs Q (fun _ _ _=>False) hr I.env0 (.inl I.pos) (by have:=hb s us I.kIn hl';rwa[a8]at this) rv ⟨by rw[<- r.len];exact hl,μ,ws,st,S,r,by rw[e];exact h⟩) fun r s' hq=>?_))
  cases r with
  |error e=>obtain⟨_,_,_,_,_,_,z,_⟩:=hq;exact z.elim
  |ok fl=>
   cases fl with
   |ret u=>exact fun kt=>I.after hq kt
   |next=>exact False.elim hq
   |brk=>exact False.elim hq
   |cont=>exact False.elim hq
 |ex c bg=>
  rw[e]at h
  refine up (sL (i_ (Fn.run X.A X.stack s H ⟨us,[]⟩ us vs (fun _ _=>False) (fun C _ H'=>X.mg c=some C/\∃μ',μ <+: μ'/\fE X.K H H'/\jC X.K X.mg μ' bg H') hr I.env0 (.inl I.pos) (by have:=hb s us I.kIn hl';rwa[a8]at this) rv
   ⟨by rw[<- r.len];exact hl,μ,ws,st,S,r,by rw[e];exact fun C μ' H' hC p x S'=>⟨hC,μ',p,x,S'⟩⟩) fun r s' hq=>?_))
  cases r with
  |ok fl=>
   cases fl with
   |ret u=>obtain⟨_,_,_,_,_,_,_,z⟩:=hq;exact z.elim
   |next=>exact False.elim hq
   |brk=>exact False.elim hq
   |cont=>exact False.elim hq
  |error ev=>
   obtain⟨x,C,t,B,H',rfl,⟨hC,μ',p,xx,S'⟩,os,bare,un,hok,hx,fl,xS⟩:=hq
   intro kt
   have I':bH X ak σ H' s':=I.call' os un hok bare (fun b hb=>absurd hb #[15]) kt
   refine h ak μ' H' (.ref x) s' p xx S' ⟨I',x,C,t,B,rfl,hC,hx,fl.1,fl.2.1,fl.2.2.1,.inl fl.2.2.2,fun b o ho hrel=>?_⟩
   refine xS b o ho ?_
   rcases hrel with q|⟨⟨o0,h0⟩,hb,hbx⟩|⟨⟨y,hy⟩,hb⟩|⟨pp,hp,rfl⟩
   ·exact .inl q
   ·refine .inr ⟨?_,fun z=>?_⟩
    ·obtain⟨o',q1⟩:=I.base.there b o0 h0 hbx
     exact⟨o',q1⟩
    ·rcases aX.mp (I.stkSub b z)with z|z
     ·rw[z]at h0
      exact absurd (aL (aJ h0) I.ok.above) (dJ _)
     ·exact hb z
   ·obtain⟨v,ov,hov,_⟩:=I.cell y b hy
    exact .inr ⟨⟨_,hov⟩,hb⟩
   ·obtain⟨g1,g2,g3,g4,_⟩:=I.pin pp hp
    refine .inr ⟨⟨_,g1⟩,fun z=>?_⟩
    rcases aX.mp (I.stkSub _ z)with z|z
    ·exact g3 z
    ·exact g4 z
variable{fs:FA}
theorem bx{k':Nat}(Fn:bQ X.prog X.w X.K X.mg X.base k x n F)(hr:jW k' X.A)(hk:k<=k')(ha:SA X (e::es) fs)(hg:Gl X x:=by rfl)(J9:(x==("__debug__":Str))=false:=by decide)
  (he:starEach (e::es) X.env=(false,eval e X.env)::starEach es X.env:=by rfl) (on:(backTo pos (starEach es X.env)).any (·.1)=false:=by rfl):SE X (.Call (.Name x p) (e::es) [] pos) (b7 n F fs):=⟨by
 intro ak s σ H Q I h
 obtain⟨f,fd,ps,hm,hkp,hn,hb,Fo⟩:=(Fn.mono hk).ex
 refine fQ (sO I hg hm ?_ J9)
 walk_at "2"
 have h':R1 X fs σ H fun vs H1=>∃μ1 st1 ws,Rl X μ1 ρ st1 σ H1/\RelWs X.K μ1 H1 ws vs/\RK X (ux X) μ1 σ H1 Q (if ws.length=n then F ws st1 else .bad):=
  ⟨μ,ρ,st,l,RK.bind h l fun μ1 st1 x v H1 p1 x1 l1 q1 h1=>⟨μ1,st1,x,l1,q1,h1⟩⟩
 refine PySem.W.callWith_K (h₀:=X.base) I.ok.mod.kin hkp (kr (ha.h pos ak s σ H _ I h') fun us s1 kt1 ⟨vs,H1,I1,r,μ1,st1,ws,l1,r1,q⟩=>⟨I1.kIn,?_⟩) he on
 by_cases c:ws.length=n
 ·rw[aK c]at q
  exact HK Fo hn hr hb I1 l1.sto r1 r c q
 ·rw[aU c]at q;exact q.elim⟩
end
theorem Lx{w:World}{st:Stmt}{f:Addr}{N:List Str}{g:FS}(F:iW K x fM st f fd)(S:ba N ps (aO st))(hn:ps.length=n)
  (CU:∀(fC:Value) (A:Around) (outer:List Env) (s:Shared) (H:Hp) (E:XK),fd.code=fC->jW k (A.deeper (envOfC fM (aO st) s.heap.objs.size f fC)) ->
   SB (Df (iJ P w) P w K mg base N fM (aO st) f fC A outer s H E) (hJ st) g):c6 P w K mg base (iJ P w) (k+1) f fd ps (iY K mg n (c8 N.length g)):=by
 obtain⟨oc,od,kV,uk,pm,an,fC,ct,NI,rfl,lk,C2⟩:=F.ex
 refine RB lk C2 S (fun vs H Q E h=>by rw[hn];exact h.1) fun A outer s H vs Q E hr NL=>?_
 obtain⟨hl,μ,ws,UE,Sr,r,h⟩:=NL
 refine⟨_,(CU fC A outer s H E rfl hr).h,μ,ws.map some++List.replicate (N.length-ws.length) none,UE,⟨?_,Sr⟩,?_⟩
 ·unfold vd
  rw[<- r.len]
  have base:∀(ws:List W) (vs:List V) (m:Nat),RelWs K μ H ws vs->Paired (fun(o:Option W) (s:Option V)=>∀w,o=some w->∃v,s=some v/\bM K μ H w v) (ws.map some++List.replicate m none) (vs.map some++List.replicate m none):=by
   intro ws
   induction ws with
   |nil=>
    intro vs m r
    rw[r.nilE]
    induction m with
    |zero=>exact .nil
    |succ m ih=>exact .cons (fun w z=>nomatch z) ih
   |cons w ws ih=>
    intro vs m r
    obtain⟨y,ys,rfl,ry,rys⟩:=r.consE
    exact .cons (fun w' z=>⟨y,rfl,by cases z;exact ry⟩) (ih ys m rys)
  exact base ws vs _ r
 ·unfold c8 at h
  cases e:g (ws.map some++List.replicate (N.length-ws.length) none) UE with
  |rt w bg=>
   rw[e]at h
   intro μ' v H' p x S' u8
   obtain⟨μ2,p2,S2,r2⟩:=wJ Sr S' p (.consI u8 .nilI)
   obtain⟨_,e2,r3⟩:=r2.one
   cases e2
   exact h μ2 v H' p2 x S2 r3
  |nx ρ' bg=>
   rw[e]at h
   intro μ' σ' H' p x l'
   obtain⟨μ2,p2,S2,_⟩:=wJ (ws:=[]) (vs:=[]) Sr l'.sto p .nilI
   exact h μ2 .non H' p2 x S2 .non
  |ex c ρ' bg=>
   rw[e]at h
   intro ak μ' σ' H' ev s' p x l' fl
   obtain⟨μ2,p2,S2,_⟩:=wJ (ws:=[]) (vs:=[]) Sr l'.sto p .nilI
   exact fl.leaves rfl rfl fl.inv.ok.frames rfl fun C hC=>h C μ2 H' hC p2 x S2
  |bk ρ' bg=>rw[e]at h;exact h.elim
  |ct ρ' bg=>rw[e]at h;exact h.elim
  |bad=>rw[e]at h;exact h.elim
theorem bR{w:World}{st:Stmt}{f:Addr}{N:List Str}{k:Nat}{g:FS}(F:iW K x fM st f fd)(S:ba N ps (aO st))(hn:ps.length=n)
  (CU:∀(fC:Value) (A:Around) (outer:List Env) (s:Shared) (H:Hp) (E:XK),jW k (A.deeper (envOfC fM (aO st) s.heap.objs.size f fC)) ->
   SB (Df (iJ P w) P w K mg base N fM (aO st) f fC A outer s H E) (hJ st) g):c6 P w K mg base (iJ P w) (k+1) f fd ps (iY K mg n (c8 N.length g)):=Lx F S hn fun fC A outer s H E _ hr=>CU fC A outer s H E hr
theorem zN{w:World}{st:Stmt}{f:Addr}{ps:List Str}
  (F:iW K x x st f fd) (hm:mg x=some (.ref f)) (hn:ps.length=n)
  (hb:∀(kV uk pm:Value) (an:Option Addr) (fC ct:Value) (us:List Value),us.length=ps.length->bindArgs (fnOf x x (iV st) (hJ st) (aO st) .none kV uk pm an fC ct) ⟨us,[]⟩=pure (ps.zip us))
  (ok:c6 P w K mg base (iJ P w) k f fd ps (iY K mg n G)):bQ P w K mg base k x n G:=⟨f,fd,ps,hm,F.kp,hn,F.binds hb,ok⟩
end L2
namespace L2
open PySem PySem.Spec PyProof.Rows
theorem RelWs.split:∀{as bs:List W} {vs:List V},RelWs K μ H (as++bs) vs->∃xs ys,vs=xs++ys/\RelWs K μ H as xs/\RelWs K μ H bs ys
 |[],_,vs,r=>⟨[],vs,rfl,.nilI,r⟩
 |w::as,bs,vs,r=>by
  obtain⟨x,xs,rfl,rx,rs⟩:=r.consE
  obtain⟨ys,zs,rfl,r1,r2⟩:=RelWs.split rs
  exact⟨x::ys,zs,rfl,.consI rx r1,r2⟩
section
variable{a b:Expr}{fb:FE}{fs:FA}{id:String}
structure Q3(X:Cx)(id:String)(F:W->List W->List au->R W):Prop where
 h:FQ X id (fun x vs H Q=>∃μ st wx ws,jC X.K X.mg μ st H/\bM X.K μ H wx x/\RelWs X.K μ H ws vs/\GL X μ H Q (F wx ws st))
 n:∀x ws st,vC (F x ws st)
def ms(st:List au):W->Bool
 |.loc n=>(match st[n]? with|some (.lst _)=>true|_=>false)
 |_=>false
def yR:W->Bool
 |.str _=>true
 |_=>false
theorem By{w:W}{v:V}(S:jC X.K X.mg μ st H)(r:bM X.K μ H w v)(h:ms st w=true):∃l ys,v=.ref l/\H l=some (.lst ys):=by
 cases w with
 |loc n=>
  obtain⟨a,ha,rfl⟩:=r.locE
  simp only[ms]at h
  cases e1:st[n]? with
  |none=>rw[e1]at h;cases h
  |some cc=>
   rw[e1]at h
   cases cc with
   |lst ws=>obtain⟨a1,g1,vs,k1,_⟩:=S.get e1;rw[ha]at g1;cases g1;exact⟨_,vs,rfl,k1⟩
   |_=>cases h
 |_=>cases h
def oE(F:W->List W->List au->R W)(fo:FE)(fs:FA):FE:=fun ρ st=>(fo ρ st).bind fun x st=>if ms st x then(fs ρ st).bind fun ws st=>F x ws st else .bad
def KA(F:W->List W->List au->R W)(fo:FE)(fs:FA):FE:=fun ρ st=>(fo ρ st).bind fun x st=>if yR x then(fs ρ st).bind fun ws st=>F x ws st else .bad
theorem nP{F:W->List W->List au->R W}(slot:Slot "list" name id)(ED:typeOf (.builtin id)=pure (.type "method_descriptor"))(hm:Q3 X id F)(ho:SE X o fo)(ha:SA X (e::es) fs)
  (kg:attributeBase o name X.env (eval o X.env)=eval o X.env:=by rfl)
  (sD:((backTo eM (starEach (e::es) X.env)).all (fun x=>!x.1)&&(backToKw eM (keywordEach [] X.env)).all (fun x=>x.1.isSome)
   && decide #[18])=true:=by rfl)
  (lh:(gR.endLine==eM.line)=true:=by rfl) (hs:starEach (e::es) X.env=(false,eval e X.env)::starEach es X.env:=by rfl) (oX:(backTo eM (starEach es X.env)).any (·.1)=false:=by rfl) :
  SE X (.Call (.Attribute o name gR) (e::es) [] eM) (oE F fo fs):=⟨(RP slot ED hm.h ho.h ha.h kg sD lh hs oX).imp fun σ H Q h=>by
 walk_at "2"
 walk_at "1"
 by_cases c:ms st1 x=true
 ·rw[aK c]at h1
  refine⟨By l1.sto q1 c,μ1,ρ,st1,l1,RK.bind h1 l1 fun μ2 c_ ws vs H2 p2 x2 l2 q2 h2=>?_⟩
  exact⟨μ2,c_,x,ws,l2.sto,q1.mono p2 x2,q2,uy h2 (hm.n _ _ _)⟩
 ·rw[aU c]at h1;exact h1.elim⟩
theorem vm{F:W->List W->List au->R W}(slot:Slot "list" name id)(ED:typeOf (.builtin id)=pure (.type "method_descriptor"))(hm:Q3 X id F)(ho:SE X o fo)
  (kg:attributeBase o name X.env (eval o X.env)=eval o X.env:=by rfl) (lh:(gR.endLine==eM.line)=true:=by rfl):SE X (.Call (.Attribute o name gR) [] [] eM) (oE F fo aD):=⟨(OG slot ED hm.h ho.h kg lh).imp fun σ H Q h=>by
 walk_at "2"
 walk_at "1"
 by_cases c:ms st1 x=true
 ·rw[aK c]at h1
  exact⟨By l1.sto q1 c,μ1,st1,x,[],l1.sto,q1,.nilI,uy h1 (hm.n _ _ _)⟩
 ·rw[aU c]at h1;exact h1.elim⟩
theorem Ly{F:W->List W->List au->R W}(slot:Slot "str" name id)(ED:typeOf (.builtin id)=pure (.type "method_descriptor"))(hm:Q3 X id F)(ho:SE X o fo)(ha:SA X (e::es) fs)
  (kg:attributeBase o name X.env (eval o X.env)=eval o X.env:=by rfl)
  (sD:((backTo eM (starEach (e::es) X.env)).all (fun x=>!x.1)&&(backToKw eM (keywordEach [] X.env)).all (fun x=>x.1.isSome)
   && decide #[18])=true:=by rfl)
  (lh:(gR.endLine==eM.line)=true:=by rfl) (hs:starEach (e::es) X.env=(false,eval e X.env)::starEach es X.env:=by rfl) (oX:(backTo eM (starEach es X.env)).any (·.1)=false:=by rfl) :
  SE X (.Call (.Attribute o name gR) (e::es) [] eM) (KA F fo fs):=⟨(RQ slot ED hm.h ho.h ha.h kg sD lh hs oX).imp fun σ H Q h=>by
 walk_at "2"
 walk_at "1"
 cases x with
 |str z=>
  rw[aK (show yR (W.str z)=true from rfl)]at h1
  refine⟨⟨z,q1.strE⟩,μ1,ρ,st1,l1,RK.bind h1 l1 fun μ2 c_ ws vs H2 p2 x2 l2 q2 h2=>?_⟩
  exact⟨μ2,c_,_,ws,l2.sto,q1.mono p2 x2,q2,uy h2 (hm.n _ _ _)⟩
 |_=>exact h1.elim⟩
def cu(x:W)(ws:List W)(st:List au):R W:=match x,ws with
 |.loc n,[y]=>(match st[n]? with
  |some (.lst zs)=>if zs.length<nO then .ok .non (st.set n (.lst (zs++[y])))else .bad
  |_=>.bad)
 |_,_=>.bad
theorem dq:Q3 X "list.append" cu:=⟨fun ak s σ H x vs v us Q I rv rus zq=>by
 obtain⟨μ,st,wx,ws,S,rx,rs,q⟩:=zq
 unfold cu at q
 split at q
 ·rename_i n y
  obtain⟨y1,rfl,ry⟩:=rs.one
  split at q
  ·rename_i zs e1
   split at q
   ·rename_i c
    obtain⟨a1,g1,vs,k1,r⟩:=S.get e1
    obtain⟨b1,f1,rfl⟩:=rx.locE
    rw[g1]at f1;cases f1
    refine Dr ak s σ H _ _ v us Q I rv rus ⟨a1,vs,y1,rfl,rfl,k1,by rw[<- r.len];exact OM (gn c),fun H2 e=>?_⟩
    subst e
    exact q μ _ _ (aq _) (gy.but mU k1) (S.set e1 g1 k1 (r.app (.consI ry .nilI))) .non
   ·exact q.elim
  ·exact q.elim
 ·exact q.elim,fun x ws st=>by
 unfold cu
 repeat' split
 all_goals trivial⟩
def qZ(x:W)(ws:List W)(st:List au):R W:=match x,ws with
 |.loc n,[]=>(match st[n]? with
  |some (.lst zs)=>uE zs.getLast? fun w=>.ok w (st.set n (.lst zs.dropLast))
  |_=>.bad)
 |_,_=>.bad
theorem qf:Q3 X "list.pop" qZ:=⟨fun ak s σ H x vs v us Q I rv rus zq=>by
 obtain⟨μ,st,wx,ws,S,rx,rs,q⟩:=zq
 unfold qZ at q
 split at q
 ·rename_i n
  have e0:=rs.nilE
  subst e0
  split at q
  ·rename_i zs e1
   obtain⟨a1,g1,vs,k1,r⟩:=S.get e1
   obtain⟨b1,f1,rfl⟩:=rx.locE
   rw[g1]at f1;cases f1
   cases hl:zs.getLast? with
   |none=>rw[hl]at q;exact q.elim
   |some w=>
    rw[hl]at q
    have hz:zs=zs.dropLast++[w]:=by
     obtain⟨ys,rfl⟩:=List.getLast?_eq_some_iff.mp hl
     simp
    rw[hz]at r
    obtain⟨xs',Q9,hx,r1,r3⟩:=r.split
    obtain⟨y',rfl,r2⟩:=r3.one
    refine Lh ak s σ H _ _ v us Q I rv rus ⟨a1,xs',y',rfl,rfl,by rw[<- hx];exact k1,fun H2 e=>?_⟩
    subst e
    have xx:fE X.K H (fU H a1 (.lst xs')):=gy.but mU k1
    exact q μ _ _ (aq _) xx (S.set e1 g1 k1 r1) (r2.mono (aq _) xx)
  ·exact q.elim
 ·exact q.elim,fun x ws st=>by
 unfold qZ uE
 repeat' split
 all_goals trivial⟩
def pE:List W->Option (List (List Nat))
 |[]=>some []
 |.str l::ws=>(pE ws).map (l :: ·)
 |_=>none
theorem wK:∀{ws:List W} {ls:List (List Nat)} {vs:List V},pE ws=some ls->RelWs K μ H ws vs->vs=ls.map fun l=>V.str (tx l)
 |[],ls,vs,h,r=>by simp only[pE]at h;cases h;exact r.nilE
 |w::ws,ls,vs,h,r=>by
  obtain⟨x,xs,rfl,rx,rs⟩:=r.consE
  cases w with
  |str l=>
   simp only[pE]at h
   cases e:pE ws with
   |none=>rw[e]at h;cases h
   |some ls'=>rw[e]at h;cases h;rw[rx.strE,wK e rs];rfl
  |_=>simp only[pE]at h;cases h
theorem yS(ls:List (List Nat)):pE (ls.map W.str)=some ls:=by
 induction ls with
 |nil=>rfl
 |cons a r ih=>show(pE (r.map W.str)).map (a :: ·)=_;rw[ih];rfl
def pF(x:W)(ws:List W)(st:List au):R W:=match x,ws with
 |.str sep,[.loc n]=>uE (lstOf st n) fun zs=>uE (pE zs) fun ls=>if (ls.map List.length).sum+ls.length*sep.length<=nO then .ok (.str (mq sep ls)) st else .bad
 |_,_=>.bad
theorem vR:Q3 X "str.join" pF:=⟨fun ak s σ H x vs v us Q I rv rus zq=>by
 obtain⟨μ,st,wx,ws,S,rx,rs,q⟩:=zq
 unfold pF at q
 split at q
 ·rename_i sep n
  obtain⟨y1,rfl,ry⟩:=rs.one
  cases e1:lstOf st n with
  |none=>rw[e1]at q;exact q.elim
  |some zs=>
   rw[e1,eY]at q
   cases e2:pE zs with
   |none=>rw[e2]at q;exact q.elim
   |some ls=>
    rw[e2,eY]at q
    split at q
    ·rename_i c
     obtain⟨a,vs,g,hS,r⟩:=S.lstOf e1
     obtain⟨b1,f1,rfl⟩:=ry.locE
     rw[g]at f1;cases f1
     have:=wK e2 r
     subst this
     exact Lf ak s σ H _ _ v us Q I rv rus ⟨sep,_,ls,rx.strE,rfl,hS,aN c #[3],sY S q⟩
    ·exact q.elim
 ·exact q.elim,fun x ws st=>by
 unfold pF
 split
 ·exact vk fun _=>vk fun _=>by split<;>trivial
 ·trivial⟩
end
def uG(cap:List (Option Nat))(ρ:cV):cV:=cap.map fun o=>o.bind fun j=>(ρ[j]?).join
theorem Si(r:Paired (fun(o:Option W) (s:Option V)=>∀w,o=some w->∃v,s=some v/\bM X.K μ H w v) ρ σ):∀cap:List (Option Nat),
  Paired (fun(o:Option W) (s:Option V)=>∀w,o=some w->∃v,s=some v/\bM X.K μ H w v) (uG cap ρ) (re cap σ)
 |[]=>.nil
 |o::cap=>by
  refine .cons (fun w e=>?_) (Si r cap)
  cases o with
  |none=>cases e
  |some j=>
   have e':(ρ[j]?).join=some w:=e
   have e2:ρ[j]?=some (some w):=by
    cases h:ρ[j]? with
    |none=>rw[h]at e';cases e'
    |some ow=>rw[h]at e';simp at e';rw[e']
   obtain⟨v,g1,g2⟩:=wB r e2
   exact⟨v,by show(σ[j]?).join=some v;rw[g1];rfl,g2⟩
open Classical in
def sZ(f:FG)(t:FT)(el:FE)(ck:Option (Nat×List W))(ρ0:cV):List W->List W->List au->R (List W)
 |[],ju,st=>if mZ st ck then .ok ju st else .bad
 |w::ws,ju,st=>if mZ st ck then(match f w ρ0 with
  |none=>.bad
  |some ρ'=>(match t ρ' st with
   |.ok true st1=>(match el ρ' st1 with
    |.ok y c_=>sZ f t el ck ρ0 ws (ju++[y]) c_
    |_=>.bad)
   |.ok false st1=>sZ f t el ck ρ0 ws ju st1
   |_=>.bad))else .bad
def k_(cap:List (Option Nat))(fi:FI)(f:FG)(t:FT)(el:FE):FE:=fun ρ st=>(fi ρ st).bind fun k st=>if k.1.length<=nO then(sZ f t el k.2 (uG cap ρ) k.1 [] st).bind fun ys st=>qa ys st else .bad
def Ut(X:Cx)(rel:List Addr->Hp->α->β->Prop)(f:cV->List au->R α)(σ:St)(H:Hp)(Q:β->Hp->Prop):Prop:=
 ∃μ ρ st a bg,Rl X μ ρ st σ H/\f ρ st=.ok a bg/\∀μ' b H',μ <+: μ'->fE X.K H H'->jC X.K X.mg μ' bg H'->rel μ' H' a b->Q b H'
def x8:FT:=fun _ st=>.ok true st
structure Sj(X:Cx)(es:List Expr)(f:FT):Prop where
 h:Hc X es (tT X f)
theorem Hc.imp{e:List Expr}{t t':TT}(h:Hc X e t)(i:∀σ H Q,t' σ H Q->t σ H Q):Hc X e t':=fun ak s σ H Q I q=>h ak s σ H Q I (i _ _ _ q)
theorem vS:Sj X [] x8:=⟨Lb.imp fun σ H Q h=>by
 walk_at "2"
 exact h μ true H (aq _) fE.refl l.sto rfl⟩
theorem E1(hc:ST X c t):Sj X [c] t:=⟨Lc hc.h⟩
theorem HL{f:FG}{Q:VK}(h:tE X (k_ cap fi f t el) σ H Q) :
  wf cap (fun σ H R=>tG X (Sg X) fi σ H R) (Se X f) (Ut X ON t) (Ut X (ux X) el) σ H Q:=by
 walk_at "2"
 refine⟨μ,ρ,st,l,RK.bind h l fun μ1 st1 k J H1 p1 x1 l1 wk h1=>?_⟩
 by_cases hz:k.1.length<=nO
 ·rw[aK hz]at h1
  refine⟨fun i m ys H'=>i<=k.1.length/\m=k.1.length-i/\ys.length<=i/\∃μ' ju bg,μ1 <+: μ'/\fE X.K H1 H'/\Rl X μ' ρ bg σ H'/\RelWs X.K μ' H' ju ys/\RK X (ux X) μ' σ H' Q ((sZ f t el k.2 (uG cap ρ) (k.1.drop i) ju bg).bind fun ys st=>qa ys st),
   ⟨_,bY _,rfl,aA _,μ1,[],st1,aq _,fE.refl,l1,.nilI,h1⟩,?_⟩
  rintro i m ys H' ⟨hi,rfl,hy,μ',ju,bg,pm,xm,lm,ra,hm⟩
  by_cases hlt:i<k.1.length
  ·rw[dD hlt]at hm
   unfold sZ at hm
   by_cases ck:mZ bg k.2
   ·rw[aK ck]at hm
    obtain⟨go,yld⟩:=(wk i μ' bg H' pm xm lm.sto ck).1 _ (aj hlt)
    refine .inr ⟨go,fun x H2 hy2=>?_⟩
    obtain⟨y1,y2,y3⟩:=yld x H2 hy2
    cases hf:f k.1[i] (uG cap ρ)with
    |none=>rw[hf]at hm;exact hm.elim
    |some ρ2=>
     rw[hf]at hm
     simp only at hm
     have lb:Rl X μ' (uG cap ρ) bg (re cap σ) H2:=⟨Si (lm.to (aq _) y1 y2).env cap,y2⟩
     refine⟨μ',uG cap ρ,bg,k.1[i],ρ2,lb,y3,hf,fun σ2 l2=>?_⟩
     cases ht:t ρ2 bg with
     |bad=>rw[ht]at hm;exact hm.elim
     |ex c s=>rw[ht]at hm;exact hm.elim
     |ok kk c_=>
      rw[ht]at hm
      refine⟨μ',ρ2,bg,kk,c_,l2,ht,fun μ3 b3 H3 p3 x3 S3 q3=>?_⟩
      cases q3
      cases kk with
      |false=>
       exact⟨_,by omega,hlt,rfl,by omega,μ3,ju,c_,pm.trans p3,xm.trans (y1.trans x3),lm.to p3 (y1.trans x3) S3,ra.mono p3 (y1.trans x3),RK.mono hm p3 (y1.trans x3)⟩
      |true=>
       rw[aK rfl]
       simp only at hm
       cases he:el ρ2 c_ with
       |bad=>rw[he]at hm;exact hm.elim
       |ex c s=>rw[he]at hm;exact hm.elim
       |ok w nL=>
        rw[he]at hm
        refine⟨μ3,ρ2,c_,w,nL,l2.to p3 x3 S3,he,fun μ4 b4 H4 p4 x4 S4 q4=>?_⟩
        have pp:=p3.trans p4
        have xx:=y1.trans (x3.trans x4)
        exact⟨jG hy (aL hlt (p8 hz)),_,by omega,hlt,rfl,by simp;omega,μ4,ju++[w],nL,pm.trans pp,xm.trans xx,lm.to pp xx S4,(ra.mono pp xx).app (.consI q4 .nilI),RK.mono hm pp xx⟩
   ·rw[aU ck]at hm;exact hm.elim
  ·have hi':i=k.1.length:=by omega
   subst hi'
   rw[pi (aA _)]at hm
   unfold sZ at hm
   by_cases ck:mZ bg k.2
   ·rw[aK ck]at hm
    obtain⟨z1,z2⟩:=wC lm.sto ra hm
    exact .inl ⟨(wk _ μ' bg H' pm xm lm.sto ck).2 (aA _),z1,fun p hp=>z2 p _ hp rfl⟩
   ·rw[aU ck]at hm;exact hm.elim
 ·rw[aU hz]at h1;exact h1.elim
section
variable{f:FG}{m:Nat}
theorem V0{X X':Cx}{f:FE}(hK:X'.K=X.K)(hm:X'.mg=X.mg)(h:SE X' e f):QE X' e (Ut X (ux X) f):=⟨h.h.imp fun σ H Q ⟨μ,ρ,st,a,bg,l,e,q⟩=>⟨μ,ρ,st,⟨by rw[hK];exact l.env,by rw[hK,hm];exact l.sto⟩,by rw[e];exact fun μ' b H' p x S r=>q μ' b H' p (by rw[<- hK];exact x) (by rw[<- hK,<- hm];exact S) (by show bM X.K μ' H' a b;rw[<- hK];exact r)⟩⟩
theorem V1{X X':Cx}{e:List Expr}{f:FT}(hK:X'.K=X.K)(hm:X'.mg=X.mg)(h:Sj X' e f):Ve X' e (Ut X ON f):=⟨h.h.imp fun σ H Q ⟨μ,ρ,st,a,bg,l,e,q⟩=>⟨μ,ρ,st,⟨by rw[hK];exact l.env,by rw[hK,hm];exact l.sto⟩,by rw[e];exact fun μ' b H' p x S r=>q μ' b H' p (by rw[<- hK];exact x) (by rw[<- hK,<- hm];exact S) r⟩⟩
theorem V2{X X':Cx}(hK:X'.K=X.K)(hm:X'.mg=X.mg)(h:SG X' e f):QG X' e (Se X f):=⟨h.h.imp fun v σ H Q ⟨μ,ρ,st,w,ρ',l,r,e,q⟩=>⟨μ,ρ,st,w,ρ',⟨by rw[hK];exact l.env,by rw[hK,hm];exact l.sto⟩,by rw[hK];exact r,e,fun σ' l'=>q σ' ⟨by rw[<- hK];exact l'.env,by rw[<- hK,<- hm];exact l'.sto⟩⟩⟩
theorem DH(hB:FZ X.env.scope.names scope.names nm cap X.N=true)(sK:X.env.cells=cellsFrom m X.env.scope.names [])(hi:SI X tg ec fi)(hg:∀cl C s0 H0 fp,SG #[10] tg f)(ht:∀cl C s0 H0 fp,Sj #[10] oo t)
  (he:∀cl C s0 H0 fp,SE #[10] sI el) (kB:X.calm=true:=by rfl) (kA:scope.kind=.function:=by rfl) (hs:∀x,foldedSetIterable ec X.env x=pure x:=by intro _;rfl) :
  SE X #[11] (k_ cap fi f t el):=
 ⟨(OI kB sK kA hB ⟨hi.h⟩ (fun cl C s0 H0 fp=>V2 (X:=X) rfl rfl (hg cl C s0 H0 fp)) (fun cl C s0 H0 fp=>V1 (X:=X) rfl rfl (ht cl C s0 H0 fp)) (fun cl C s0 H0 fp=>V0 (X:=X) rfl rfl (he cl C s0 H0 fp)) hs).h.imp fun _ _ _ h=>HL h⟩
theorem r6{x0:Str}{p0 p1:Pos}(NH:SG X (.Name x0 p0) (kH i))(hB:FZ X.env.scope.names scope.names nm cap X.N=true)(sK:X.env.cells=cellsFrom m X.env.scope.names [])(hi:SI X tg ec fi)(hg:∀cl C s0 H0 fp,SG #[10] tg f)(ht:∀cl C s0 H0 fp,Sj #[10] oo t)
  (he:∀cl C s0 H0 fp,SE #[10] sI el) (kB:X.calm=true:=by rfl) (kA:scope.kind=.function:=by rfl) (hs:∀x,foldedSetIterable ec X.env x=pure x:=by intro _;rfl)
  (TX:swapsWith #[11] (some (.Name x0 p0)) p1.line X.env=pure true:=by first|rfl|kernel_rfl) :
  SS X (.Assign [.Name x0 p0] #[11] p1) (wF (k_ cap fi f t el) (kH i)):=
 ⟨(Dw ⟨NH.h⟩ kB sK kA hB ⟨hi.h⟩ (fun cl C s0 H0 fp=>V2 (X:=X) rfl rfl (hg cl C s0 H0 fp)) (fun cl C s0 H0 fp=>V1 (X:=X) rfl rfl (ht cl C s0 H0 fp)) (fun cl C s0 H0 fp=>V0 (X:=X) rfl rfl (he cl C s0 H0 fp)) hs TX).h.imp fun D σ H h=>by
  walk_at "2"
  have h':tE X (k_ cap fi f t el) σ H fun x H1=>Se X (kH i) x σ H1 D.nx:=⟨μ,ρ,st,l,RK.stmt h l fun μ1 st1 x v H1 p1 x1 l1 q1 h1=>⟨μ1,ρ,st1,x,ρ.set i (some x),l1,q1,rfl,fun σ' l'=>h1 μ1 σ' H1 (aq _) fE.refl l'⟩⟩
  exact HL h'⟩
end
section
variable{a b:Expr}{fb fc:FE}{fs:FA}
theorem Ge{vM:List V}(hr:∀μ H,RelWs X.K μ H ws vM):DF X (U_ vM) (ws,none) μ H:=fun i μ' bg H' pp xx S _=>by
 have hl:ws.length=vM.length:=(hr μ H).len
 refine⟨fun w hw=>?_,fun h=>by show vM.length<=i;rw[<- hl];exact h⟩
 obtain⟨v,g1,g2⟩:=(hr μ' H').get hw
 refine⟨(ax.mp g1).1,fun y H'' hy=>?_⟩
 obtain⟨rfl,hy⟩:=hy
 rw[g1]at hy;cases hy
 exact⟨fE.refl,S,g2⟩
def jf(l:List Nat):List W:=l.map fun c=>.str [c]
theorem yT(l:List Nat)(μ:List Addr)(H:Hp):RelWs X.K μ H (jf l) (jX l):=by
 induction l with
 |nil=>exact .nilI
 |cons a r ih=>exact .consI .str ih
def MD(fe:FE):FI:=fun ρ st=>(fe ρ st).bind fun x st=>match x with
 |.str l=>.ok (jf l,none) st
 |_=>.bad
theorem OY(he:SE X e fe):SI X tg e (MD fe):=⟨(OC he.h).imp fun σ H R h=>by
 walk_at "2"
 walk_at "1"
 cases x with
 |str z=>exact⟨z,q1.strE,h1 μ1 _ H1 (aq _) fE.refl l1.sto (Ge (yT z))⟩
 |_=>exact h1.elim⟩
def ic(fe:FE):FI:=fun ρ st=>(fe ρ st).bind fun x st=>match x with
 |.tup ws=>.ok (ws,none) st
 |.loc n=>(match lstOf st n with
  |some ws=>.ok (ws,some (n,ws)) st
  |none=>.bad)
 |.str l=>.ok (jf l,none) st
 |_=>.bad
theorem nr(he:SE X e fe):SI X tg e (ic fe):=⟨fun ak s σ H Rr I h=>by
 walk_at "2"
 cases e1:fe ρ st with
 |bad=>simp only[ic,e1,R.bind_bad]at h;exact h.elim
 |ex c st1=>
  refine(HJ (tg:=tg) he).h ak s σ H Rr I ⟨μ,ρ,st,l,?_⟩
  simp only[ic,HI,e1,R.bind_ex]at h ⊢;exact h
 |ok w st1=>
  cases w with
  |tup ws=>
   refine(HJ (tg:=tg) he).h ak s σ H Rr I ⟨μ,ρ,st,l,?_⟩
   simp only[ic,HI,e1,R.bind_ok]at h ⊢;exact h
  |loc n=>
   refine(OX (tg:=tg) he).h ak s σ H Rr I ⟨μ,ρ,st,l,?_⟩
   simp only[ic,MB,e1,R.bind_ok]at h ⊢;exact h
  |str z=>
   refine(OY (tg:=tg) he).h ak s σ H Rr I ⟨μ,ρ,st,l,?_⟩
   simp only[ic,MD,e1,R.bind_ok]at h ⊢;exact h
  |_=>simp only[ic,e1,R.bind_ok]at h;exact h.elim⟩
def m5(ws:List W):List W:=(List.range ws.length).map fun(i:Nat)=>W.tup [.int i,ws.getD i .non]
theorem uH{w:W}(h:(m5 ws)[i]?=some w):∃y,ws[i]?=some y/\w=.tup [.int i,y]:=by
 unfold m5 at h
 rw[aG]at h
 by_cases hi:i<ws.length
 ·rw[gH hi]at h
  refine⟨ws[i],aj hi,?_⟩
  have:=(bf h).symm
  rw[this]
  show W.tup [W.int i,ws.getD i W.non]=_
  rw[aI,aj hi];rfl
 ·rw[bD (by simpa using hi)]at h;cases h
theorem yU(ws:List W):(m5 ws).length=ws.length:=by simp[m5]
def r9(fs:FA):FI:=fun ρ st=>(fs ρ st).bind fun ws st=>match ws with
 |[.tup zs]=>.ok (m5 zs,none) st
 |_=>.bad
theorem E2{xO:List Expr}{kk:Nat}{tp:Pos}(hm:X.mg "enumerate"=none)(ha:SA X [a] fs)(hg:Gl X "enumerate":=by rfl)(hs:starEach [a] X.env=[(false,eval a X.env)]:=by rfl) :
  SI X (.Tuple xO kk tp) (.Call (.Name "enumerate" p) [a] [] pos) (r9 fs):=⟨(Hl hm ⟨ha.h⟩ hg hs).h.imp fun σ H R h=>by
 walk_at "2"
 walk_at "1"
 split at h1
 ·rename_i zs
  obtain⟨y,rfl,ry⟩:=q1.one
  obtain⟨p,vs,rfl,hS,r⟩:=ry.tupE
  refine⟨p,rfl,⟨vs,hS⟩,h1 μ1 _ H1 (aq _) fE.refl l1.sto fun i μ' bg H' pp xx S _=>⟨fun w hw=>?_,fun hl=>⟨vs,xx _ _ hS,by rw[yU]at hl;rw[<- r.len];exact hl⟩⟩⟩
  obtain⟨y,hy,rfl⟩:=uH hw
  have r':=r.mono pp xx
  obtain⟨v,g1,g2⟩:=r'.get hy
  refine⟨⟨vs,v,xx _ _ hS,g1⟩,fun z H'' hz=>?_⟩
  obtain⟨q,hq,rfl,hH⟩:=hz
  have e:=hH vs v (xx _ _ hS) g1
  subst e
  have ex:=gy.same (K:=X.K) (cS hq (.tup [.int i,v]))
  exact⟨ex,S.same (cS hq _),.tupI gy.new (.consI .int (.consI (g2.mono (aq _) ex) .nilI))⟩
 ·exact h1.elim⟩
def r_(fa:FE):FE:=fun ρ st=>(fa ρ st).bind fun x st=>match x with
 |.int i=>.ok (.int (-i)) st
 |_=>.bad
theorem wL(ha:SE X a fa):SE X (.UnaryOp .USub a pos) (r_ fa):=⟨(Rt Oo ha.h).imp fun σ H Q h=>by
 walk_at "2"
 walk_at "1"
 cases x with
 |int k=>exact⟨k,q1.intE,h1 μ1 _ H1 (aq _) fE.refl l1.sto .int⟩
 |_=>exact h1.elim⟩
def Gf(x y:W)(st:List au):R W:=match x,y with
 |.int i,.int j=>.ok (.bl (decide (i<=j))) st
 |.str [c],.str [d]=>.ok (.bl (decide (c<=d))) st
 |_,_=>.bad
theorem Sk:xR X (compareOp .LtE) Gf:=⟨fun ak s σ H x y v u Q I rv ru zq=>by
 obtain⟨μ,st,wx,wy,S,rx,ry,q⟩:=zq
 unfold Gf at q
 split at q
 ·exact Rv ak s σ H x y v u Q I rv ru ⟨_,_,rx.intE,ry.intE,qc S q⟩
 ·exact FX ak s σ H x y v u Q I rv ru ⟨_,_,rx.strE,ry.strE,qc S q⟩
 ·exact q.elim,fun x y st=>by unfold Gf;split<;>trivial⟩
end
def zO(c:Nat):List Nat->List Nat
 |[]=>[c]
 |d::r=>if c<d then c::d::r else if c=d then d::r else d::zO c r
def g9(l:List Nat):List Nat:=l.foldr zO []
theorem wM{c x:Nat}:∀{l:List Nat},x∈zO c l↔x=c\/x∈l
 |[]=>by simp[zO]
 |d::r=>by
  unfold zO
  split
  ·simp
  ·split
   ·rename_i h;subst h;simp
   ·simp only[aX,wM]
    constructor
    ·rintro(h|h|h)<;>simp[h]
    ·rintro(h|h|h)<;>simp[h]
theorem E3{c:Nat}:∀{l:List Nat},l.Pairwise (· < ·)->(zO c l).Pairwise (· < ·)
 |[],_=>by simp[zO]
 |d::r,h=>by
  obtain⟨h1,h2⟩:=b6.mp h
  unfold zO
  split
  ·rename_i hc
   refine b6.mpr ⟨fun x hx=>?_,h⟩
   rcases aX.mp hx with rfl|hx
   ·exact hc
   ·exact ug hc (h1 x hx)
  ·split
   ·exact h
   ·rename_i hc hd
    refine b6.mpr ⟨fun x hx=>?_,E3 h2⟩
    rcases wM.mp hx with rfl|hx
    ·omega
    ·exact h1 x hx
theorem jL{x:Nat}:x∈g9 l↔x∈l:=by
 induction l with
 |nil=>simp[g9]
 |cons a r ih=>show x∈zO a (g9 r)↔_;rw[wM,ih];simp
theorem j6(l:List Nat):(g9 l).Pairwise (· < ·):=by
 induction l with
 |nil=>exact List.Pairwise.nil
 |cons a r ih=>exact E3 ih
theorem zP:∀{l m:List Nat},l.Pairwise (· < ·)->m.Pairwise (· < ·)->(∀x,x∈l↔x∈m)->l=m
 |[],[],_,_,_=>rfl
 |[],b::m,_,_,h=>by have:=(h b).mpr (by simp);simp at this
 |a::l,[],_,_,h=>by have:=(h a).mp (by simp);simp at this
 |a::l,b::m,h1,h2,h=>by
  obtain⟨p1,p2⟩:=b6.mp h1
  obtain⟨q1,q2⟩:=b6.mp h2
  have e:a=b:=by
   rcases aX.mp ((h a).mp #[15])with z|z
   ·exact z
   ·rcases aX.mp ((h b).mpr #[15])with y|y
    ·exact y.symm
    ·have:=p1 b y;have:=q1 a z;omega
  subst e
  rw[zP p2 q2 fun x=>?_]
  constructor
  ·intro hx
   rcases aX.mp ((h x).mp (aW _ hx))with z|z
   ·subst z;exact absurd (p1 x hx) (dJ _)
   ·exact z
  ·intro hx
   rcases aX.mp ((h x).mpr (aW _ hx))with z|z
   ·subst z;exact absurd (q1 x hx) (dJ _)
   ·exact z
def DI(c:List Nat):List (List Nat)->List (List Nat)
 |[]=>[c]
 |d::r=>if c<d then c::d::r else d::DI c r
def jM(l:List (List Nat)):List (List Nat):=l.foldr DI []
theorem uI(c:List Nat):∀l:List (List Nat),(DI c l).Perm (c::l)
 |[]=>iS _
 |d::r=>by
  unfold DI
  split
  ·exact iS _
  ·exact((uI c r).cons d).trans (List.Perm.swap c d r)
theorem hV(l:List (List Nat)):(jM l).Perm l:=by
 induction l with
 |nil=>exact iS _
 |cons a r ih=>exact(uI a _).trans (ih.cons a)
def Lz:List (List Nat)->Prop:=List.Pairwise fun a b=>¬ b<a
theorem E4(c:List Nat):∀{l:List (List Nat)},Lz l->Lz (DI c l)
 |[],_=>by simp[DI,Lz]
 |d::r,h=>by
  obtain⟨h1,h2⟩:=b6.mp h
  unfold DI
  split
  ·rename_i hc
   refine b6.mpr ⟨fun x hx=>?_,h⟩
   rcases aX.mp hx with rfl|hx
   ·exact fun z=>List.lt_irrefl _ (List.lt_trans z hc)
   ·exact fun z=>h1 x hx (List.lt_trans z hc)
  ·rename_i hc
   refine b6.mpr ⟨fun x hx=>?_,E4 c h2⟩
   rcases aX.mp ((uI c r).mem_iff.mp hx)with rfl|hx
   ·exact hc
   ·exact h1 x hx
theorem wN(l:List (List Nat)):Lz (jM l):=by
 induction l with
 |nil=>exact List.Pairwise.nil
 |cons a r ih=>exact E4 a ih
theorem vT:∀{l m:List (List Nat)},Lz l->Lz m->l.Perm m->l=m
 |[],m,_,_,h=>(List.Perm.nil_eq h)
 |a::l,[],_,_,h=>(by have:=h.length_eq;simp at this)
 |a::l,b::m,h1,h2,h=>by
  obtain⟨p1,p2⟩:=b6.mp h1
  obtain⟨q1,q2⟩:=b6.mp h2
  have e:a=b:=by
   rcases aX.mp (h.mem_iff.mp (by simp:a∈a::l))with z|z
   ·exact z
   ·rcases aX.mp (h.mem_iff.mpr (by simp:b∈b::m))with y|y
    ·exact y.symm
    ·exact List.le_antisymm (show a<=b from p1 b y) (show b<=a from q1 a z)
  subst e
  rw[vT p2 q2 (List.perm_cons a |>.mp h)]
theorem wO:∀{zs:List (List Nat)},sortedS (zs.map tx)=true->Lz zs:=by
 have key:∀(zs:List (List Nat)) (p:List Nat),risingS (tx p) (zs.map tx)=true->Lz (p::zs):=by
  intro zs
  induction zs with
  |nil=>intro p _;simp[Lz]
  |cons a r ih=>
   intro p h
   have h':(!ltCps a p&&risingS (tx a) (r.map tx))=true:=h
   rw[dC,fj,ltCps_eq,decide_eq_false_iff_not]at h'
   have u:=ih a h'.2
   refine b6.mpr ⟨fun x hx=>?_,u⟩
   rcases aX.mp hx with rfl|hx
   ·exact h'.1
   ·have:=(b6.mp u).1 x hx
    exact List.not_lt.mpr (List.le_trans (List.not_lt.mp h'.1) (List.not_lt.mp this))
 intro zs h
 cases zs with
 |nil=>exact List.Pairwise.nil
 |cons a r=>exact key r a h
section
variable{a b:Expr}{fb fc:FE}{fs:FA}
def qQ(ws:List W)(st:List au):R W:=match ws with
 |[.loc n]=>uE (lstOf st n) fun zs=>uE (pE zs) fun ls=>if ls.length<64 then .ok (.loc st.length) (st++[.lst ((jM ls).map W.str)])else .bad
 |_=>.bad
theorem Bz(ls:List (List Nat)):RelWs K μ H (ls.map W.str) (ls.map fun l=>V.str (tx l)):=by
 induction ls with
 |nil=>exact .nilI
 |cons a r ih=>exact .consI .str ih
theorem BA:qd X (.builtin "sorted") qQ:=⟨fun ak s σ H vs us Q I rv zq=>by
 obtain⟨μ,st,ws,S,r,q⟩:=zq
 unfold qQ at q
 split at q
 ·rename_i n
  obtain⟨y,rfl,ry⟩:=r.one
  cases e1:lstOf st n with
  |none=>rw[e1]at q;exact q.elim
  |some zs=>
   rw[e1,eY]at q
   cases e2:pE zs with
   |none=>rw[e2]at q;exact q.elim
   |some ls=>
    rw[e2,eY]at q
    split at q
    ·rename_i c
     obtain⟨a,vs,g,hS,rz⟩:=S.lstOf e1
     obtain⟨b1,f1,rfl⟩:=ry.locE
     rw[g]at f1;cases f1
     have:=wK e2 rz
     subst this
     refine xW.h ak s σ H _ us Q I rv ⟨_,ls,rfl,hS,c,fun zs hp hs l H2 hl eH=>?_⟩
     subst eH
     have ez:zs=jM ls:=vT (wO hs) (wN ls) (hp.trans (hV ls).symm)
     subst ez
     exact q (μ++[l]) _ _ (a_ _ _) (gy.same (cS hl _)) (S.newLst hl (Bz _)) (qb S)
    ·exact q.elim
 ·exact q.elim,fun ws st=>by
 unfold qQ
 split
 ·exact vk fun _=>vk fun _=>by split<;>trivial
 ·trivial⟩
def mh:List W->Option (List Nat)
 |[]=>some []
 |.str [c]::ws=>(mh ws).map (c :: ·)
 |_=>none
theorem s9:∀{ws:List W} {l:List Nat} {vs:List V},mh ws=some l->RelWs K μ H ws vs->vs=jX l
 |[],l,vs,h,r=>by simp only[mh]at h;cases h;exact r.nilE
 |w::ws,l,vs,h,r=>by
  obtain⟨x,xs,rfl,rx,rs⟩:=r.consE
  unfold mh at h
  split at h
  ·rename_i e;cases e
  ·rename_i c TU e
   cases e
   cases e2:mh ws with
   |none=>rw[e2]at h;cases h
   |some l'=>rw[e2]at h;cases h;rw[rx.strE,s9 e2 rs];rfl
  ·cases h
def wP:W->Option (List Nat)
 |.str l=>some l
 |.tup ws=>mh ws
 |_=>none
def s_(fe:FE):FE:=fun ρ st=>(fe ρ st).bind fun x st=>uE (wP x) fun l=>if l.length<4000/\(g9 l).length<64 then .ok #[5] (st++[.lst (jf (g9 l))])else .bad
theorem nu(hm:m.Nodup)(h:∀c∈m,c∈l):m.length<=l.length:=by
 induction m generalizing l with
 |nil=>exact bY _
 |cons a r ih=>
  obtain⟨h1,h2⟩:=jx.mp hm
  have ha:a∈l:=h a #[15]
  have:=ih h2 (l:=l.erase a) fun c hc=>by
   have:c≠a:=fun z=>h1 (z▸hc)
   exact(List.mem_erase_of_ne this).mpr (h c (aW _ hc))
  rw[List.length_erase_of_mem ha]at this
  have:0<l.length:=List.length_pos_of_mem ha
  simp;omega
theorem Gh{p1 p2 QW Mf:Pos}(h1:X.mg "sorted"=none)(h3:X.mg "set"=none)(he:SE X e fe)(hc:X.calm=true:=by rfl)
  (VG:Gl X "sorted":=by rfl) (VM:Gl X "set":=by rfl) (UL:starEach [e] X.env=(false,eval e X.env)::starEach [] X.env:=by rfl):SE X (.Call (.Name "sorted" p1) [.Call (.Name "set" p2) [e] [] Mf] [] QW) (s_ fe):=⟨(F7 h1 h3 ⟨he.h⟩ hc VG VM UL).h.imp fun σ H Q h=>by
 walk_at "2"
 walk_at "1"
 cases e1:wP x with
 |none=>rw[e1]at h1;exact h1.elim
 |some ll=>
  rw[e1,eY]at h1
  split at h1
  ·rename_i c
   refine⟨ll,?_,c.1,fun m hm hsub=>?_,fun m VF hup hmem a H2 ha eH=>?_⟩
   ·cases x with
    |str z=>cases e1;exact .inl q1.strE
    |tup ws=>obtain⟨p,vs,rfl,hS,r⟩:=q1.tupE;have:=s9 e1 r;subst this;exact .inr ⟨p,rfl,hS⟩
    |_=>cases e1
   ·exact jG (nu hm fun c hc=>jL.mpr (hsub c hc)) c.2
   ·subst eH
    have em:m=g9 ll:=by
     refine zP ((List.Pairwise.and hup VF).imp fun z=>Nat.lt_of_le_of_ne z.1 z.2) (j6 ll) fun x=>?_
     rw[hmem,jL]
    subst em
    exact h1 (μ1++[a]) _ _ (a_ _ _) (gy.same (cS ha _)) (l1.sto.newLst ha (yT (X:=X) _ _ _)) (qb l1.sto)
  ·exact h1.elim⟩
end
def W.ty:W->Option String
 |.non=>some "NoneType" | .bl _=>some "bool" | .int _=>some "int" | .str _=>some "str" | .tup _=>some "tuple" | .loc _=>none
def LA(t T:String):Bool:=(t==T)||(t == "bool" && T == "int")
theorem Sl{K:Frag}(h:Hi T){w:W}{t:String}(hw:w.ty=some t):kitOne K (.type t) (.type T)=some (LA t T):=by
 cases w<;>simp only[W.ty]at hw<;>cases hw<;>(rcases h with rfl|rfl|rfl|rfl<;>rfl)
def wQ(T:String)(fa:FE):FE:=fun ρ st=>(fa ρ st).bind fun x st=>match x.ty with
 |some t=>.ok (.bl (LA t T)) st
 |none=>.bad
section
variable{a b:Expr}{fb fc:FE}{fs:FA}
theorem vn{xT:Str}(hm:X.mg "isinstance"=none)(hT:X.mg xT=none)(hv:bootBuiltins xT=some (.type T))(ha:SE X a fa)(hk:Hi T:=by first|exact .inl rfl|exact .inr (.inl rfl)|exact .inr (.inr (.inl rfl))|exact .inr (.inr (.inr rfl)))
  (hg:Gl X "isinstance":=by rfl) (Ue:Gl X xT:=by rfl) (hn:xT ≠ "__name__":=by decide) (hd:(xT==("__debug__":Str))=false:=by decide)
  (he:starEach [a,.Name xT p2] X.env=(false,eval a X.env)::starEach [.Name xT p2] X.env:=by rfl) (Me:starEach [.Name xT p2] X.env=(false,eval (.Name xT p2) X.env)::starEach [] X.env:=by rfl) (on:(backTo pos (starEach [.Name xT p2] X.env)).any (·.1)=false:=by rfl) :
  SE X (.Call (.Name "isinstance" p) [a,.Name xT p2] [] pos) (wQ T fa):=by
 have C:jb X (.builtin "isinstance") (fun xs H Q=>∃x μ st w t,xs=[x,.ty T]/\jC X.K X.mg μ st H/\bM X.K μ H w x/\w.ty=some t/\Q (.bl (LA t T)) H):=by
  intro ak s σ H xs us Q I r h
  obtain⟨x,μ,st,w,t,rfl,S,rx,ht,q⟩:=h
  obtain⟨u,u2,rfl,r1,r2⟩:=cK.two r
  obtain rfl:u2=.type T:=r2
  have e:=Sl (K:=X.K) hk ht
  cases w with
  |tup ws=>
   cases ht
   obtain⟨p,vs,rfl,hS,_⟩:=rx.tupE
   cases(show u=Value.ref p from r1)
   obtain⟨bN,_,hp,_⟩:=I.tuple hS
   obtain⟨o,h1,h2,_⟩:=hp
   exact up (kia_one PySem.W.kitx_tuple I.kIn ⟨o,h1,h2⟩ e (fun z=>nomatch z) fun tk hk=>⟨.bl _,H,I.tok tk,rfl,q⟩)
  |non=>cases ht;cases rx.nonE;exact up (qM I r1 .non e fun tk hk=>⟨.bl _,H,I.tok tk,rfl,q⟩)
  |bl b=>cases ht;cases rx.blE;exact up (qM I r1 (.bl _) e fun tk hk=>⟨.bl _,H,I.tok tk,rfl,q⟩)
  |int b=>cases ht;cases rx.intE;exact up (qM I r1 (.int _) e fun tk hk=>⟨.bl _,H,I.tok tk,rfl,q⟩)
  |str b=>cases ht;cases rx.strE;exact up (qM I r1 (.str _) e fun tk hk=>⟨.bl _,H,I.tok tk,rfl,q⟩)
  |loc b=>cases ht
 refine⟨(p7 C hg hm jy (kW ha.h (kW (EF Ue hT hv (v:=.ty T) rfl hn hd) ut Me) he) #[3] #[3] he on).imp fun σ H Q h=>?_⟩
 walk_at "2"
 walk_at "1"
 cases ht:x.ty with
 |none=>rw[ht]at h1;exact h1.elim
 |some t=>
  rw[ht]at h1
  exact⟨v,μ1,st1,x,t,rfl,l1.sto,q1,ht,h1 μ1 _ H1 (aq _) fE.refl l1.sto .bl⟩
theorem HM{w:World}{st:Stmt}{f:Addr}{ps:List Str}
  (F:iW K x x st f fd) (hm:mg x=some (.ref f)) (hn:ps.length=n)
  (hb:∀(kV uk pm:Value) (an:Option Addr) (fC ct:Value) (us:List Value),us.length=ps.length->bindArgs (fnOf x x (iV st) (hJ st) (aO st) .none kV uk pm an fC ct) ⟨us,[]⟩=pure (ps.zip us)) :
  bQ P w K mg base k x n (fun _ _=>.bad):=zN F hm hn hb ⟨fun vs H Q E h=>by rw[hn];exact h.1,fun _ _ _ _ _ _ _ _ _ _ _ _ _ _ h=>by obtain⟨_,_,_,_,_,_,z⟩:=h;exact z.elim⟩
end
def ME(F:List W->List au->R W):Prop:=∀ns:List Int,ns.length<=63->∃bg,F [.loc 0] [.ro (ns.map W.int)]=.ok (.bl true) bg
theorem walkW{l:PySem.W.OpenLaw}{q:Program}{zj:List Str}{d:DefRec}{K:Params->Frag}(hn:l.most=some 63)(Uh:d.params.defaults=[])(hr:jW k callerA)
  (hY:∀(w:World) (h:Heap),YP w h->(K w.params).In h)
  (F:∀(w:World) (mg:Str->Option Value) (fa:Addr) (h:Heap),(K w.params).In h->h.Ns mainGlobals mg->mg d.name=some (.ref fa) ->
   ∃fd:FuncData,fd.scope.names.lookup x=some .local/\(∀(s:Shared) (u:Value),BindsTo s fd ⟨[u],[]⟩ [(x,u)])/\∀base:Heap,(K w.params).In base->base.Ns mainGlobals mg->c6 l.prog w (K w.params) mg base (iJ l.prog w) k fa fd [x] (iY (K w.params) mg 1 G))
  (ok:ME G):PySem.W.WalkO q zj XP YP l.row.toRowW d [] (fun f vs=>PySem.call f vs):=by
 refine L2.walk_of (n:=63) (k:=k) (x:=x) (CX:=fun w=>iJ l.prog w)
  (sp:=fun w=>fun vs H Q E=>∃(a:Addr) (ns:List Int),vs=[.ref a]/\um (K w.params) H a (ns.map V.int)/\La H/\ns.length<=63/\∀H',Q (.bl true) H') hn #[3] Uh hr hY (fun w mg fa h h1 h2 h3=>?_)
  (fun w H a ns hl hO hS=>⟨a,ns,rfl,hS,hO,hl,fun _=>rfl⟩) fun w H s e s' z=>?_
 ·obtain⟨fd,hlo,hb,ho⟩:=F w mg fa h h1 h2 h3
  refine⟨fd,hlo,hb,fun base kb nb=>(ho base kb nb).imp fun vs H Q E hh=>?_⟩
  obtain⟨a,ns,rfl,hS,hO,hl,q⟩:=hh
  obtain⟨bg,e⟩:=ok ns hl
  have CT:Uq (K w.params) H a (ns.map V.int):=by
   rcases hS with(z|⟨o,z⟩)|z
   ·rcases hO a with y|⟨o,xs,y⟩
    ·rw[z]at y;cases y
    ·rw[z]at y;cases y
   ·exact .inl ⟨o,z⟩
   ·exact .inr z
  have hr:RelWs (K w.params) [a] H (ns.map W.int) (ns.map V.int):=by
   clear hS CT e hl
   induction ns with
   |nil=>exact .nilI
   |cons n r ih=>exact .consI .int ih
  refine⟨rfl,[a],[.loc 0],[.ro (ns.map W.int)],⟨fun i j b ci cj c1 c2 r1 r2 m1 m2=>?_,rfl,fun i c b c1 c2=>?_⟩,.consI (.locI rfl) .nilI,?_⟩
  ·cases i with
   |zero=>cases c1;cases r1
   |succ i=>simp at c1
  ·cases i with
   |zero=>cases c1;cases c2;exact⟨_,CT,hr⟩
   |succ i=>simp at c1
  ·rw[e]
   intro μ' v H' _ _ _ rv
   rw[rv.blE];exact q H'
 ·obtain⟨_,_,_,_,_,_,z,_⟩:=z
  exact z
abbrev q5:List Value:=[.type "ValueError",.type "Exception",.type "BaseException",.type "object"]
abbrev rD:String:="ValueError.__new__"
def BB(K:Frag)(C:Addr):List Value:=match K.lookup C with
 |some ⟨_,_,.cls cd,_⟩=>cd.mro
 |_=>[]
theorem qR{We:List Value}{qB:String}(X:K.In h)(q:excIn K C We qB=true) :
  ∃bm N nm qn bs hdct sn sub ab col dd k0 k1 k2 k3 k5 mN,h.get? C=some (excClassObj nm qn C N bs bm hdct sn sub ab col dd k0 k1 k2 k3 k5 qB)/\h.Ns N mN/\mN "__init__"=none/\OwnTail h We bm/\BB K C=.ref C::bm:=by
 have q0:=q
 unfold excIn at q
 split at q
 ·rename_i dd cd sl ho
  split at q
  ·rename_i C' bm k0 k1 k2 k3 n k5 hm hs
   simp only[dC,du,fj]at q
   obtain⟨⟨⟨⟨⟨rfl,rfl⟩,hdel⟩,ht⟩,hok⟩,hni⟩:=q
   have hmro:BB K C'=cd.mro:=by unfold BB;rw[ho]
   obtain⟨nm,bs,mro,ns,qn,hd,sn,sub,ab,col,del⟩:=cd
   dsimp only at hm hdel hok hni hmro
   subst hm hdel
   have hsl:sl=#[k0,k1,k2,k3,some (.builtin n),k5]:=by
    obtain⟨l⟩:=sl
    simp only at hs
    rw[hs]
   subst hsl
   exact⟨bm,ns,nm,qn,bs,hd,sn,sub,ab,col,dd,k0,k1,k2,k3,k5,_,X _ _ ho,.of_isNs (PySem.W.isNs_of_in X hok),PySem.W.nsMap_none_of_in X hok hni,PySem.W.tail_of_in X ht,hmro⟩
  ·cases q
 ·cases q
structure HN(K:Frag)(mg:Str->Option Value)(x:Str):Prop where
 ex:∃C,mg x=some (.ref C)/\excIn K C q5 rD=true
def uJ(c:Str):FS:=fun ρ st=>.ex c ρ st
theorem tf{np eM pos p':Pos}{z:Str}{j:Nat}(hC:HN X.K X.mg x)(kB:X.calm=true:=by rfl)(hg:Gl X x:=by rfl)(hd:(x==("__debug__":Str))=false:=by decide)
  (he:starEach [.Constant (.str z) j p'] X.env=(false,eval (.Constant (.str z) j p') X.env)::starEach [] X.env:=by rfl):SS X (.Raise (some (.Call (.Name x np) [.Constant (.str z) j p'] [] eM)) none pos) (uJ x):=⟨by
 intro ak s σ H D I h
 walk_at "2"
 obtain⟨C,hm,q⟩:=hC.ex
 have hh:X.A.handled=none:=I.ok.hd kB
 obtain⟨bm,N,nm,qn,bs,hdct,sn,sub,ab,col,dd,k0,k1,k2,k3,k5,mN,g1,g2,g3,g4,g5⟩:=qR I.kIn q
 refine wpAny_Raise_call_subT (C:=C) (nm:=nm) (q:=qn) (N:=N) (bs:=bs) (bm:=bm) (hdct:=hdct) (sn:=sn) (sub:=sub) (ab:=ab) (col:=col) (dd:=dd) (k0:=k0) (k1:=k1) (k2:=k2) (k3:=k3) (k5:=k5)
  F.excBase_ValueError (mN:=mN) (g4.hasType F.excBase_ValueError.hasBase) hh (by rw[he];rfl) g3 (sO I hg hm ⟨rfl,?_⟩ hd)
 rw[he]
 refine lr ?_
 show wpAny _ _ (spliced ((false,eval (.Constant (.str z) j p') X.env)::[])) _ _ s
 refine fO (wpAny_Constant_str (iH ?_))
 refine⟨rfl,(by show 1<=sizeLine;decide),g1,g2,g4,fun h' e hx=>?_⟩
 have I2:bH X ak σ H { s with heap:=h',toks:=s.toks+1 }:=I.kept hx.keeps
 have en:H e=none:=by
  cases hu:H e with
  |none=>rfl
  |some u=>
   obtain⟨ob,hob⟩:=(I.hok e u hu).ex
   have:=hx.new
   rw[show({ s with toks:=s.toks+1 }:Shared).heap=s.heap from rfl]at this
   rw[hob]at this;cases this
 obtain⟨t,Q7,ht2,ht3⟩:=hx.there
 have hin:∀env∈X.stack,∀b,env.frame=some b->b∈sN X.stack:=fun env he b hb=>mF.mpr ⟨env,he,hb⟩
 refine h ak μ σ H (.ref e) _ (aq _) fE.refl l ⟨I2,e,.ref C,t,hideAll s.heap (sN X.stack),rfl,hm,en,fun b o hb=>hx.keeps b o (PySem.W.of_hideAll _ hb),?_,?_,.inr (.inl ⟨_,_,Q7,rfl,rfl,rfl,rfl,rfl⟩),fun b o hb hr=>?_⟩
 ·cases hq:(hideAll s.heap (sN X.stack)).get? e with
  |none=>rfl
  |some o=>have z:=PySem.W.of_hideAll _ hq;have y:=hx.new;rw[show({ s with toks:=s.toks+1 }:Shared).heap=s.heap from rfl,z]at y;cases y
 ·exact(PySem.W.funFrames_hide I.stack hin).of_keeps fun b o hb _=>⟨o,hx.keeps b o hb,rfl⟩
 ·have old:∀o0,s.heap.get? b=some o0->s.heap.get? b=some o:=fun o0 h0=>by
   have h1:h'.get? b=some o0:=hx.keeps b o0 h0
   have h2:h'.get? b=some o:=hb
   rw[h1]at h2;rw[<- h2];exact h0
  have kQ:∀o0,s.heap.get? b=some o0->b∉sN X.stack->(hideAll s.heap (sN X.stack)).get? b=some o:=fun o0 h0 hn=>PySem.W.hideAll_get _ (old o0 h0) hn
  rcases hr with hr|⟨⟨o0,h0⟩,hf,hbx⟩|⟨⟨y,hy⟩,hf⟩|⟨pp,hp,rfl⟩
  ·cases hu:H b with
   |none=>exact absurd hu hr
   |some u=>
    obtain⟨ob,hob⟩:=(I.hok b u hu).ex
    exact kQ ob hob fun z=>by have:=I.stkFree b z;rw[hu]at this;cases this
  ·obtain⟨o1,h1⟩:=I.base.there b o0 h0 hbx
   refine kQ o1 h1 fun z=>?_
   rcases aX.mp (I.stkSub b z)with z|z
   ·rw[z]at h0;exact absurd (aL (aJ h0) I.ok.above) (dJ _)
   ·exact hf z
  ·obtain⟨v,ov,hov,_⟩:=I.cell y b hy
   exact kQ ov hov hf
  ·obtain⟨p1,p2,p3,p4,_⟩:=I.pin pp hp
   refine kQ _ p1 fun z=>?_
   rcases aX.mp (I.stkSub _ z)with z|z
   ·exact p3 z
   ·exact p4 z⟩
theorem bH.unbound{v:Option Value}{m:Str->Option Value}(I:bH X ak σ H s)(hN:X.N.Nodup)(hi:X.N[i]?=some x)(hn:s.heap.Ns X.env.locals m)
  (T7:h'.Ns X.env.locals (fun y=>if y=x then v else m y)) (hs:Heap.SameBut X.env.locals s.heap h') (KF:s.toks<=t':=by first|exact aA _|exact bn _|assumption|omega):bH X ak (σ.set i none) H { s with heap:=h',toks:=t' }:=by
 obtain⟨m0,hn0,hl⟩:=id I.loc
 have em:m0=m:=by
  obtain⟨o,es,ep,a1,a2,a3,a4⟩:=hn0
  obtain⟨o',es',ep',b1,b2,b3,b4⟩:=hn
  rw[a1]at b1;cases b1
  rw[a2]at b2;cases b2
  funext y;rw[<- a4,<- b4]
 subst em
 obtain⟨oL,_,_,hoL,_⟩:=id hn0
 have cne:=I.cne
 refine⟨I.ok,I.os,I.bare,⟨fun b o e n hb hx=>?_,fun b o e n hb hx=>?_,I.base.free,fun b o e hx=>?_,I.base.tups,I.base.frzs,I.base.tbls⟩,⟨_,T7,fun j y w e1 e2 e3=>?_⟩,fun y c e=>?_,I.free,I.freeC,fun p hp=>?_,fun b ob e=>?_,by simpa using I.len,aL I.pos KF,aN I.tk KF⟩
 ·exact(hs.2 b (a9 (aL (aJ e) I.ok.above))).trans (I.base.keep b o e n hb hx)
 ·obtain⟨sl,e1⟩:=I.base.slot b o e n hb hx
  exact⟨sl,(hs.2 b (a9 (aL (aJ e) I.ok.above))).trans e1⟩
 ·obtain⟨o',e1⟩:=I.base.there b o e hx
  exact⟨o',(hs.2 b (a9 (aL (aJ e) I.ok.above))).trans e1⟩
 ·by_cases hj:j=i
  ·subst hj
   by_cases hlt:j<σ.length
   ·rw[b8 hlt]at e2;cases e2
   ·rw[bD (by simpa using hlt)]at e2;cases e2
  ·rw[cL (Ne.symm hj)]at e2
   obtain⟨u',r',q⟩:=hl j y w e1 e2 e3
   refine⟨u',r'.up KF,?_⟩
   rcases q with⟨k,e⟩|⟨k,c,e,z⟩
   ·refine .inl ⟨k,?_⟩
    have:y≠x:=fun e=>hj (v9 hN e1 (e▸hi))
    simp[this,e]
   ·exact .inr ⟨k,c,e,z.sameBut hs (cne y c e)⟩
 ·obtain⟨w',z⟩:=I.cell y c e
  exact⟨w',z.sameBut hs (cne y c e)⟩
 ·obtain⟨e,n,ne,nf,d⟩:=I.pin p hp
  exact⟨(hs.2 p.1 ne).trans e,n,ne,nf,d⟩
 ·refine((I.hok b ob e).up KF).stay (fun c w' hc q=>(hs.2 c ?_).trans q) (fun _ q=>q) fun _ _ q=>q
  rintro rfl
  rcases hc with rfl|hc
  ·rw[I.free]at e;cases e
  ·rw[I.free]at hc;cases hc
theorem vh.lands{c:Str}{e:Value}{Q:Unit->Shared->Prop}{E:Value->Shared->Prop}{M:Model}(f:vh X ak σ c H e s)(oZ:X.stack=X.env::outer)(yu:X.env.frame=some X.env.locals)(hA:X.A.frames=some X.stack)
  (h:∀x C t B h',e=.ref x->X.mg c=some C->H x=none->Heap.FlyingW B X.stack x C (.ref t) h'->s.heap.UpToSlots h' ->
   (∀b o,s.heap.get? b=some o->(H b≠none\/((∃o0,X.s₀.heap.get? b=some o0)/\b∉X.fs/\b∉X.ex)\/((∃y,X.env.cells.lookup y=some b)/\b∉sN X.stack)\/∃p∈X.pn++ak,p.1=b)->B.get? b=some o)->Q () { s with heap:=h' }) :
  wpAny M X.A (noteFrame e X.env) (fun _ s₂=>wpAny M X.A (setFlight e none) Q E s₂) E s:=by
 obtain⟨x,C,t,B,rfl,hC,hx,st,nx,ff,tr,xS⟩:=f.ex
 rw[oZ]at ff hA
 rcases tr with tr|⟨oe,vs,he,rfl,_,hd,h1,h0⟩|⟨L,hL,tr⟩
 ·refine wpAny_looks_onW hA yu ⟨st,nx,ff,tr⟩ fun h1 hh u1=>uf hh fun h2 fl u2=>?_
  exact h x C t B h2 rfl hC hx (by rw[oZ];exact fl) (u1.trans u2) xS
 ·unfold noteFrame
  simp only[yu]
  refine af (de he hd h1 ?_)
  rw[aU #[3]]
  refine wpAny_newEntryW hA ff yu he st nx hd (Array.getElem?_eq_some_iff.mp h1).1 h0 fun h' hL=>?_
  obtain⟨k1,k2,k3,k4⟩:=hL
  exact h x _ t B h' rfl hC hx ⟨k1,nx,by rw[oZ];exact k2,k3⟩ k4 xS
 ·refine py hL tr (uf ⟨st,nx,ff,tr⟩ fun h' fl up=>?_)
  exact h x C t B h' rfl hC hx (by rw[oZ];exact fl) up xS
theorem bH.landed{B:Heap}{x:Addr}{C:Value}{t:Addr}(I:bH X ak σ H s)(fl:Heap.FlyingW B X.stack x C (.ref t) h')(up:s.heap.UpToSlots h')(oZ:X.stack=X.env::X.outer)
  (xS:∀b o,s.heap.get? b=some o->(H b≠none\/((∃o0,X.s₀.heap.get? b=some o0)/\b∉X.fs/\b∉X.ex)\/((∃y,X.env.cells.lookup y=some b)/\b∉sN X.stack)\/∃p∈X.pn++ak,p.1=b)->B.get? b=some o) :
  bH X ak σ H { s with heap:=h' }:=by
 obtain⟨f1,f2,f3,f4⟩:=fl
 obtain⟨m,hn,hl⟩:=id I.loc
 have cellK:∀y c,X.env.cells.lookup y=some c->∀v,s.heap.IsCell c v->h'.IsCell c v:=fun y c e v zq=>by
  obtain⟨o,ho,hd⟩:=zq
  by_cases hc:c∈sN X.stack
  ·obtain⟨sl,q⟩:=up c o ho fun vs z=>by rw[hd]at z;cases z
   exact⟨_,q,hd⟩
  ·exact⟨o,f1 c o (xS c o ho (.inr (.inr (.inl ⟨⟨y,e⟩,hc⟩)))),hd⟩
 have frames:∀b∈X.fs,∀o,s.heap.get? b=some o->∃sl,h'.get? b=some { o with slots:=sl }:=fun b hb o ho=>by
  obtain⟨_,o',ho',hd⟩:=I.funs.mem hb
  rw[ho]at ho';cases ho'
  exact up b o ho hd
 have kept:∀b o,s.heap.get? b=some o->(∃o0,X.s₀.heap.get? b=some o0)->b∉X.fs->b∉X.ex->h'.get? b=some o:=fun b o ho h0 hb hx=>f1 b o (xS b o ho (.inr (.inl ⟨h0,hb,hx⟩)))
 refine⟨I.ok,I.os,I.bare,⟨fun b o q n hb hx=>kept b o (I.base.keep b o q n hb hx) ⟨o,q⟩ hb hx,fun b o q n hb hx=>?_,I.base.free,fun b o q hx=>?_,I.base.tups,I.base.frzs,I.base.tbls⟩,⟨m,up.ns hn,fun i y v e1 e2 e3=>?_⟩,fun y c e=>?_,I.free,I.freeC,fun p hp=>?_,fun b u hb=>?_,I.len,I.pos,I.tk⟩
 ·obtain⟨sl,q1⟩:=I.base.slot b o q n hb hx
  obtain⟨sl2,q2⟩:=frames b hb _ q1
  exact⟨sl2,q2⟩
 ·obtain⟨o',q1⟩:=I.base.there b o q hx
  by_cases hb:b∈X.fs
  ·obtain⟨sl2,q2⟩:=frames b hb _ q1;exact⟨_,q2⟩
  ·exact⟨o',kept b o' q1 ⟨o,q⟩ hb hx⟩
 ·obtain⟨u,r,lk⟩:=hl i y v e1 e2 e3
  refine⟨u,r,?_⟩
  rcases lk with lk|⟨k,c,e,z⟩
  ·exact .inl lk
  ·exact .inr ⟨k,c,e,cellK y c e _ z⟩
 ·obtain⟨v,z⟩:=I.cell y c e
  exact⟨v,cellK y c e v z⟩
 ·obtain⟨e,n,ne,nf,d⟩:=I.pin p hp
  exact⟨f1 _ _ (xS _ _ e (.inr (.inr (.inr ⟨p,hp,rfl⟩)))),n,ne,nf,d⟩
 ·refine(I.hok b u hb).stay (fun c v hc q=>f1 c v (xS c v q (.inl ?_))) (fun _ q=>q) fun _ _ q=>q
  rcases hc with rfl|hc
  ·rw[hb];simp
  ·rw[hc];simp
abbrev Cx.trying(X:Cx)(pn:List (Addr×Obj))(E:Value->Shared->Prop):Cx:={ X with pn:=pn,xe:=E }
abbrev Cx.within(X:Cx)(v:Value):Cx:={ X with A:=X.A.mark (some v),calm:=false,xe:=fun _ _=>False }
theorem Cx.Ok.trying(k:X.Ok)(pn:List (Addr×Obj))(E:Value->Shared->Prop):(X.trying pn E).Ok:=⟨k.mod,k.kind,k.glob,k.blt,k.above,k.inj,k.has,k.cab,k.hd,k.frames,k.stk,k.exf,k.bs,k.bsz,k.noex,k.exfs,k.funs,k.frf⟩
theorem Cx.Ok.within(k:X.Ok)(v:Value):(X.within v).Ok:=⟨k.mod,k.kind,k.glob,k.blt,k.above,k.inj,k.has,k.cab,(fun z=>by cases z),k.frames,k.stk,k.exf,k.bs,k.bsz,k.noex,k.exfs,k.funs,k.frf⟩
section
theorem bH.trying(I:bH X ak σ H s)(E:Value->Shared->Prop):bH (X.trying (X.pn++ak) E) [] σ H s:=⟨I.ok.trying _ _,I.os,I.bare,I.base,I.loc,I.cell,I.free,I.freeC,fun p hp=>I.pin p (by simpa using hp),I.hok,I.len,I.pos,I.tk⟩
theorem bH.tried(ok:X.Ok)(I:bH (X.trying (X.pn++ak) E) pins' σ H s):bH X ak σ H s:=⟨ok,I.os,I.bare,I.base,I.loc,I.cell,I.free,I.freeC,fun p hp=>I.pin p (bA _ hp),I.hok,I.len,I.pos,I.tk⟩
theorem bH.within(I:bH X ak σ H s)(v:Value):bH (X.within v) ak σ H s:=⟨I.ok.within v,I.os,I.bare,I.base,I.loc,I.cell,I.free,I.freeC,I.pin,I.hok,I.len,I.pos,I.tk⟩
theorem bH.out(ok:X.Ok)(I:bH (X.within v) ak σ H s):bH X ak σ H s:=⟨ok,I.os,I.bare,I.base,I.loc,I.cell,I.free,I.freeC,I.pin,I.hok,I.len,I.pos,I.tk⟩
theorem bH.adopt{x:Addr}{ob:HO}(I:bH X ak σ H s)(hx:H x=none)(h0:X.s₀.heap.get? x=none)(hL:x≠X.env.locals)(hc:∀y c,X.env.cells.lookup y=some c->c≠x)(hp:∀p∈X.pn++ak,p.1≠x)(ok:gZ X.prog X.w s.toks (fU H x ob) s.heap x ob):bH X ak σ (fU H x ob) s:=by
 have hs:vA H (fU H x ob):=cS hx ob
 refine⟨I.ok,I.os,I.bare,⟨I.base.keep,I.base.slot,fun b o q n hb=>?_,I.base.there,fun b xs q=>hs _ _ (I.base.tups b xs q),fun b o u q=>hs _ _ (I.base.frzs b o u q),fun b ps q=>?_⟩,I.loc,I.cell,?_,fun y c e=>?_,fun p h=>?_,fun b u hb=>?_,I.len,I.pos,I.tk⟩
 ·rw[cX (fun z=>by rw[z,h0]at q;cases q)];exact I.base.free b o q n hb
 ·obtain⟨m,e⟩:=I.base.tbls b ps q;exact⟨m,hs _ _ e⟩
 ·rw[cX (Ne.symm hL)];exact I.free
 ·rw[cX (hc y c e)];exact I.freeC y c e
 ·obtain⟨a,b,c,d,e⟩:=I.pin p h;exact⟨a,by rw[cX (hp p h)];exact b,c,d,e⟩
 ·by_cases e:b=x
  ·subst e;rw[ia]at hb;cases hb;exact ok
  ·rw[cX e]at hb
   exact(I.hok b u hb).stay (fun _ _ _ q=>q) (fun c q=>hs _ _ q) fun c xs q=>hs _ _ q
end
theorem wR{g:Array GenState}{d:Drawn}{t:Nat}{os:OsState}{e:Addr}{oe:Obj}{Q:Bool->Shared->Prop}{nm qn nm' V7:Str}{N D N':Addr}{bs bm Wb UF:List Value}{hdct NM:Bool}{sn Wc:List Str}{sub Ua:List Value}{ab V9:Bool}{col T5:Option Bool}{dd VN:Option Addr}{k0 k1 k2 k3 k5 j0 j1 j2 j3 j5:Option Value}{qB QJ:String}
  (hC:h.get? C=some (excClassObj nm qn C N bs bm hdct sn sub ab col dd k0 k1 k2 k3 k5 qB)) (hD:h.get? D=some (excClassObj nm' V7 D N' Wb UF NM Wc Ua V9 T5 VN j0 j1 j2 j3 j5 QJ)) (he:h.get? e=some oe) (Kn:oe.cls=.ref C) (kg:UF.contains (.type "BaseException")=true)
  {b:Bool} (hb:(Value.ref C::bm).contains (.ref D)=b) (hq:Q b ⟨h,g,d,t,os⟩):wpAny M A (excMatches (.ref e) (.ref D)) Q E ⟨h,g,d,t,os⟩:=by
 have hcB:(Value.ref D::UF).contains (.type "BaseException")=true:=by rw[mM,kg,Bool.or_true]
 have f:=tc_notTuple
 unfold excMatches
 repeat(first|(with_reducible refine fm he ?_;rw[Kn])|with_reducible refine fm hD ?_|(with_reducible refine jk hD ?_;rw[hcB])|(with_reducible refine jk hC ?_;rw[hb])|wp_step)
 cases b<;>(wp_walk;exact hq)
open AutoSeq1 (wpAny_loadPart')
section
end
section
variable{a b:Expr}{fb:FE}{fs:FA}
end
def OZ(i:Nat):RS->RS
 |.nx ρ st=>.nx (ρ.set i none) st
 |.bk ρ st=>.bk (ρ.set i none) st
 |.ct ρ st=>.ct (ρ.set i none) st
 |.rt w st=>.rt w st
 |_=>.bad
def HP(g:FS)(cs:List Str)(i:Nat)(gh:FS):FS:=fun ρ st=>match g ρ st with
 |.ex c ρ' bg=>if c∈cs then OZ i (gh (ρ'.set i (some (.loc bg.length))) (bg++[.exc c]))else .bad
 |r=>r
structure HQ(K:Frag)(mg:Str->Option Value)(T:Str)(cs:List Str):Prop where
 h:∀c∈cs,∃C Ta,mg c=some (.ref C)/\mg T=some (.ref Ta)/\excIn K C q5 rD=true/\excIn K Ta q5 rD=true/\(BB K C).contains (.ref Ta)=true
theorem oF:∀{ρ:cV} {σ:St} (i:Nat),Paired (fun(o:Option W) (s:Option V)=>∀w,o=some w->∃v,s=some v/\bM K μ H w v) ρ σ ->
  Paired (fun(o:Option W) (s:Option V)=>∀w,o=some w->∃v,s=some v/\bM K μ H w v) (ρ.set i none) (σ.set i none)
 |_,_,_,.nil=>.nil
 |_,_,0,.cons a t=>.cons (fun w e=>by cases e) t
 |_,_,i+1,.cons a t=>.cons a (oF i t)
theorem jC.pushE(S:jC K mg μ st H){x:Addr}{c:Str}{C:Value}(hx:H x=none)(hc:mg c=some C):jC K mg (μ++[x]) (st++[.exc c]) (fU H x (wA x C)):=
 S.push (c:=.exc c) hx ⟨C,hc,ia⟩
theorem O0{NK:List Stmt}{b₀:Stmt}{T n:Str}{i:Nat}{g gh:FS}{cs:List Str}{pos yp np:Pos}(hC:HQ X.K X.mg T cs)(hN:X.N.Nodup)(hi:X.N[i]?=some n)(hx:Kw X.env.scope n)
  (hb:∀pn E,SB (X.trying pn E) body g) (hs:∀v,SB (X.within v) (b₀::NK) gh) (zn:X.ex=[]:=by rfl) (oZ:X.stack=X.env::X.outer:=by rfl) (yu:X.env.frame=some X.env.locals:=by rfl) (hk:X.env.kindOf n=some .local:=by rfl) (hg:Gl X T:=by rfl) (hd:(T==("__debug__":Str))=false:=by decide)
  (hf:X.fn n=true\/X.env.scope.names.lookup n=some .local:=by first|exact .inl rfl|exact .inr rfl) :
  SS X (.Try body [.ExceptHandler (some (.Name T np)) (some n) (b₀::NK) yp] [] [] pos) (HP g cs i gh):=⟨by
 intro ak s σ H D I h
 walk_at "2"
 refine wpAny_Try_except ?_
 refine jF ((hb (X.pn++ak) _).h [] s σ H D (I.trying _) ⟨μ,ρ,st,⟨l.env,l.sto⟩,?_⟩) (fun f s1 q=>?_) (fun _ _ q=>q)
 ·unfold HP at h
  cases e:g ρ st with
  |nx ρ' bg=>rw[e]at h;exact fun μ' σ' H' p x r=>h μ' σ' H' p x ⟨r.env,r.sto⟩
  |bk ρ' bg=>rw[e]at h;exact fun μ' σ' H' p x r=>h μ' σ' H' p x ⟨r.env,r.sto⟩
  |ct ρ' bg=>rw[e]at h;exact fun μ' σ' H' p x r=>h μ' σ' H' p x ⟨r.env,r.sto⟩
  |rt w bg=>rw[e]at h;exact h
  |bad=>rw[e]at h;exact h
  |ex c ρ' bg=>
   rw[e]at h
   intro pins' μ' σ' H' ev s' pp xx r f
   dsimp only at h
   split at h
   ·rename_i hc
    obtain⟨Ca,Ta,m1,m2,q1,q2,hsub⟩:=hC.h c hc
    have I0:=f.inv
    refine f.lands oZ yu I.ok.frames fun ex C t B h' he hCc hxn fl up xS=>?_
    subst he
    obtain rfl:C=.ref Ca:=by have:=hCc.symm.trans m1;exact bf this
    have I1:=I0.landed fl up oZ xS
    have I2:bH X ak σ' H' { s' with heap:=h' }:=bH.tried I.ok I1
    obtain⟨oe,vs,_,_,_,KH,⟨Kn,_⟩,hdat,_⟩:=fl.2.2.2
    have cov2:∀b o,h'.get? b=some o->(H' b≠none\/((∃o0,X.s₀.heap.get? b=some o0)/\b∉X.fs/\b∉X.ex)\/((∃y,X.env.cells.lookup y=some b)/\b∉sN X.stack)\/∃p∈X.pn++ak,p.1=b)->B.get? b=some o:=by
     intro b o hbo hr
     have kQ:∀o1,s'.heap.get? b=some o1->(H' b≠none\/((∃o0,X.s₀.heap.get? b=some o0)/\b∉X.fs/\b∉X.ex)\/((∃y,X.env.cells.lookup y=some b)/\b∉sN X.stack)\/∃p∈(X.pn++ak)++pins',p.1=b)->B.get? b=some o:=fun o1 h1 hr=>by
      have h2:=xS b o1 h1 hr
      have h3:=fl.1 b o1 h2
      rw[h3]at hbo;cases hbo;exact h2
     rcases hr with hr|⟨⟨o0,h0⟩,hbf,hbx⟩|⟨⟨y,hy⟩,hbf⟩|⟨p,hp,rfl⟩
     ·cases hu:H' b with
      |none=>exact absurd hu hr
      |some u=>obtain⟨ob,hob⟩:=(I0.hok b u hu).ex;exact kQ ob hob (.inl hr)
     ·obtain⟨o1,h1⟩:=I0.base.there b o0 h0 hbx
      exact kQ o1 h1 (.inr (.inl ⟨⟨o0,h0⟩,hbf,hbx⟩))
     ·obtain⟨v,ov,hov,_⟩:=I0.cell y b hy
      exact kQ ov hov (.inr (.inr (.inl ⟨⟨y,hy⟩,hbf⟩)))
     ·obtain⟨p1,_⟩:=I0.pin p (bA _ hp)
      exact kQ _ p1 (.inr (.inr (.inr ⟨p,bA _ hp,rfl⟩)))
    have noB:∀o,B.get? ex=some o->False:=fun o z=>by have:=fl.2.1;rw[z]at this;cases this
    obtain⟨bm,N,nm,qn,bs,hdct,sn,sub,ab,col,dd,k0,k1,k2,k3,k5,mN,g1,g2,g3,g4,g5⟩:=qR I2.kIn q1
    obtain⟨UF,N',nm',V7,Wb,NM,Wc,Ua,V9,T5,VN,j0,j1,j2,j3,j5,mN',g1',g2',g3',g4',g5'⟩:=qR I2.kIn q2
    refine wpAny_handleBy_cons (codeAny_handlers_test ?_) (by intro z;cases z)
    refine sO (X:=X.within (.ref ex)) (I2.within _) hg m2 ?_ hd
    refine wR g1 g1' KH Kn (g4'.hasType F.excBase_ValueError.hasBase) (b:=true) (by rw[<- g5];exact hsub) ?_
    refine codeAny_handlers_suite_as ?_
    refine lands_againW fl fun h2 fl2 up2=>?_
    have I3:bH X ak σ' H' { s' with heap:=h2 }:=I2.landed fl2 up2 oZ cov2
    obtain⟨oe2,vs2,_,_,_,heo2,⟨hcls2,_⟩,hdat2,_⟩:=fl2.2.2.2
    have I4:bH X ak σ' (fU H' ex (wA ex (.ref Ca))) { s' with heap:=h2 }:=by
     refine I3.adopt hxn ?_ ?_ ?_ ?_ ?_
     ·cases h0:X.s₀.heap.get? ex with
      |none=>rfl
      |some o0=>
       exfalso
       by_cases hfs:ex∈X.fs
       ·obtain⟨_,o',ho',hd'⟩:=I3.funs.mem hfs
        have ho':h2.get? ex=some o':=ho'
        rw[heo2]at ho';cases ho'
        exact hd' _ hdat2
       ·exact noB _ (cov2 ex oe KH (.inr (.inl ⟨⟨o0,h0⟩,hfs,by rw[zn];simp⟩)))
     ·rintro rfl
      obtain⟨m,⟨o,es,ep,a1,a2,_⟩,_⟩:=I3.loc
      have a1:h2.get? _=some o:=a1
      rw[heo2]at a1;cases a1
      rw[hdat2]at a2;cases a2
     ·rintro y c' hy rfl
      obtain⟨v,o,a1,a2⟩:=I3.cell y _ hy
      have a1:h2.get? _=some o:=a1
      rw[heo2]at a1;cases a1
      rw[hdat2]at a2;cases a2
     ·rintro p hp rfl
      exact noB _ (cov2 p.1 oe KH (.inr (.inr (.inr ⟨p,hp,rfl⟩))))
     ·refine⟨⟨oe2,vs2,heo2,hcls2,hdat2⟩,⟨oe2,heo2⟩,?_⟩
      rintro ha hb' ⟨o,vs,z1,z2,z3⟩ keep
      exact⟨o,vs,keep o z1,z2,z3⟩
    have hxt:fE X.K H' (fU H' ex (wA ex (.ref Ca))):=gy.same (cS hxn _)
    refine v_ (X:=X.within (.ref ex)) (I4.within _) hN hi hx (v:=.ref ex) rfl (fun s5 I5=>?_) hf
    have S4:jC X.K X.mg (μ'++[ex]) (bg++[.exc c]) (fU H' ex (wA ex (.ref Ca))):=jC.pushE r.sto hxn m1
    have L4:Rl (X.within (.ref ex)) (μ'++[ex]) (ρ'.set i (some (.loc bg.length))) (bg++[.exc c]) (σ'.set i (some (.ref ex))) (fU H' ex (wA ex (.ref Ca))):=
     ⟨sT (qb r.sto) i (uw (a_ _ _) hxt r.env),S4⟩
    have pm:μ <+: μ'++[ex]:=pp.trans (a_ _ _)
    have xm:fE X.K H (fU H' ex (wA ex (.ref Ca))):=xx.trans hxt
    have hp:(X.env.scope.kind==.class||(X.env.scope.kind==.module&&X.env.locals != X.env.globals))=false:=by rw[I.ok.kind];rfl
    refine jF ((hs (.ref ex)).h ak s5 _ _ { nx:=fun σ H=>D.nx (σ.set i none) H,rt:=D.rt,bk:=fun σ H=>D.bk (σ.set i none) H,ct:=fun σ H=>D.ct (σ.set i none) H } I5 ⟨μ'++[ex],_,_,L4,?_⟩) (fun f6 s6 q=>?_) (fun _ _ z=>z.elim)
    ·cases e2:gh (ρ'.set i (some (.loc bg.length))) (bg++[.exc c])with
     |nx ρ2 c_=>rw[e2]at h;exact fun μ3 σ3 H3 p3 x3 r3=>h μ3 (σ3.set i none) H3 (pm.trans p3) (xm.trans x3) ⟨oF i r3.env,r3.sto⟩
     |bk ρ2 c_=>rw[e2]at h;exact fun μ3 σ3 H3 p3 x3 r3=>h μ3 (σ3.set i none) H3 (pm.trans p3) (xm.trans x3) ⟨oF i r3.env,r3.sto⟩
     |ct ρ2 c_=>rw[e2]at h;exact fun μ3 σ3 H3 p3 x3 r3=>h μ3 (σ3.set i none) H3 (pm.trans p3) (xm.trans x3) ⟨oF i r3.env,r3.sto⟩
     |rt w c_=>rw[e2]at h;exact fun μ3 v H3 p3 x3 S3 r3=>h μ3 v H3 (pm.trans p3) (xm.trans x3) S3 r3
     |ex c2 ρ2 c_=>rw[e2]at h;exact h.elim
     |bad=>rw[e2]at h;exact h.elim
    ·cases f6 with
     |next=>
      obtain⟨σ6,H6,I6,q⟩:=q
      have I6':bH X ak σ6 H6 s6:=bH.out I.ok I6
      obtain⟨m,hn,hl⟩:=id I6'.loc
      exact iT hk hn hp fun h7 v hn7 hs7=>⟨_,H6,I6'.unbound hN hi hn hn7 hs7,q⟩
     |brk=>
      obtain⟨σ6,H6,I6,q⟩:=q
      have I6':bH X ak σ6 H6 s6:=bH.out I.ok I6
      obtain⟨m,hn,hl⟩:=id I6'.loc
      exact iT hk hn hp fun h7 v hn7 hs7=>⟨_,H6,I6'.unbound hN hi hn hn7 hs7,q⟩
     |cont=>
      obtain⟨σ6,H6,I6,q⟩:=q
      have I6':bH X ak σ6 H6 s6:=bH.out I.ok I6
      obtain⟨m,hn,hl⟩:=id I6'.loc
      exact iT hk hn hp fun h7 v hn7 hs7=>⟨_,H6,I6'.unbound hN hi hn hn7 hs7,q⟩
     |ret u=>
      obtain⟨v6,σ6,H6,I6,rr,q⟩:=q
      have I6':bH X ak σ6 H6 s6:=bH.out I.ok I6
      obtain⟨m,hn,hl⟩:=id I6'.loc
      exact iT hk hn hp fun h7 v hn7 hs7=>⟨v6,_,H6,I6'.unbound hN hi hn hn7 hs7,rr.up (bn _),q⟩
   ·exact h.elim
 ·cases f with
  |next=>
   obtain⟨σ',H',I',q⟩:=q
   exact jw ⟨σ',H',bH.tried I.ok I',q⟩
  |brk=>obtain⟨σ',H',I',q⟩:=q;exact⟨σ',H',bH.tried I.ok I',q⟩
  |cont=>obtain⟨σ',H',I',q⟩:=q;exact⟨σ',H',bH.tried I.ok I',q⟩
  |ret u=>obtain⟨v,σ',H',I',rr,q⟩:=q;exact⟨v,σ',H',bH.tried I.ok I',rr,q⟩⟩
section
variable{w:World}{g:Array GenState}{d:Drawn}{t:Nat}{os:OsState}{a:Addr}{o:Obj}
 {nm q:Str} {C N:Addr} {bs bm:List Value} {hdct:Bool} {sn:List Str} {sub:List Value} {ab:Bool} {col:Option Bool} {dd:Option Addr} {k0 k1 k2 k3 k5:Option Value} {qB:String} {K:Frag}
theorem O1{R:Result->Shared->Prop}(hC:h.get? C=some #[20])(T:OwnTail h q5 bm)(hx:h.get? a=some o)(hc:o.cls=.ref C)(hq:R (.ok (.ret (.ref C))) ⟨h,g,d,t,os⟩) :
  codeAny #[6] A (.call (.builtin "getset_descriptor.__get__") ⟨[.builtin "object.__class__",.ref a,.ref C],[]⟩) R ⟨h,g,d,t,os⟩:=by
 have hT5:(⟨h,g,d,t,os⟩:Shared).TypeIs (.builtin "object.__class__") "getset_descriptor":=kC
 have hcB:(Value.ref C::bm).contains (.type (".".intercalate ("object.__class__".cutAt '.').dropLast))=true:=by
  rw[F.owner_object_class,mM,T.hasType (X:="object") (b:=true) #[3]]
  rfl
 refine lv F.slot_gs_get.plain F.entry_gs_get (F.slot_gs_get.check _ _ _ _ _ _ _ _ hT5 (F.args_gs_get _ _ _) ?_)
 repeat(any_goals (first|assumption|(with_reducible refine fm hx ?_;rw[hc])|(with_reducible refine jk hC ?_;rw[hcB])|wp_step))
 refine⟨Code.quiet_builtin _ (by decide +kernel),dy F.entry_object_class ?_⟩
 repeat(any_goals (first|assumption|(with_reducible refine fm hx ?_;rw[hc])|wp_step))
theorem zQ{Q:Option Value->Shared->Prop}{r:Option Value}(X:K.In h)(f:findIn K (.ref C) x=some r)(hq:Q r ⟨h,g,d,t,os⟩):wpAny #[6] A (typeLookup (.ref C) x) Q E ⟨h,g,d,t,os⟩:=
 PySem.W.looks_findIn X f A Q E _ (fun _ _ z=>z) hq
theorem HR{tk:Tok}{Q:Fin->Shared->Prop}(X:K.In h)(f2:findIn K (.ref C) "__class__"=some (some (.builtin "object.__class__")))(hC:h.get? C=some #[20])(T:OwnTail h q5 bm)(hx:h.get? a=some o)(hc:o.cls=.ref C)
  (hq:Q (.done (.ret (.ref C))) ⟨h,g,d,t,os⟩):wpAny #[6] A (Builtin.«object.__getattribute__» ⟨[.ref a,.str "__class__" tk],[]⟩) Q E ⟨h,g,d,t,os⟩:=by
 have hT5:(⟨h,g,d,t,os⟩:Shared).TypeIs (.builtin "object.__class__") "getset_descriptor":=kC
 have f5:=kC
 have f6:=F.slot_gs_get.lookup
 have f7:=F.slot_gs_set.lookup
 repeat(any_goals (first|assumption|(with_reducible refine fm hx ?_;rw[hc])|with_reducible refine zQ X f2 ?_|wp_step))
 refine O1 hC T hx hc ?_
 repeat(any_goals (first|assumption|wp_step))
theorem HS{Q:Unit->Shared->Prop}(hC:h.get? C=some #[20])(T:OwnTail h q5 bm)(hx:h.get? a=some o)(hc:o.cls=.ref C)(hq:Q () ⟨h,g,d,t,os⟩) :
  wpAny M A (checkBuiltinCall "BaseException.__getattribute__" ⟨[.ref a,v],[]⟩) Q E ⟨h,g,d,t,os⟩:=by
 have hcB:(Value.ref C::bm).contains (.type "BaseException")=true:=by
  rw[mM,T.hasType (X:="BaseException") (b:=true) #[3]]
  rfl
 have ha:=F.args_bexc_ga (.ref a) v
 have kd:builtinKind "BaseException.__getattribute__"=some .slot:=by decide +kernel
 have sp:splitId "BaseException.__getattribute__"=some ("BaseException","__getattribute__"):=by decide +kernel
 simp only[checkBuiltinCall,kd,sp]
 refine af ?_
 unfold isInstance
 repeat(first|(with_reducible refine fm hx ?_;rw[hc])|(with_reducible refine jk hC ?_;rw[hcB])|wp_step)
 exact hq
theorem LB{tk:Tok}{R:Result->Shared->Prop}(X:K.In h)(f2:findIn K (.ref C) "__class__"=some (some (.builtin "object.__class__")))(hC:h.get? C=some #[20])(T:OwnTail h q5 bm)(hx:h.get? a=some o)(hc:o.cls=.ref C)
  (hq:R (.ok (.ret (.ref C))) ⟨h,g,d,t,os⟩):codeAny #[6] A (.call (.builtin "BaseException.__getattribute__") ⟨[.ref a,.str "__class__" tk],[]⟩) R ⟨h,g,d,t,os⟩:=
 lv F.attrBase_ValueError.ga.plain F.entry_bexc_ga (HS hC T hx hc (HR X f2 hC T hx hc hq))
theorem Sn{tk:Tok}(X:K.In h)(f1:findIn K (.ref C) "__getattribute__"=some (some (.builtin "BaseException.__getattribute__")))(f3:findIn K (.ref C) "__getattr__"=some none)(f2:findIn K (.ref C) "__class__"=some (some (.builtin "object.__class__")))
  (hC:h.get? C=some #[20]) (T:OwnTail h q5 bm) (hx:h.get? a=some o) (hc:o.cls=.ref C) (hq:Q (.ref C) ⟨h,g,d,t,os⟩) :
  wpAny #[6] A (getAttrBy (.ref a) (.str "__class__" tk) false) Q E ⟨h,g,d,t,os⟩:=by
 have f4:=F.attrBase_ValueError.ga.bind (.ref a)
 have hx2:(Value.builtin "BaseException.__getattribute__" == Value.builtin "object.__getattribute__")=false:=by decide +kernel
 have hx1:(onTheHeap (Value.ref C)&&Value.builtin "BaseException.__getattribute__" == Value.builtin "object.__getattribute__")=false:=by rw[hx2];rfl
 repeat(any_goals (first|assumption|(with_reducible refine fm hx ?_;rw[hc])|with_reducible refine zQ X f1 ?_|with_reducible refine zQ X f3 ?_|wp_step))
 refine LB X f2 hC T hx hc ?_
 repeat(any_goals (first|assumption|wp_step))
theorem LC{Q:Option Value->Shared->Prop}(X:K.In h)(f1:findIn K (.ref C) "__getattribute__"=some (some (.builtin "BaseException.__getattribute__")))(f3:findIn K (.ref C) "__getattr__"=some none)(f2:findIn K (.ref C) "__class__"=some (some (.builtin "object.__class__")))
  (hC:h.get? C=some #[20]) (T:OwnTail h q5 bm) (hx:h.get? a=some o) (hc:o.cls=.ref C) (hq:Q (some (.ref C)) ⟨h,g,d,t+1,os⟩) :
  wpAny #[6] A (getAttr? (.ref a) "__class__") Q E ⟨h,g,d,t,os⟩:=by
 unfold getAttr? getAttrBy?
 repeat(any_goals (first|assumption|with_reducible apply Sn X f1 f3 f2 hC T hx hc|wp_step))
end
end L2
namespace L2
open PySem PySem.Spec PyProof.Rows
structure HU(K:Frag)(C:Addr):Prop where
 ga:findIn K (.ref C) "__getattribute__"=some (some (.builtin "BaseException.__getattribute__"))
 gt:findIn K (.ref C) "__getattr__"=some none
 cl:findIn K (.ref C) "__class__"=some (some (.builtin "object.__class__"))
theorem BC{x:Addr}(q:excIn K C q5 rD=true)(n:HU K C):PySem.W.KitX K (.ref x) (.ref C) (fun h=>∃o,h.get? x=some o/\o.cls=.ref C) where
 ty:=fun M h X zq A Q E s k z=>by
  obtain⟨o,h1,h2⟩:=zq
  unfold typeOf
  refine af (qF (k _ _ h1) ?_)
  rw[h2]
  exact ay z
 it:=fun M h X _ A Q E s k z=>by
  obtain⟨bm,N,nm,qn,bs,hdct,sn,sub,ab,col,dd,k0,k1,k2,k3,k5,mN,g1,_⟩:=qR X q
  unfold isType loadHead
  exact af (qF (k _ _ g1) (ay z))
 ne:=fun h tp dd bN m sl X htp=>by
  obtain⟨bm,N,nm,qn,bs,hdct,sn,sub,ab,col,VN,k0,k1,k2,k3,k5,mN,g1,_⟩:=qR X q
  refine Bool.eq_false_iff.mpr fun z=>?_
  have e:C=tp:=Value.ref.inj (du.mp z)
  subst e
  rw[g1]at htp
  have z2:(Value.type "type")=.type "tuple":=ik Obj.cls (bf htp)
  exact absurd z2 #[3]
 ca:=fun{prog w A E Q s} X p z=>by
  obtain⟨o,h1,h2⟩:=p
  obtain⟨bm,N,nm,qn,bs,hdct,sn,sub,ab,col,dd,k0,k1,k2,k3,k5,mN,g1,g2,g3,g4,g5⟩:=qR X q
  obtain⟨h,g,d,t,os⟩:=s
  exact LC X n.ga n.gt n.cl g1 g4 h1 h2 z
structure DJ(K:Frag)(mg:Str->Option Value)(T:Value)(f:Str->Option Bool):Prop where
 h:∀c b,f c=some b->∃C,mg c=some (.ref C)/\excIn K C q5 rD=true/\HU K C/\kitOne K (.ref C) T=some b
theorem yV{T:V}{Tv:Value}(hT:∀(nk:Nat) (u:Value),dz nk T u->u=Tv){f:Str->Option Bool}(hI:DJ X.K X.mg Tv f) :
  jb X (.builtin "isinstance") (fun xs H Q=>∃x μ st n c b,xs=[x,T]/\jC X.K X.mg μ st H/\bM X.K μ H (.loc n) x/\st[n]?=some (.exc c)/\f c=some b/\Q (.bl b) H):=by
 intro ak s σ H xs us Q I r h
 obtain⟨x,μ,st,n,c,b,rfl,S,rx,hn,hf,q⟩:=h
 obtain⟨u,u2,rfl,r1,r2⟩:=cK.two r
 obtain rfl:=hT _ u2 r2
 obtain⟨C,hm,hq,T_,hk⟩:=hI.h c b hf
 obtain⟨a,ha,C',hm',hH⟩:=S.get hn
 obtain⟨a',ha',rfl⟩:=rx.locE
 rw[ha]at ha';cases ha'
 rw[hm]at hm';cases hm'
 cases(show u=Value.ref a from r1)
 obtain⟨⟨o,vs,h1,h2,h3⟩,_⟩:=I.hok a _ hH
 exact up (kia_one (BC hq T_) I.kIn ⟨o,h1,h2⟩ hk (fun z=>nomatch z) fun tk hk=>⟨.bl _,H,I.tok tk,rfl,q⟩)
def wS(f:Str->Option Bool)(fa:FE):FE:=fun ρ st=>(fa ρ st).bind fun x st=>match x with
 |.loc n=>(match st[n]? with
  |some (.exc c)=>(match f c with
   |some b=>.ok (.bl b) st
   |none=>.bad)
  |_=>.bad)
 |_=>.bad
section
variable{a:Expr}
theorem HV{T:V}{f:Str->Option Bool}{t:TE}(h:PE X e t)(hi:∀σ H Q,(tE X fa) σ H (fun x H1=>∃x' μ st n c b,([x,T]:List V)=[x',T]/\jC X.K X.mg μ st H1/\bM X.K μ H1 (.loc n) x'/\st[n]?=some (.exc c)/\f c=some b/\Q (.bl b) H1)->t σ H Q):SE X e (wS f fa):=⟨h.imp fun σ H Q z=>by
 refine hi σ H Q ?_
 obtain⟨μ,ρ,st,l,z⟩:=z
 refine⟨μ,ρ,st,l,RK.bind z l fun μ1 st1 x v H1 p1 x1 l1 q1 h1=>?_⟩
 split at h1
 ·rename_i n
  split at h1
  ·rename_i c e1
   split at h1
   ·rename_i b e2
    exact⟨v,μ1,st1,n,c,b,rfl,l1.sto,q1,e1,e2,h1 μ1 _ H1 (aq _) fE.refl l1.sto .bl⟩
   ·exact h1.elim
  ·exact h1.elim
 ·exact h1.elim⟩
theorem HW{xT:Str}{Ta:Addr}{f:Str->Option Bool}(hm:X.mg "isinstance"=none)(hT:X.mg xT=some (.ref Ta))(hI:DJ X.K X.mg (.ref Ta) f)(ha:SE X a fa)(hg:Gl X "isinstance":=by rfl)(Ue:Gl X xT:=by rfl)(hd:(xT==("__debug__":Str))=false:=by decide)
  (he:starEach [a,.Name xT p2] X.env=(false,eval a X.env)::starEach [.Name xT p2] X.env:=by rfl) (Me:starEach [.Name xT p2] X.env=(false,eval (.Name xT p2) X.env)::starEach [] X.env:=by rfl) (on:(backTo pos (starEach [.Name xT p2] X.env)).any (·.1)=false:=by rfl) :
  SE X (.Call (.Name "isinstance" p) [a,.Name xT p2] [] pos) (wS f fa):=
 HV (T:=.ref Ta) (p7 (yV (T:=.ref Ta) (Tv:=.ref Ta) (fun _ _ r=>r) hI) hg hm jy (kW ha.h (kW (zw Ue hT (v:=.ref Ta) rfl hd) ut Me) he) #[3] #[3] he on) fun _ _ _ z=>z
theorem So{xT:Str}{f:Str->Option Bool}(hm:X.mg "isinstance"=none)(hT:X.mg xT=none)(hv:bootBuiltins xT=some (.type T))(hI:DJ X.K X.mg (.type T) f)(ha:SE X a fa)(hg:Gl X "isinstance":=by rfl)(Ue:Gl X xT:=by rfl)(hn:xT ≠ "__name__":=by decide)(hd:(xT==("__debug__":Str))=false:=by decide)
  (he:starEach [a,.Name xT p2] X.env=(false,eval a X.env)::starEach [.Name xT p2] X.env:=by rfl) (Me:starEach [.Name xT p2] X.env=(false,eval (.Name xT p2) X.env)::starEach [] X.env:=by rfl) (on:(backTo pos (starEach [.Name xT p2] X.env)).any (·.1)=false:=by rfl) :
  SE X (.Call (.Name "isinstance" p) [a,.Name xT p2] [] pos) (wS f fa):=
 HV (T:=.ty T) (p7 (yV (T:=.ty T) (Tv:=.type T) (fun _ _ r=>r) hI) hg hm jy (kW ha.h (kW (EF Ue hT hv (v:=.ty T) rfl hn hd) ut Me) he) #[3] #[3] he on) fun _ _ _ z=>z
end
end L2
namespace L2
open PySem PySem.Spec PyProof.Rows
inductive Sq(X:Cx):List Expr->List Addr->Prop
 |nil:Sq X [] []
 |cons {x:Str} {p:Pos} {C:Addr} {es:List Expr} {cs:List Addr}:X.mg x=some (.ref C)->Gl X x->(x==("__debug__":Str))=false->Sq X es cs->Sq X (.Name x p::es) (C::cs)
def Wo(vs:List V):TA:=fun _ H Q=>Q vs H
theorem O6{cs:List Addr}(h:Sq X es cs):PA X es (Wo (cs.map V.ref)):=by
 induction h with
 |nil=>exact ut
 |cons hm hg hd _ ih=>exact(kW (zw hg hm (v:=.ref _) rfl hd) ih rfl).imp fun _ _ _ z=>z
structure HX(K:Frag)(mg:Str->Option Value)(Cs:List Addr)(f:Str->Option Bool):Prop where
 h:∀c b,f c=some b->∃C,mg c=some (.ref C)/\excIn K C q5 rD=true/\HU K C/\kitAny K (.ref C) (Cs.map Value.ref)=some b
theorem yW:∀{Cs:List Addr} {us:List Value},cK nk (Cs.map V.ref) us->us=Cs.map Value.ref
 |[],us,r=>by cases r;rfl
 |C::Cs,us,r=>by
  cases r with
  |cons a t=>rw[yW t,show _=Value.ref C from a];rfl
theorem Gi{Cs:List Addr}{f:Str->Option Bool}(hI:HX X.K X.mg Cs f) :
  jb X (.builtin "isinstance") (fun xs H Q=>∃x tp μ st n c b,xs=[x,.ref tp]/\jC X.K X.mg μ st H/\bM X.K μ H (.loc n) x/\st[n]?=some (.exc c)/\f c=some b/\gy X.K H tp (Cs.map V.ref)/\Q (.bl b) H):=by
 intro ak s σ H xs us Q I r h
 obtain⟨x,tp,μ,st,n,c,b,rfl,S,rx,hn,hf,hS,q⟩:=h
 obtain⟨u,u2,rfl,r1,r2⟩:=cK.two r
 cases(show u2=Value.ref tp from r2)
 obtain⟨C,hm,hq,T_,hk⟩:=hI.h c b hf
 obtain⟨a,ha,C',hm',hH⟩:=S.get hn
 obtain⟨a',ha',rfl⟩:=rx.locE
 rw[ha]at ha';cases ha'
 rw[hm]at hm';cases hm'
 cases(show u=Value.ref a from r1)
 obtain⟨⟨o,vs,h1,h2,h3⟩,_⟩:=I.hok a _ hH
 obtain⟨bN,rt,⟨ot,e2,hc,n2,hd⟩,z2⟩:=I.tuple hS
 have hits:=yW rt
 subst hits
 obtain⟨cls,dd,data,sl⟩:=ot
 dsimp only at hc hd
 subst hc hd
 exact up (PySem.W.kia_tup (BC hq T_) I.kIn ⟨o,h1,h2⟩ e2 hk (fun z=>nomatch z) fun tk KF=>⟨.bl _,H,I.tok tk,rfl,q⟩)
section
variable{a:Expr}
theorem O7{Cs:List Addr}{f:Str->Option Bool}(hm:X.mg "isinstance"=none)(hT:Sq X es Cs)(hI:HX X.K X.mg Cs f)(hz:Cs.length<=sizeLine)(ha:SE X a fa)(hg:Gl X "isinstance":=by rfl)
  (he:starEach [a,.Tuple es k p2] X.env=(false,eval a X.env)::starEach [.Tuple es k p2] X.env:=by rfl) (Me:starEach [.Tuple es k p2] X.env=(false,eval (.Tuple es k p2) X.env)::starEach [] X.env:=by rfl) (on:(backTo pos (starEach [.Tuple es k p2] X.env)).any (·.1)=false:=by rfl) :
  SE X (.Call (.Name "isinstance" p) [a,.Tuple es k p2] [] pos) (wS f fa):=⟨(p7 (Gi hI) hg hm jy (kW ha.h (kW (ER (O6 hT)) ut Me) he) #[3] #[3] he on).imp fun σ H Q h=>by
 walk_at "2"
 walk_at "1"
 split at h1
 ·rename_i n
  split at h1
  ·rename_i c e1
   split at h1
   ·rename_i b e2
    refine⟨by rw[aE];exact hz,fun tp H2 hp e=>?_⟩
    subst e
    have xx:fE X.K H1 (fU H1 tp (.tup (Cs.map V.ref))):=gy.same (cS hp _)
    exact⟨v,tp,μ1,st1,n,c,b,rfl,l1.sto.same (cS hp _),q1.mono (aq _) xx,e1,e2,gy.new,h1 μ1 _ _ (aq _) xx (l1.sto.same (cS hp _)) .bl⟩
   ·exact h1.elim
  ·exact h1.elim
 ·exact h1.elim⟩
end
end L2
namespace L2
open PySem PySem.Spec PyProof.Rows
section
end
section
theorem wT(l:List α):∀(k:Nat) (ju:List α),List.foldl (fun x1 x2=>x1++x2) ju.toArray (List.replicate k l.toArray)=(ju++(List.replicate k l).flatten).toArray
 |0,ju=>by simp
 |k+1,ju=>by
  have e:ju.toArray++l.toArray=(ju++l).toArray:=by simp
  rw[List.replicate_succ,List.foldl_cons,e,wT l k (ju++l),List.replicate_succ,nj,al]
theorem O8(l:List Nat)(n:Int):Txt.mul (tx l) n=tx (List.replicate n.toNat l).flatten:=by
 unfold Txt.mul
 by_cases h:n<1
 ·rw[aK h,show n.toNat=0 by omega];rfl
 ·rw[aU h]
  split
  ·rename_i hc
   rw[Bool.or_eq_true,du,du,jB]at hc
   rcases hc with rfl|hc
   ·simp
   ·have:l=[]:=List.length_eq_zero_iff.mp hc
    subst this
    simp
  ·have:=wT l n.toNat []
   rw[eJ]at this
   show Str.mk _=Str.mk _
   congr 1
theorem LD:pR X (binaryOp .Mult) (fun x y H Q=>∃(l:List Nat) (k:Int),x=.str (tx l)/\y=.int k/\-(2^62)<=k/\k<2^62/\l.length*k.toNat<=1000000/\l.length*k.toNat≠1/\Q (.str (tx (List.replicate k.toNat l).flatten)) H):=by
 intro ak s σ H x y v u Q I rx ry h
 obtain⟨l,k,rfl,rfl,h1,h2,h3,h31,q⟩:=h
 obtain⟨t,rfl⟩:=rx
 obtain⟨t',rfl⟩:=ry
 refine up (SB.mul ⟨?_,?_,?_⟩ fun t2 tk hk=>⟨.str _,H,I.tok _,⟨⟨t2,fun e=>absurd e ?_⟩,?_⟩,q⟩)
 ·simp;omega
 ·intro hk hx
  rw[jB]
  intro hg
  have hk1:1<=k:=by omega
  have:k*((2^63-1)/k)<=2^63-1:=Int.mul_ediv_self_le #[0]
  have h4:(2^63-1)<k*(l.length:Int):=by
   have:=Int.lt_mul_of_ediv_lt (a:=2^63-1) (b:=(l.length:Int)) (c:=k) #[0] hg
   rw[pz];exact this
  have h5:k*(l.length:Int)=((l.length*k.toNat:Nat):Int):=by
   rw[jz,Int.toNat_of_nonneg #[0],pz]
  rw[h5]at h4
  omega
 ·intro hk hx
  rw[jB]
  unfold Builtin.Str.tooLong
  rw[a7]
  have:(1000000:Nat)<=sizeLine:=by decide
  omega
 ·rw[jB];simpa[Nat.mul_comm]using h31
 ·rw[O8]
def jc:W->W->List au->R W
 |.int i,.int j,st=>if OQ i j then .ok (.int (i*j)) st else .bad
 |.str l,.int k,st=>if -(2^62)<=k/\k<2^62/\l.length*k.toNat<=nO/\l.length*k.toNat≠1 then .ok (.str (List.replicate k.toNat l).flatten) st else .bad
 |_,_,_=>.bad
theorem j7:xR X (binaryOp .Mult) jc:=⟨fun ak s σ H x y v u Q I rv ru zq=>by
 obtain⟨μ,st,wx,wy,S,rx,ry,q⟩:=zq
 cases wx with
 |int i=>
  cases wy with
  |int j=>
   have q':GL X μ H Q (R7 (.int i) (.int j) st):=q
   exact R9.h ak s σ H x y v u Q I rv ru ⟨μ,st,.int i,.int j,S,rx,ry,q'⟩
  |_=>exact q.elim
 |str l=>
  cases wy with
  |int k=>
   simp only[jc]at q
   split at q
   ·rename_i cc
    exact LD ak s σ H x y v u Q I rv ru ⟨l,k,rx.strE,ry.intE,cc.1,cc.2.1,cc.2.2.1,cc.2.2.2,sY S q⟩
   ·exact q.elim
  |_=>exact q.elim
 |_=>cases wy<;>exact q.elim,fun x y st=>by
 unfold jc
 repeat' split
 all_goals trivial⟩
end
section
variable{fs:FA}
end
section
variable{w:World}
theorem wU:∀(l:List Nat) (vs:List Value),vs.length=l.length->(∀(j:Nat) (v:Value),vs[j]?=some v->∃c u,l[j]?=some c/\v=.str (tx [c]) u)->StrsAre vs (l.map fun c=>tx [c])
 |[],[],_,_=>.nil
 |c::l,v::vs,hl,h=>by
  obtain⟨d,u,e,rfl⟩:=h 0 v rfl
  cases e
  exact .cons _ _ (wU l vs (Nat.succ.inj hl) fun j v hj=>h (j+1) v hj)
 |[],_::_,hl,_=>nomatch hl
 |_::_,[],hl,_=>nomatch hl
abbrev O9(ju:Array Value)(c:Nat):Obj:={ cls:=.type "list",data:=.seq ju c }
theorem HY{R:Result->Shared->Prop}{I:Addr}{wr:List Addr}{n0:Nat}{P:Nat->Value->Prop}{St:Nat->Heap->Prop}(W:Walks prog w A.in1 I fp wr n P St)(NN:n<=sizeLine)(D:Addr)(hD:D∉fp)(res:Value)
  (CZ:∀i (s:Shared) (Q:Option Value->Shared->Prop) (E:Value->Shared->Prop),n0<=s.toks->i<n->St i s.heap ->
   (∀v h' tk,s.toks<=tk->jl tk [v]->P i v->St (i+1) h'->(∀b o,b∉wr->s.heap.get? b=some o->h'.get? b=some o)->Q (some v) { s with heap:=h',toks:=tk })->wpAny #[6] A.in1 (pyNext (.ref I)) Q E s) :
  ∀(m i:Nat) (z:Shared) (Fv:Array Value) (c:Nat),i+m=n->n0<=z.toks->St i z.heap->z.heap.get? D=some (O9 Fv c)->ItemsOf P Fv i->jl z.toks Fv.toList ->
   (∀g tk got' c',z.toks<=tk->(∀b o,b≠D->b∉wr->z.heap.get? b=some o->g.get? b=some o)->g.get? D=some (O9 got' c')->ItemsOf P got' n->jl tk got'.toList->R (.ok (.ret res)) { z with heap:=g,toks:=tk }) ->
   codeAny #[6] A (.builtin "list.extend.loop" ⟨[.ref D,.ref I,res],[]⟩) R z:=by
 have nw:D∉wr:=fun h=>hD (W.sub _ h)
 intro m
 induction m with
 |zero=>
  intro i z Fv c e hn0 st hd ac ta q
  obtain rfl:i=n:=e
  refine dy PySem.F.entry_extend_loop ?_
  rw[c5 PySem.F.plain_extend_loop _]
  show wpAny _ A.in1 (pyNext (.ref I) >>= _) _ _ z
  exact af (up (W.done z _ _ st fun g tk kp ml=>ay (q g tk Fv c ml (fun b o _ hb h=>kp b o hb h) (kp D _ nw hd) ac (ta.up ml))))
 |succ m ih=>
  intro i z Fv c e hn0 st hd ac ta q
  refine dy PySem.F.entry_extend_loop ?_
  rw[c5 PySem.F.plain_extend_loop _]
  show wpAny _ A.in1 (pyNext (.ref I) >>= _) _ _ z
  refine af (CZ i z _ _ hn0 #[0] st fun v g tk ml tv hP bg kp=>?_)
  have hd':=kp D _ nw hd
  show wpAny _ A.in1 (updateSeq D (·.push v) >>= _) _ _ _
  refine af (pP hd' rfl (ay ⟨fG PySem.F.plain_extend_loop _,ih (i+1) _ (Fv.push v) _ #[0] (aN hn0 ml) (W.frame _ _ _ bg fun b hb o h=>?_) (dH _ hd' rfl) (ac.push hP) (fun x t hx=>?_) fun g2 tk2 got2 c2 hle2 kp2 hd2 ac2 ta2=>?_⟩)
   (by rw[ac.1];omega) (by show(Fv.push v).size<=sizeLine+1;rw[Array.size_push,ac.1];omega))
  ·exact(cM _ _ (fun h:D=b=>hD (by rw[h];exact hb))).trans h
  ·rw[nh,aV]at hx
   rcases hx with hx|hx
   ·exact ta.up ml x t hx
   ·exact tv x t hx
  ·exact q g2 tk2 got2 c2 (aN ml hle2) (fun b o hb hw h=>kp2 b o hb hw ((cM _ _ (Ne.symm hb)).trans (kp b o hw h))) hd2 ac2 ta2
theorem zR{t:Tok}{Q:List Value->Shared->Prop}(yp:0<s.toks)(hh:A.handled=none)(NN:l.length<=sizeLine)
  (q:∀g tk (Fv:Array Value),s.toks<=tk->(∀b o,s.heap.get? b=some o->g.get? b=some o)->ItemsOf (SignAt (tx l)) Fv (tx l).cps.size->jl tk Fv.toList->Q Fv.toList { s with heap:=g,toks:=tk }):wpAny #[6] A (collect (.str (tx l) t)) Q E s:=by
 have hn:(tx l).cps.size=l.length:=by simp[tx]
 unfold collect
 refine af (qI (dy entry_proto_collect' ?_))
 rw[c5 PySem.F.plain_proto_collect _]
 show wpAny _ A.in1 (newList [] >>= fun d=>again (.builtin "list.__iadd__" ⟨[d,.str (tx l) t],[]⟩)) _ _ s
 refine af (cC (ay ⟨fG PySem.F.plain_list_iadd _,dy entry_list_iadd' ?_⟩))
 rw[c5 PySem.F.plain_list_iadd _]
 show wpAny _ A.in1 (Builtin.List.listExtendWith (.ref s.heap.objs.size) (.str (tx l) t) (.ref s.heap.objs.size)) _ _ _
 unfold Builtin.List.listExtendWith
 refine af (i' (T:="str") (v:=.str (tx l) t) rfl ?_)
 have e1:Builtin.List.listSameRef (.ref s.heap.objs.size) (.str (tx l) t)=false:=rfl
 have e2:(Value.type "str" == Value.type "list")=false:=by decide
 have e3:(Value.type "str" == Value.type "tuple")=false:=by decide
 simp only[e1,e2,e3,nG,fP,gW]
 generalize hL:s.heap.objs.size=L
 have gL:(s.heap.push { cls:=.type "list",data:=.seq ([]:List Value).toArray }).get? L=some (O9 #[] 0):=by rw[<- hL];exact aC _ rfl
 have z1:(s.heap.push { cls:=.type "list",data:=.seq ([]:List Value).toArray }).objs.size=L+1:=by rw[bw,hL]
 have kp1:∀b o,s.heap.get? b=some o->(s.heap.push { cls:=.type "list",data:=.seq ([]:List Value).toArray }).get? b=some o:=fun b o e=>aw _ e
 generalize s.heap.push { cls:=.type "list",data:=.seq ([]:List Value).toArray }=g1 at gL z1 kp1 ⊢
 have kQ:∀(ob:Obj) (ty:String),(∀A:Around,A.handled=none->Walks prog w A (L+1) [L+1] [L+1] (tx l).cps.size (SignAt (tx l)) (fun i h=>h.IsStrIter (L+1) ty (tx l) t i))->(g1.push ob).IsStrIter (L+1) ty (tx l) t 0 ->
   (∀{A:Around} {s:Shared} {i c:Nat} {Q:Option Value->Shared->Prop} {E:Value->Shared->Prop},s.heap.IsStrIter (L+1) ty (tx l) t i->(tx l).cps[i]?=some c ->
    (∀h',h'.IsStrIter (L+1) ty (tx l) t (i+1)->Heap.SameBut (L+1) s.heap h'->Q (some (.str ⟨#[c]⟩ s.toks)) { s with heap:=h',toks:=s.toks+1 })->wpAny #[6] A (pyNext (.ref (L+1))) Q E s) ->
   codeAny #[6] A (.builtin "list.extend.loop" ⟨[.ref L,.ref (L+1),.ref L],[]⟩) (wants (fun r s'=>wpAny #[6] A (match r with|.ref a=>(do match (<- load a).data with|.seq xs _=>pure xs.toList|_=>unsupported "internal:collect")|_=>unsupported "internal:collect") Q E s') E) { s with heap:=g1.push ob }:=fun ob ty W h0 next=>by
  refine HY (n0:=s.toks) (W A.in1 (by simpa using hh)) (by rw[hn];exact NN) L #[15] (.ref L) (fun i s' Q E hn0 hi st q=>?_) (tx l).cps.size 0 _ #[] 0 #[0] (aA _) h0 (aw _ gL) (ItemsOf.nil _) (fun x u hx=>by simp at hx) fun g tk Fv c ml kp hd ac ta=>?_
  ·obtain⟨c,hx⟩:∃c,(tx l).cps[i]?=some c:=⟨_,eP hi⟩
   refine next st hx fun h' bg hs=>q _ h' (s'.toks+1) (bn _) (fun x u hx' _=>?_) ⟨c,_,hx,rfl⟩ bg fun b o hb e=>hs.extBut b o (fun z=>hb (by simp[z])) e
   rw[aZ]at hx'
   cases hx'
   exact⟨aL yp hn0,cb _⟩
  ·refine af (wpAny_load hd (ay (q g tk Fv ml (fun b o e=>kp b o ?_ ?_ (aw _ (kp1 b o e))) ac ta)))
   ·rw[<- hL];exact a9 (aJ e)
   ·intro hm
    rw[aZ]at hm
    have:=aJ e
    rw[hL,hm]at this
    have this:L+1<L:=this
    omega
 have hint:∀(s':Shared) (Q':Bool->Shared->Prop) (E':Value->Shared->Prop),Q' false s'->wpAny #[6] A.in1 (Builtin.List.listLengthHint (.str (tx l) t)) Q' E' s':=fun s' Q' E' y=>by
  unfold Builtin.List.listLengthHint
  refine af (wpAny_specialOf (T:="str") (v:=.str (tx l) t) rfl PySem.F.str_len ?_)
  wp_delta
  refine af (gX (T:="str") (v:=.str (tx l) t) (b:=true) rfl (by rw[eD];kernel_rfl) ?_)
  show wpAny _ A.in1 (typeOf (Value.str (tx l) t) >>= _) _ _ _
  exact af (i' (T:="str") (v:=.str (tx l) t) rfl (ay y))
 have key:∀(ob:Obj),codeAny #[6] A (.builtin "list.extend.loop" ⟨[.ref L,.ref (L+1),.ref L],[]⟩) (wants (fun r s'=>wpAny #[6] A (match r with|.ref a=>(do match (<- load a).data with|.seq xs _=>pure xs.toList|_=>unsupported "internal:collect")|_=>unsupported "internal:collect") Q E s') E) { s with heap:=g1.push ob }->_:=fun ob h=>h
 cases ha:(tx l).cps.all (· < 128)
 ·refine af (m_ ha (af (dv (hint _ _ _ ?_))))
  show wpAny _ _ _ _ _ _
  rw[show Shared.heap { s with heap:=g1 }=g1 from rfl,z1]
  rw[aU #[3]]
  exact ay ⟨fG PySem.F.plain_extend_loop _,kQ _ "str_iterator" (fun A hA=>Walks.strWide hA _ (tx l) t) ⟨_,by rw[<- z1];exact aC _ rfl,rfl,rfl⟩ fun a b c=>kh a b c⟩
 ·refine af (mI ha (af (dv (hint _ _ _ ?_))))
  rw[show Shared.heap { s with heap:=g1 }=g1 from rfl,z1]
  rw[aU #[3]]
  exact ay ⟨fG PySem.F.plain_extend_loop _,kQ _ "str_ascii_iterator" (fun A hA=>Walks.strAscii hA _ (tx l) t) ⟨_,by rw[<- z1];exact aC _ rfl,rfl,rfl⟩ fun a b c=>jS a b c⟩
theorem BD{t:Tok}(yp:0<s.toks)(NN:l.length<64)(hh:A.handled=none)
  (q:∀(s1:Shared) (g1:Heap) (out:Array Value) (ss:List Str) (e:Nat),(∀b o,s.heap.get? b=some o->s1.heap.get? b=some o)->s1.gens=s.gens->s1.drawn=s.drawn->s1.os=s.os->(∀b o,s1.heap.get? b=some o->g1.get? b=some o)->g1.get? s1.heap.objs.size=some (seqObj "list" out e) ->
   s.toks<=s1.toks->jl s1.toks out.toList->StrsAre out.toList ss->ss.Perm (l.map fun c=>tx [c])->sortedS ss=true->Q (.ref s1.heap.objs.size) { s1 with heap:=g1 }):wpAny #[6] A (call (.builtin "sorted") [.str (tx l) t]) Q E s:=by
 have hn:(tx l).cps.size=l.length:=by simp[tx]
 apply mT kind_sorted plain_sorted entry_sorted (args_sorted1 _)
 show wpAny _ _ (checkCount "sorted" 1 1 _ >>= _) _ _ _
 refine af (ay (af (zR yp (by simpa using hh) (by rw[lq];omega) (fun g tk ju ml kp ha ta=>?_))))
 generalize hs1:({ s with heap:=g,toks:=tk }:Shared)=s1
 have eg:s1.gens=s.gens:=by rw[<- hs1]
 have ed:s1.drawn=s.drawn:=by rw[<- hs1]
 have eo:s1.os=s.os:=by rw[<- hs1]
 have kp:∀b o,s.heap.get? b=some o->s1.heap.get? b=some o:=by rw[<- hs1];exact kp
 have ml:s.toks<=s1.toks:=by rw[<- hs1];exact ml
 have ta:jl s1.toks ju.toList:=by rw[<- hs1];exact ta
 have oZ:StrsAre ju.toList (l.map fun c=>tx [c]):=by
  refine wU l _ (by rw[eF,ha.1,hn]) fun j v hj=>?_
  obtain⟨c,u,hc,e⟩:=ha.2 j v (by simpa using hj)
  exact⟨c,u,by simpa[tx]using hc,e⟩
 have hvl:ju.toList.length<64:=by rw[eF,ha.1,hn];exact NN
 refine af (wpAny_newList ?_ (by rw[lq];omega))
 have oL:(s1.heap.push (seqObj "list" ju.toList.toArray 0)).get? s1.heap.objs.size=some (seqObj "list" ju.toList.toArray 0):=aC _ rfl
 refine af (dv (cm slot_list_sort ⟨_,oL,rfl⟩ entry_list_sort (list_sort_treeK rS oL oZ.keysOf (fun a b r e=>ue (by rw[<- e];exact oZ)) hvl fun st a1 a2=>⟨_,rfl,?_⟩) (args_list_sort _)))
 obtain⟨ss,h1,h2,h3⟩:=qH oZ a1 a2
 obtain⟨e,he⟩:=sortedHeap_at (out:=(arrOf st).map (·.2)) oL
 refine ay ⟨_,rfl,q s1 _ _ ss e kp eg ed eo (fun b o hb=>?_) he ml (ta.sub (wu a1)) h1 h2 h3⟩
 rw[sortedHeap_old (a9 (aJ hb)) (by rw[bw];exact cW (aJ hb))]
 exact aw _ hb
end
section
def lE(ws:List W)(st:List au):R W:=match ws with
 |[.str l]=>if l.length<64 then .ok (.loc st.length) (st++[.lst ((jM (l.map fun c=>[c])).map W.str)])else .bad
 |[.loc n]=>qQ [.loc n] st
 |_=>.bad
theorem zS(hc:X.calm=true:=by rfl):qd X (.builtin "sorted") lE:=⟨fun ak s σ H vs us Q I rv zq=>by
 obtain⟨μ,st,ws,S,r,q⟩:=zq
 unfold lE at q
 split at q
 ·rename_i l
  split at q
  ·rename_i c
   obtain⟨y,rfl,ry⟩:=r.one
   have:=ry.strE;subst this
   obtain⟨u,rfl,ru⟩:=p6 rv
   obtain⟨t,rfl⟩:=ru
   refine BD I.pos c (I.ok.hd hc) fun s1 g1 out ss e kp eg ed eo k1 gL ml ta oZ hp hsr=>?_
   have es:s1={ s with heap:=s1.heap,toks:=s1.toks }:=by cases s1;cases s;cases eg;cases ed;cases eo;rfl
   generalize s1.heap=g0,s1.toks=tk at es kp k1 gL ml ta ⊢
   subst es
   have I2:bH X ak σ H { s with heap:=g0,toks:=tk }:=I.kept2 (d':=s.drawn) fun b o e=>kp b o e
   have yu:H g0.objs.size=none:=I2.hok.fresh (aA _)
   have hmap:(ss.map fun z=>z.cps.toList).map tx=ss:=by
    rw[cn]
    have:(tx∘fun z:Str=>z.cps.toList)=id:=funext fun z=>ES z
    rw[this,jT]
   have hperm:(ss.map fun z=>z.cps.toList).Perm (l.map fun c=>[c]):=by
    have e:=hp.map fun z:Str=>z.cps.toList
    rw[cn]at e
    exact e
   have ez:(ss.map fun z=>z.cps.toList)=jM (l.map fun c=>[c]):=vT (wO (by rw[hmap];exact hsr)) (wN _) (hperm.trans (hV _).symm)
   have hvals:cK tk ((jM (l.map fun c=>[c])).map fun l=>V.str (tx l)) out.toList:=by
    have e:=oq oZ ta
    rw[<- hmap,ez,cn]at e
    exact e
   refine⟨.ref g0.objs.size,_,I2.laid (o:=.lst ((jM (l.map fun c=>[c])).map fun l=>V.str (tx l))) (t':=tk) k1 (aA _) ⟨?_,out.toList,e,hvals,gL⟩,rfl,?_⟩
   ·rw[aE,(hV _).length_eq,aE]
    exact aN (gn c) #[3]
   ·exact q (μ++[g0.objs.size]) _ _ (a_ _ _) (gy.same (cS yu _)) (S.newLst yu (Bz _)) (qb S)
  ·exact q.elim
 ·exact BA.h ak s σ H _ us Q I rv ⟨μ,st,_,S,r,q⟩
 ·exact q.elim,fun ws st=>by
 unfold lE
 split
 ·split<;>trivial
 ·exact(BA (X:=X)).n _ _
 ·trivial⟩
end
section
variable{a b:Expr}{fs:FA}
end
section
variable{f:FG}
end
theorem bH.turnedL{s:Shared}{t':Nat}{ch:List Addr}(I:bH X ak σ H s)(k:∀b o,b∉ch->s.heap.get? b=some o->h'.get? b=some o)
  (f:∀b∈ch,uo X ak H b) (KF:s.toks<=t':=by first|exact aA _|exact bn _|assumption|omega):bH X ak σ H { s with heap:=h',toks:=t' }:=by
 have nit:∀b u,H b=some u->b∉ch:=fun b u q z=>by rw[(f b z).1]at q;cases q
 refine I.step (g':=s.gens) (d':=s.drawn) (ch:=ch) (fun b hb=>?_) (fun b o _ _ hc q _=>k b o hc q) (fun b o _ _ hc q _=>⟨o.slots,k b o hc q⟩) (fun _ _ _ _ n=>n)
  (fun b o hc q=>⟨o,k b o hc q⟩) (fun _ _ q=>q) (fun _ _ _ q=>q) (fun b ps q=>⟨#[],by rw[q];simp⟩) (fun m hm=>?_) (fun b u q=>?_) I.bare KF
 ·exact⟨(f b hb).2.2.2.1,(f b hb).2.1,(f b hb).2.2.2.2.1,(f b hb).2.2.2.2.2⟩
 ·obtain⟨o,es,ep,ho,r⟩:=hm
  exact⟨o,es,ep,k _ o (fun z=>(f _ z).2.1 rfl) ho,r⟩
 ·refine((I.hok b u q).up KF).stay (fun c v hc z=>?_) (fun _ z=>z) fun _ _ z=>z
  rcases hc with y|y
  ·rw[y]at z ⊢;exact k b v (nit b u q) z
  ·exact k c v (nit c _ y) z
section
variable{w:World}
variable{z P O i j a b:Addr}{m:Nat}{xs ys:Array Value}{x y:Value}
theorem LF(D:ZipApart z P O i j a b)(qz:IsZip s.heap z P O .none)(qP:IsPair s.heap P (.ref i) (.ref j))(qO:IsPair s.heap O u v)
  (q1:s.heap.IsTupleIter i a n) (q2:s.heap.IsTupleIter j b m) (ta:s.heap.IsTuple a xs) (tb:s.heap.IsTuple b ys) (hx:xs[n]?=some x) (hy:ys[m]?=some y)
  (hQ:∀g,IsZip g z P O (rawInt s.heap.objs.size)->IsPair g O x y->g.IsTupleIter i a (n+1)->g.IsTupleIter j b (m+1)->IsPair g s.heap.objs.size x y ->
   (∀c o,c≠z->c≠O->c≠i->c≠j->s.heap.get? c=some o->g.get? c=some o)->Q (.ref s.heap.objs.size) { s with heap:=g }) :
  wpAny #[6] A (Builtin.«zip.__next__» ⟨[.ref z],[]⟩) (fun kQ s'=>∃v,kQ=.done (.ret v)/\Q v s') E s:=by
 show wpAny _ _ (field (.ref z) 2 >>= _) _ _ _
 refine af (de qz rfl (x:=.bool false) rfl ?_)
 show wpAny _ _ (field (.ref z) 3 >>= _) _ _ _
 refine af (de qz rfl (x:=.ref P) rfl (af (eu qP rfl ?_)))
 show wpAny _ _ (Builtin.SmallTypes.ownedTupleIsFree (.ref z) >>= _) _ _ _
 refine af ?_;unfold Builtin.SmallTypes.ownedTupleIsFree
 refine af (de qz rfl (x:=.none) rfl (ay ?_));simp only[gF]
 refine af (kU (af (de qz rfl (x:=.ref O) rfl ?_)))
 refine af (cG qz #[15] fun g1 z1 s1=>?_)
 replace z1:IsZip g1 z P O .ellipsis:=z1
 refine af ?_
 simp only[List.zipIdx_cons,List.zipIdx_nil,lQ,qG]
 refine af (af (nH ?_))
 show wpAny _ _ (Builtin.SmallTypes.nextOf (.ref i) >>= _) _ _ _
 refine af (kY (q1.extBut s1.extBut D.i1z) (ta.extBut s1.extBut D.l1z) hx fun g2 k2 s2=>ay ?_)
 have O2:IsPair g2 O u v:=s2.extBut _ _ D.TOi1 (s1.extBut _ _ D.TOz qO)
 refine af (eu O2 rfl (af (ly O2 fun g3 O3 s3=>?_)))
 replace O3:IsPair g3 O x v:=O3
 refine af (wpAny_letGo (ay (af (af (nH ?_)))))
 show wpAny _ _ (Builtin.SmallTypes.nextOf (.ref j) >>= _) _ _ _
 refine af (kY (((q2.extBut s1.extBut D.i2z).extBut s2.extBut D.i12.symm).extBut s3.extBut D.TOi2.symm)
  (((tb.extBut s1.extBut D.l2z).extBut s2.extBut D.l2i1).extBut s3.extBut D.l2TO) hy fun g4 k4 s4=>ay ?_)
 have O4:IsPair g4 O x v:=s4.extBut _ _ D.TOi2 O3
 refine af (eu O4 rfl (af (ly O4 fun g5 O5 s5=>?_)))
 replace O5:IsPair g5 O x y:=O5
 refine af (wpAny_letGo (ay (ay (af (eu O5 rfl (af (wpAny_newTuple ?_)))))))
 have sz:g5.objs.size=s.heap.objs.size:=by rw[s5.1,s4.1,s3.1,s2.1,s1.1]
 have z5:IsZip g5 z P O .ellipsis:=s5.extBut _ _ D.TOz.symm (s4.extBut _ _ D.i2z.symm (s3.extBut _ _ D.TOz.symm (s2.extBut _ _ D.i1z.symm z1)))
 have kp:∀c o,c≠z->c≠O->c≠i->c≠j->s.heap.get? c=some o->g5.get? c=some o:=fun c o c1 c2 c3 c4 e=>
  s5.extBut _ _ c2 (s4.extBut _ _ c4 (s3.extBut _ _ c2 (s2.extBut _ _ c3 (s1.extBut _ _ c1 e))))
 have k5:g5.IsTupleIter i a (n+1):=((k2.extBut s3.extBut D.TOi1.symm).extBut s4.extBut D.i12).extBut s5.extBut D.TOi1.symm
 have l5:g5.IsTupleIter j b (m+1):=k4.extBut s5.extBut D.TOi2.symm
 have zlt:z<g5.objs.size:=aJ z5
 show wpAny _ _ (Builtin.SmallTypes.ownedTupleHandOut (.ref z) (.ref g5.objs.size) >>= _) _ _ _
 refine af ?_;unfold Builtin.SmallTypes.ownedTupleHandOut
 have z6:IsZip (g5.push { cls:=.type "tuple",data:=.seq #[x,y] }) z P O .ellipsis:=aw _ z5
 refine af (cG z6 #[15] fun g7 z7 s7=>?_)
 replace z7:IsZip g7 z P O (rawInt g5.objs.size):=z7
 refine cG z7 #[15] fun g8 z8 s8=>?_
 replace z8:IsZip g8 z P O (rawInt g5.objs.size):=z8
 have up:∀c o,c≠z->g5.get? c=some o->g8.get? c=some o:=fun c o c1 e=>s8.extBut _ _ c1 (s7.extBut _ _ c1 (aw _ e))
 have T8:IsPair g8 g5.objs.size x y:=s8.extBut _ _ (et zlt) (s7.extBut _ _ (et zlt) (aC _ rfl))
 rw[sz]at z8 T8
 refine ay ⟨_,rfl,?_⟩
 show Q (.ref g5.objs.size) _
 rw[sz]
 exact hQ g8 z8 (up _ _ D.TOz O5) (k5.at fun o e=>up _ o D.i1z e) (l5.at fun o e=>up _ o D.i2z e) T8 fun c o c1 c2 c3 c4 e=>up c o c1 (kp c o c1 c2 c3 c4 e)
theorem O_{Q:Fin->Shared->Prop}(hh:A.handled=none)(D:ZipApart z P O i j a b)(qz:IsZip s.heap z P O .none)(qP:IsPair s.heap P (.ref i) (.ref j))(qO:IsPair s.heap O u v)
  (q1:s.heap.IsTupleIter i a n) (q2:s.heap.IsTupleIter j b m) (ta:s.heap.IsTuple a xs) (tb:s.heap.IsTuple b ys) (he:xs[n]?=none\/ys[m]?=none)
  (hE:∀g e,(∀c o,c≠z->c≠O->c≠i->c≠j->s.heap.get? c=some o->g.get? c=some o)->(∃o,g.get? e=some o/\o.cls=.type "StopIteration")->E (.ref e) { s with heap:=g }) :
  wpAny #[6] A (Builtin.«zip.__next__» ⟨[.ref z],[]⟩) Q E s:=by
 show wpAny _ _ (field (.ref z) 2 >>= _) _ _ _
 refine af (de qz rfl (x:=.bool false) rfl ?_)
 show wpAny _ _ (field (.ref z) 3 >>= _) _ _ _
 refine af (de qz rfl (x:=.ref P) rfl (af (eu qP rfl ?_)))
 show wpAny _ _ (Builtin.SmallTypes.ownedTupleIsFree (.ref z) >>= _) _ _ _
 refine af ?_;unfold Builtin.SmallTypes.ownedTupleIsFree
 refine af (de qz rfl (x:=.none) rfl (ay ?_));simp only[gF]
 refine af (kU (af (de qz rfl (x:=.ref O) rfl ?_)))
 refine af (cG qz #[15] fun g1 z1 s1=>?_)
 replace z1:IsZip g1 z P O .ellipsis:=z1
 refine af ?_
 simp only[List.zipIdx_cons,List.zipIdx_nil,lQ,qG]
 refine af (af (nH ?_))
 show wpAny _ _ (Builtin.SmallTypes.nextOf (.ref i) >>= _) _ _ _
 cases hx:xs[n]? with
 |none=>
  refine af (lZ hh (q1.extBut s1.extBut D.i1z) (ta.extBut s1.extBut D.l1z) hx fun g2 e s2 ye=>?_)
  obtain⟨oe,h1,h2⟩:=ye
  have z2:IsZip g2 z P O .ellipsis:=s2 _ _ D.i1z.symm z1
  have nez:e≠z:=fun q=>by subst q;rw[z2]at h1;cases h1;simp at h2
  exact cG z2 #[15] fun g3 _ s3=>hE g3 e (fun c o c1 _ c3 _ q=>s3.extBut _ _ c1 (s2 _ _ c3 (s1.extBut _ _ c1 q))) ⟨oe,s3.extBut _ _ nez h1,h2⟩
 |some x=>
  have hy:ys[m]?=none:=by rcases he with h|h;rw[hx]at h;cases h;exact h
  refine af (kY (q1.extBut s1.extBut D.i1z) (ta.extBut s1.extBut D.l1z) hx fun g2 k2 s2=>ay ?_)
  have O2:IsPair g2 O u v:=s2.extBut _ _ D.TOi1 (s1.extBut _ _ D.TOz qO)
  refine af (eu O2 rfl (af (ly O2 fun g3 O3 s3=>?_)))
  refine af (wpAny_letGo (ay (af (af (nH ?_)))))
  show wpAny _ _ (Builtin.SmallTypes.nextOf (.ref j) >>= _) _ _ _
  refine af (lZ hh (((q2.extBut s1.extBut D.i2z).extBut s2.extBut D.i12.symm).extBut s3.extBut D.TOi2.symm)
   (((tb.extBut s1.extBut D.l2z).extBut s2.extBut D.l2i1).extBut s3.extBut D.l2TO) hy fun g4 e s4 ye=>?_)
  obtain⟨oe,h1,h2⟩:=ye
  have z4:IsZip g4 z P O .ellipsis:=s4 _ _ D.i2z.symm (s3.extBut _ _ D.TOz.symm (s2.extBut _ _ D.i1z.symm z1))
  have nez:e≠z:=fun q=>by subst q;rw[z4]at h1;cases h1;simp at h2
  exact cG z4 #[15] fun g5 _ s5=>hE g5 e (fun c o c1 c2 c3 c4 q=>s5.extBut _ _ c1 (s4 _ _ c4 (s3.extBut _ _ c2 (s2.extBut _ _ c3 (s1.extBut _ _ c1 q))))) ⟨oe,s5.extBut _ _ nez h1,h2⟩
theorem LG{Q:Option Value->Shared->Prop}(D:ZipApart z P O i j a b)(qz:IsZip s.heap z P O .none)(qP:IsPair s.heap P (.ref i) (.ref j))(qO:IsPair s.heap O u v)
  (q1:s.heap.IsTupleIter i a n) (q2:s.heap.IsTupleIter j b m) (ta:s.heap.IsTuple a xs) (tb:s.heap.IsTuple b ys) (hx:xs[n]?=some x) (hy:ys[m]?=some y)
  (hQ:∀g,IsZip g z P O (rawInt s.heap.objs.size)->IsPair g O x y->g.IsTupleIter i a (n+1)->g.IsTupleIter j b (m+1)->IsPair g s.heap.objs.size x y ->
   (∀c o,c≠z->c≠O->c≠i->c≠j->s.heap.get? c=some o->g.get? c=some o)->Q (some (.ref s.heap.objs.size)) { s with heap:=g }) :
  wpAny #[6] A (pyNext (.ref z)) Q E s:=by
 have T:s.TypeIs (.ref z) "zip":=⟨_,qz,rfl⟩
 unfold pyNext
 exact af (iw (bT (name:=Str.ofString "__next__") T lU (cm lU T F.entry_zip_next
   (LF D qz qP qO q1 q2 ta tb hx hy fun g a1 a2 a3 a4 a5 a6=>ay (hQ g a1 a2 a3 a4 a5 a6)) (F.args_zip_next_1 _))))
theorem LH{Q:Option Value->Shared->Prop}(hh:A.handled=none)(D:ZipApart z P O i j a b)(qz:IsZip s.heap z P O .none)(qP:IsPair s.heap P (.ref i) (.ref j))(qO:IsPair s.heap O u v)
  (q1:s.heap.IsTupleIter i a n) (q2:s.heap.IsTupleIter j b m) (ta:s.heap.IsTuple a xs) (tb:s.heap.IsTuple b ys) (he:xs[n]?=none\/ys[m]?=none)
  (hQ:∀g,(∀c o,c≠z->c≠O->c≠i->c≠j->s.heap.get? c=some o->g.get? c=some o)->Q none { s with heap:=g }):wpAny #[6] A (pyNext (.ref z)) Q E s:=by
 have T:s.TypeIs (.ref z) "zip":=⟨_,qz,rfl⟩
 unfold pyNext
 refine af (iw (bT (name:=Str.ofString "__next__") T lU (cm lU T F.entry_zip_next (O_ hh D qz qP qO q1 q2 ta tb he fun g e hk ye=>?_) (F.args_zip_next_1 _))))
 obtain⟨o,ho,hc⟩:=ye
 exact af (gX (T:="StopIteration") (b:=true) ⟨o,ho,hc⟩ mJ (ay (hQ _ hk)))
end
open AutoSeq1 (wpAny_loadPart')
abbrev Uu(h:Heap)(a:Addr):Heap:=h.push (mV a)
abbrev Uv(h:Heap)(a b:Addr):Heap:=(Uu h a).push (mV b)
abbrev Uw(h:Heap)(a b:Addr):Heap:=(Uv h a b).push { cls:=.type "tuple",data:=.seq #[.ref h.objs.size,.ref (Uu h a).objs.size] }
abbrev Ux(h:Heap)(a b:Addr):Heap:=(Uw h a b).push { cls:=.type "tuple",data:=.seq #[.none,.none] }
abbrev Q4(h:Heap)(a b:Addr):Heap:=(Ux h a b).push { cls:=.type "zip",data:=.fields #[.none,.bool false,.bool false,.ref (Uv h a b).objs.size,.ref (Uw h a b).objs.size] }
theorem Pa     (a b : Addr) (xs ys : Array Value) : Meets (Builtin.«zip.__new__» ⟨[.type "zip", .ref a, .ref b], []⟩) (fun _ R s => s.heap.IsTuple a xs /\ s.heap.IsTuple b ys /\
      R (.ok (.ret (.ref (Ux  s.heap a b).objs.size))) { s with heap := Q4  s.heap a b }) :=
  .of_wp fun prog w A R s h => by
    obtain ⟨hp, g, d, tk, os⟩ := s
    obtain ⟨ha, hb, h⟩ := h
    have sb := sub_zip
    have hA : Heap.IsTuple (Shared.heap ⟨hp, g, d, tk, os⟩) a xs := ha
    have hB : Heap.IsTuple (Shared.heap ⟨hp.push (mV      a), g, d, tk, os⟩) b ys := hb.at fun o e => aw                     _ e
    wp_walk using fN                 hA, fN                 hB
    exact ⟨_, rfl, h⟩
section
variable{w:World}
theorem LI{a b:Addr}{xs ys:Array Value}(ha:s.heap.IsTuple a xs)(hb:s.heap.IsTuple b ys)
  (q:∀g,IsZip g (s.heap.objs.size+4) (s.heap.objs.size+2) (s.heap.objs.size+3) .none->IsPair g (s.heap.objs.size+2) (.ref s.heap.objs.size) (.ref #[7]) ->
   IsPair g (s.heap.objs.size+3) .none .none->g.IsTupleIter s.heap.objs.size a 0->g.IsTupleIter #[7] b 0->(∀c o,s.heap.get? c=some o->g.get? c=some o)->Q (.ref (s.heap.objs.size+4)) { s with heap:=g }) :
  wpAny #[6] A (call (.type "zip") [.ref a,.ref b]) Q E s:=by
 refine callType_new F.called_zip #[3] (F.typeCall_zip_2 _ _) (F.newCall_zip_2 _ _) (fun ob=>F.args_object_init_3 ob _ _) F.entry_zip_new (Pa a b xs ys) ⟨ha,hb,?_⟩
 have n1:(Uu s.heap a).objs.size=s.heap.objs.size+1:=bw ..
 have n2:(Uv s.heap a b).objs.size=s.heap.objs.size+2:=by rw[bw,n1]
 have n3:(Uw s.heap a b).objs.size=s.heap.objs.size+3:=by rw[bw,n2]
 have n4:(Ux s.heap a b).objs.size=s.heap.objs.size+4:=by rw[bw,n3]
 have p:∀{h:Heap} {c:Addr} {o u:Obj},h.get? c=some o->(h.push u).get? c=some o:=fun e=>aw _ e
 have g5:(Q4 s.heap a b).get? (Ux s.heap a b).objs.size=some _:=aC _ rfl
 have g4:(Q4 s.heap a b).get? (Uw s.heap a b).objs.size=some _:=p (aC _ rfl)
 have g3:(Q4 s.heap a b).get? (Uv s.heap a b).objs.size=some _:=p (p (aC _ rfl))
 have g2:(Q4 s.heap a b).get? (Uu s.heap a).objs.size=some _:=p (p (p (aC _ rfl)))
 have g1:(Q4 s.heap a b).get? s.heap.objs.size=some _:=p (p (p (p (aC _ rfl))))
 show _/\_
 rw[n2,n3,n4]at g5
 rw[n1,n2]at g3
 rw[n3]at g4
 rw[n1]at g2
 rw[n4]
 exact⟨⟨_,g5,rfl⟩,q _ g5 g3 g4 ⟨_,g1,rfl,rfl⟩ ⟨_,g2,rfl,rfl⟩ fun c o e=>p (p (p (p (p e))))⟩
end
def V3(K:Frag)(a b:Addr):It:=
  ⟨fun i H=>∃xs ys x y,gy K H a xs/\gy K H b ys/\xs[i]?=some x/\ys[i]?=some y,
   fun i H v H'=>∃p,H p=none/\v=.ref p/\∀xs ys x y,gy K H a xs->gy K H b ys->xs[i]?=some x->ys[i]?=some y->H'=fU H p (.tup [x,y]),
   fun i H=>∃xs ys,gy K H a xs/\gy K H b ys/\(xs.length<=i\/ys.length<=i)⟩
theorem LJ{w:World}{z T O i j a b:Addr}(D:ZipApart z T O i j a b) :
  C4 P w K (.Tuple xO kk pos) (V3 K a b) [z,T,O,i,j] z (fun k h=>IsZip h z T O .none/\IsPair h T (.ref i) (.ref j)/\(∃u v,IsPair h O u v)/\h.IsTupleIter i a k/\h.IsTupleIter j b k) where
 mem:=by simp
 obj:=fun k h st c hc=>by
  obtain⟨h1,h2,⟨u,v,h3⟩,⟨o4,e4,_,d4⟩,⟨o5,e5,_,d5⟩⟩:=st
  have q:c=z\/c=T\/c=O\/c=i\/c=j:=by simpa using hc
  rcases q with rfl|rfl|rfl|rfl|rfl
  ·exact⟨_,h1,fun v q=>by cases q⟩
  ·exact⟨_,h2,fun v q=>by cases q⟩
  ·exact⟨_,h3,fun v q=>by cases q⟩
  ·exact⟨_,e4,fun v q=>by rw[d4]at q;cases q⟩
  ·exact⟨_,e5,fun v q=>by rw[d5]at q;cases q⟩
 keep:=fun k h h' st kp=>by
  obtain⟨h1,h2,⟨u,v,h3⟩,h4,h5⟩:=st
  exact⟨kp z #[15] _ h1,kp T #[15] _ h2,⟨u,v,kp O #[15] _ h3⟩,h4.at fun o e=>kp i #[15] o e,h5.at fun o e=>kp j #[15] o e⟩
 item:=by
  intro X hP hw hK hc k ak s σ H E I hf st hg
  subst hP hw hK
  obtain⟨xs,ys,x,y,hq,hr,hx,hy⟩:=hg
  obtain⟨bN,rv,p1,_⟩:=I.tuple hq
  obtain⟨jts,u8,p2,_⟩:=I.tuple hr
  obtain⟨u,hu,ru⟩:=rv.get hx
  obtain⟨v,hv,rv'⟩:=u8.get hy
  obtain⟨h1,h2,⟨c1,c2,h3⟩,h4,h5⟩:=st
  refine LG D h1 h2 h3 h4 h5 (show s.heap.IsTuple a bN.toArray from p1) (show s.heap.IsTuple b jts.toArray from p2) (x:=u) (y:=v) (by simpa using hu) (by simpa using hv) fun g a1 a2 a3 a4 a5 kp=>⟨_,rfl,?_⟩
  refine wpAny_letOwnedTupleGo_zip a1 fun g2 b1 s2=>?_
  have yu:H s.heap.objs.size=none:=I.hok.fresh (aA _)
  have I1:bH X ak σ (fU H s.heap.objs.size (.tup [x,y])) { s with heap:=s.heap.push { cls:=.type "tuple",data:=.seq #[u,v] },toks:=s.toks }:=I.laid (fun c o q=>aw _ q) (aA _)
   ⟨by show 2<=sizeLine;decide,[u,v],.cons ru (.cons rv' .nil),⟨_,aC _ rfl,rfl,_,rfl⟩⟩
  have lt:∀{c o},s.heap.get? c=some o->c≠s.heap.objs.size:=fun e=>a9 (aJ e)
  have nf:∀c∈[z,T,O,i,j],c≠s.heap.objs.size:=fun c hb=>by
   have q:c=z\/c=T\/c=O\/c=i\/c=j:=by simpa using hb
   rcases q with rfl|rfl|rfl|rfl|rfl
   ·exact lt h1
   ·exact lt h2
   ·exact lt h3
   ·obtain⟨_,e,_⟩:=h4;exact lt e
   ·obtain⟨_,e,_⟩:=h5;exact lt e
  have fp:∀c∈[z,T,O,i,j],uo X ak (fU H s.heap.objs.size (.tup [x,y])) c:=fun c hb=>by
   obtain⟨f0,f⟩:=hf c hb
   exact⟨by rw[cX (nf c hb)];exact f0,f⟩
  have I2:bH X ak σ (fU H s.heap.objs.size (.tup [x,y])) { s with heap:=g2,toks:=s.toks }:=bH.turnedL (s:={ s with heap:=s.heap.push { cls:=.type "tuple",data:=.seq #[u,v] },toks:=s.toks }) (ch:=[z,O,i,j]) (t':=s.toks) I1 (fun c o hb q=>?_) fun c hb=>fp c (by
   have q:c=z\/c=O\/c=i\/c=j:=by simpa using hb
   rcases q with rfl|rfl|rfl|rfl<;>simp)
  ·refine⟨.ref s.heap.objs.size,_,I2,rfl,⟨_,yu,rfl,fun xs' Q9 x' y' e1 e2 e3 e4=>?_⟩,⟨b1,s2.extBut _ _ D.TIz (kp _ _ D.TIz D.TITO D.TIi1 D.TIi2 h2),⟨_,_,s2.extBut _ _ D.TOz a2⟩,a3.extBut s2.extBut D.i1z,a4.extBut s2.extBut D.i2z⟩,fun c hb=>(fp c hb).1⟩
   have q1:=I.tuple_inj e1 hq
   have q2:=I.tuple_inj e2 hr
   subst q1 q2
   rw[hx]at e3;rw[hy]at e4;cases e3;cases e4;rfl
  ·have q':(s.heap.push { cls:=.type "tuple",data:=.seq #[u,v] }).get? c=some o:=q
   have hn:c≠z/\c≠O/\c≠i/\c≠j:=by simpa using hb
   refine s2.extBut c o hn.1 ?_
   by_cases hb':c=s.heap.objs.size
   ·subst hb'
    have e1:=aC s.heap (o:={ cls:=.type "tuple",data:=.seq #[u,v] }) rfl
    rw[e1]at q';cases q'
    exact a5
   ·rw[Heap.get?_push_ne _ _ _ hb']at q'
    exact kp c o hn.1 hn.2.1 hn.2.2.1 hn.2.2.2 q'
 done:=by
  intro X hP hw hK hc k ak s σ H E I hf st hg
  subst hP hw hK
  obtain⟨xs,ys,hq,hr,he⟩:=hg
  obtain⟨bN,rv,p1,_⟩:=I.tuple hq
  obtain⟨jts,u8,p2,_⟩:=I.tuple hr
  obtain⟨h1,h2,⟨c1,c2,h3⟩,h4,h5⟩:=st
  have l1:=rv.length
  have l2:=u8.length
  refine LH (I.ok.hd hc) D h1 h2 h3 h4 h5 (show s.heap.IsTuple a bN.toArray from p1) (show s.heap.IsTuple b jts.toArray from p2) (by
   rcases he with q|q
   ·exact .inl (by simp;omega)
   ·exact .inr (by simp;omega)) fun g kp=>⟨rfl,?_⟩
  exact I.turnedL (ch:=[z,O,i,j]) (t':=s.toks) (fun c o hb q=>by
   have hn:c≠z/\c≠O/\c≠i/\c≠j:=by simpa using hb
   exact kp c o hn.1 hn.2.1 hn.2.2.1 hn.2.2.2 q) fun c hb=>hf c (by
   have q:c=z\/c=O\/c=i\/c=j:=by simpa using hb
   rcases q with rfl|rfl|rfl|rfl<;>simp)
 self:=fun A k s Q E st h=>wpAny_pyIter_zip st.1 h
def Vp(K:Frag)(ta:TA):TI:=fun σ H R=>ta σ H fun vs H1=>∃a b,vs=[.ref a,.ref b]/\(∃xs,gy K H1 a xs)/\(∃ys,gy K H1 b ys)/\R (V3 K a b) H1
theorem LK{a b:Expr}{ta:TA}{p pos tp:Pos}{xO:List Expr}{kk:Nat}(hm:X.mg "zip"=none)(ha:QA X [a,b] ta)(hg:Gl X "zip":=by rfl)(hs:starEach [a,b] X.env=(false,eval a X.env)::starEach [b] X.env:=by rfl)
  (u7:(backTo pos (starEach [b] X.env)).any (·.1)=false:=by rfl):QI X (.Tuple xO kk tp) (.Call (.Name "zip" p) [a,b] [] pos) (Vp X.K ta):=⟨by
 intro ak s σ H R I h
 refine Call_ (p5 I hg hm boot_zip (dS (kr (ha.h pos ak s σ H _ I h) fun us s1 kt1 ⟨vs,H1,I1,r1,q1⟩=>?_) hs u7))
 obtain⟨t,t',e,⟨xs,hq⟩,⟨ys,hr⟩,q⟩:=q1
 subst e
 cases r1 with
 |cons x1 r1=>cases r1 with
  |cons x2 r1=>
   cases r1
   cases x1
   cases x2
   obtain⟨bN,rv,p1,_⟩:=I1.tuple hq
   obtain⟨jts,u8,p2,_⟩:=I1.tuple hr
   have lt1:t<s1.heap.objs.size:=by obtain⟨_,e,_⟩:=(show s1.heap.IsTuple t bN.toArray from p1);exact aJ e
   have lt2:t'<s1.heap.objs.size:=by obtain⟨_,e,_⟩:=(show s1.heap.IsTuple t' jts.toArray from p2);exact aJ e
   refine LI (show s1.heap.IsTuple t bN.toArray from p1) (show s1.heap.IsTuple t' jts.toArray from p2) fun g e1 e2 e3 e4 e5 kp=>?_
   refine wpAny_pyIter_zip e1 ?_
   refine⟨s1.heap.objs.size+4,[s1.heap.objs.size+4,s1.heap.objs.size+2,s1.heap.objs.size+3,s1.heap.objs.size,s1.heap.objs.size+1],_,_,H1,rfl,I1.kept (t':=s1.toks) kp,LJ (zipApart_new lt1 lt2),⟨e1,e2,⟨_,_,e3⟩,e4,e5⟩,fun c hb=>?_,q⟩
   have hc:s1.heap.objs.size<=c:=by
    have z:c=s1.heap.objs.size+4\/c=s1.heap.objs.size+2\/c=s1.heap.objs.size+3\/c=s1.heap.objs.size\/c=s1.heap.objs.size+1:=by simpa using hb
    rcases z with rfl|rfl|rfl|rfl|rfl<;>simp
   exact I1.fpOk hc (I1.hok.fresh hc)⟩
def se:List W->List W->List W
 |x::xs,y::ys=>.tup [x,y]::se xs ys
 |_,_=>[]
theorem wV:∀{xs ys:List W} {i:Nat} {w:W},(se xs ys)[i]?=some w->∃x y,xs[i]?=some x/\ys[i]?=some y/\w=.tup [x,y]
 |x::xs,y::ys,0,w,h=>by simp[se]at h;exact⟨x,y,rfl,rfl,h.symm⟩
 |x::xs,y::ys,i+1,w,h=>by simp[se]at h;simpa using wV h
 |[],_,i,w,h=>by simp[se]at h
 |_::_,[],i,w,h=>by simp[se]at h
theorem wW:∀(xs ys:List W),(se xs ys).length=min xs.length ys.length
 |x::xs,y::ys=>by simp[se,wW xs ys]
 |[],_=>by simp[se]
 |_::_,[]=>by simp[se]
section
variable{a b:Expr}{fs:FA}
def zT(fs:FA):FI:=fun ρ st=>(fs ρ st).bind fun ws st=>match ws with
 |[.tup xs,.tup ys]=>.ok (se xs ys,none) st
 |_=>.bad
theorem LM{xO:List Expr}{kk:Nat}{tp:Pos}(hm:X.mg "zip"=none)(ha:SA X [a,b] fs)(hg:Gl X "zip":=by rfl)(hs:starEach [a,b] X.env=(false,eval a X.env)::starEach [b] X.env:=by rfl)(on:(backTo pos (starEach [b] X.env)).any (·.1)=false:=by rfl) :
  SI X (.Tuple xO kk tp) (.Call (.Name "zip" p) [a,b] [] pos) (zT fs):=⟨(LK hm ⟨ha.h⟩ hg hs on).h.imp fun σ H R h=>by
 walk_at "2"
 walk_at "1"
 split at h1
 ·rename_i zs ws
  obtain⟨y,ys,rfl,ry,r1⟩:=q1.consE
  obtain⟨w,rfl,u8⟩:=r1.one
  obtain⟨t,vs,rfl,hS,r⟩:=ry.tupE
  obtain⟨t',EA,rfl,hS',r'⟩:=u8.tupE
  refine⟨t,t',rfl,⟨vs,hS⟩,⟨EA,hS'⟩,h1 μ1 _ H1 (aq _) fE.refl l1.sto fun i μ' bg H' pp xx S _=>⟨fun w hw=>?_,fun hl=>⟨vs,EA,xx _ _ hS,xx _ _ hS',by rw[wW]at hl;rw[<- r.len,<- r'.len];omega⟩⟩⟩
  obtain⟨x,y,hx,hy,rfl⟩:=wV hw
  have m1:=r.mono pp xx
  have m2:=r'.mono pp xx
  obtain⟨v1,g1,g2⟩:=m1.get hx
  obtain⟨v2,g3,g4⟩:=m2.get hy
  refine⟨⟨vs,EA,v1,v2,xx _ _ hS,xx _ _ hS',g1,g3⟩,fun z H'' hz=>?_⟩
  obtain⟨q,hq,rfl,hH⟩:=hz
  have e:=hH vs EA v1 v2 (xx _ _ hS) (xx _ _ hS') g1 g3
  subst e
  have ex:=gy.same (K:=X.K) (cS hq (.tup [v1,v2]))
  exact⟨ex,S.same (cS hq _),.tupI gy.new (.consI (g2.mono (aq _) ex) (.consI (g4.mono (aq _) ex) .nilI))⟩
 ·exact h1.elim⟩
end
open Builtin.Str (tooLong)
section
variable{w:World}
end
section
end
section
end
end L2
namespace L2
open PySem PySem.Spec PyProof.Rows
section
end
end L2
namespace L2
open PySem PySem.Spec PyProof.Rows
end L2
namespace L2
open PySem PySem.Spec PyProof.Rows
abbrev Ss:=List W×List (Nat×List W)
abbrev Wp:=cV->List au->R Ss
section
variable{fi:Wp}{f:FG}{m:Nat}
end
section
variable{a b:Expr}{fs:FA}
end
end L2
namespace L2
open PySem PySem.Spec PyProof.Rows
section
def yX(ws:List W)(st:List au):R W:=match ws with
 |[.str [c]]=>if 48<=c/\c<=51 then .ok (.int (c-48:Nat)) st else .bad
 |_=>Gd ws st
theorem DL:qd X (.type "int") yX:=⟨fun ak s σ H vs us Q I rv zq=>by
 obtain⟨μ,st,ws,S,r,q⟩:=zq
 unfold yX at q
 split at q
 ·rename_i c
  split at q
  ·rename_i hc
   obtain⟨y,rfl,ry⟩:=r.one
   have:=ry.strE;subst this
   obtain⟨k,rfl⟩:∃k,c=48+k:=⟨c-48,by omega⟩
   refine OK.h ak s σ H _ us Q I rv ⟨k,rfl,by omega,?_⟩
   rw[show 48+k-48=k by omega]at q
   exact q μ _ H (aq _) fE.refl S .int
  ·exact q.elim
 ·exact My.h ak s σ H _ us Q I rv ⟨μ,st,_,S,r,q⟩,fun ws st=>by
 unfold yX
 split
 ·split<;>trivial
 ·exact(My (X:=X)).n _ _⟩
end
end L2
namespace L2
open PySem PySem.Spec PyProof.Rows
section
variable{wi:TI}{g:TG}{te:Cx->TE}
def noB(sn:List (Str×NameKind)):Bool:=sn.all fun x=>!(x.2==.cell)&&!(x.2==.free)&&(!(x.2==.local)||sn.lookup x.1==some .local)
end
section
variable{f:FG}
end
end L2
namespace L2
open PySem PySem.Spec PyProof.Rows
abbrev dV(g_:List (DK×W))(vs:List V):List (v8×V):=(g_.map fun p=>p.1.key).zip vs
section
end
section
variable{a b d i:Expr}{fb fc fi:FE}{fs:FA}
end
end L2
namespace L2
open PySem PySem.Spec PyProof.Rows
section
variable{y:Str}{a b:Expr}{fs:FA}
end
inductive DefIn(K:Frag)(x:Str)(st:Stmt):Prop
 |mk {ad:Addr} {od an:Option Addr} {sl:Array (Option Value)} {oc kV dc pm cd ct:Value} (a:nsIn K mainGlobals x=some (some (.ref ad)))
   (l:K.lookup ad=some ⟨oc,od,.func (fnOf x x (iV st) (hJ st) (aO st) .none kV dc pm an cd ct),sl⟩) (c:codeIn K cd x=true) (k:keepIn K (.ref ad)=true):DefIn K x st
theorem DefIn.fn{st:Stmt}(d:DefIn K x st)(X:K.In h)(G:h.Ns mainGlobals mg):∃f fd,iW K x x st f fd/\mg x=some (.ref f):=by
 obtain⟨a,l,c,k⟩:=d
 exact⟨_,_,zC (st:=st) l c k,mg_of X G a⟩
theorem Su{l:List Value}(h:l.length=n+1):∃a t,l=a::t/\t.length=n:=by
 cases l with
 |nil=>cases h
 |cons a t=>exact⟨a,t,rfl,Nat.succ.inj h⟩
theorem Uy{l:List Value}(h:l.length=1):∃a,l=[a]:=h_.mp h
theorem Uz{l:List Value}(h:l.length=2):∃a b,l=[a,b]:=by obtain⟨a,t,rfl,k⟩:=Su h;obtain⟨b,rfl⟩:=Uy k;exact⟨a,b,rfl⟩
theorem UA{l:List Value}(h:l.length=3):∃a b c,l=[a,b,c]:=by obtain⟨a,t,rfl,k⟩:=Su h;obtain⟨b,c,rfl⟩:=Uz k;exact⟨a,b,c,rfl⟩
theorem UB{l:List Value}(h:l.length=4):∃a b c d,l=[a,b,c,d]:=by obtain⟨a,t,rfl,k⟩:=Su h;obtain⟨b,c,d,rfl⟩:=UA k;exact⟨a,b,c,d,rfl⟩
theorem UC{l:List Value}(h:l.length=5):∃a b c d e,l=[a,b,c,d,e]:=by obtain⟨a,t,rfl,k⟩:=Su h;obtain⟨b,c,d,e,rfl⟩:=UB k;exact⟨a,b,c,d,e,rfl⟩
theorem Vq{l:List Value}(h:l.length=6):∃a b c d e f,l=[a,b,c,d,e,f]:=by obtain⟨a,t,rfl,k⟩:=Su h;obtain⟨b,c,d,e,f,rfl⟩:=UC k;exact⟨a,b,c,d,e,f,rfl⟩
section
variable{w:World}{st:Stmt}{f:Addr}
theorem cO(F:iW K x x st f fd)(hm:mg x=some (.ref f))(ok:c6 P w K mg base (iJ P w) k f fd ps (iY K mg n G))(hn:ps.length=n:=by rfl)
  (hb:∀(kV uk pm:Value) (an:Option Addr) (fC ct:Value) (us:List Value),us.length=ps.length->bindArgs (fnOf x x (iV st) (hJ st) (aO st) .none kV uk pm an fC ct) ⟨us,[]⟩=pure (ps.zip us):=by(intro _ _ _ _ _ _ _ q;first|(obtain⟨_,rfl⟩:=Uy q;rfl)|(obtain⟨_,_,rfl⟩:=Uz q;rfl)|(obtain⟨_,_,_,rfl⟩:=UA q;rfl)|(obtain⟨_,_,_,_,rfl⟩:=UB q;rfl)|(obtain⟨_,_,_,_,_,rfl⟩:=UC q;rfl)|(obtain⟨_,_,_,_,_,_,rfl⟩:=Vq q;rfl))):bQ P w K mg base k x n G:=zN F hm hn hb ok
end
section
variable{sp:Scope}
theorem ko{N:List Str}(a:sp.kind=.function:=by rfl)(b:sp.isCoroutine=false:=by rfl)(c:sp.isGenerator=false:=by rfl)(d:N.Nodup:=by decide +kernel)(f:N.take ps.length=ps:=by rfl)(g:∀x∈ps,sp.names.lookup x=some .local\/sp.names.lookup x=some .cell:=by decide +kernel)(h:∀y∈sp.names,y.2≠.free:=by decide +kernel):ba N ps sp:=⟨a,b,c,d,f,g,h⟩
theorem sS(i:Nat){i9:Pos}(sc:ba X.N ps sp)(he:SE X e fe)(hi:X.N[i]?=some x:=by rfl)(hx:Kw X.env.scope x:=by first|exact .inl rfl|exact .inr rfl)(hs:swapsWith e (some (.Name x i9)) pos.line X.env=pure false:=by rfl)(hf:X.fn x=true\/X.env.scope.names.lookup x=some .local:=by first|exact .inl rfl|exact .inr rfl|assumption) :
  SS X (.Assign [.Name x i9] e pos) (bd i fe):=OW sc.nd hi hx he hs hf
theorem sG(i:Nat)(sc:ba X.N ps sp)(hi:X.N[i]?=some x:=by rfl)(hx:Kw X.env.scope x:=by first|exact .inl rfl|exact .inr rfl)(hf:X.fn x=true\/X.env.scope.names.lookup x=some .local:=by first|exact .inl rfl|exact .inr rfl|assumption):SG X (.Name x pos) (kH i):=E0 sc.nd hi hx hf
theorem sC{cl:List (Str×Addr)}{C s0 H0 fp}(i:Nat)(hN:nm.Nodup:=by decide +kernel)(hi:nm[i]?=some x:=by rfl)(hx:Kw #[10].env.scope x:=by first|exact .inl rfl|exact .inr rfl)(hf:#[10].fn x=true\/#[10].env.scope.names.lookup x=some .local:=by first|exact .inl rfl|exact .inr rfl|assumption) :
  SG #[10] (.Name x pos) (kH i):=E0 (X:=dZ X nm scope cl C s0 H0 fp) hN hi hx hf
end
section
variable{f:FG}{m:Nat}
end
section
end
section
end
section
variable{f:Expr}{fk fd:FE}
end
section
variable{a:Expr}
end
section
end
section
variable{w:World}
variable{K:Type}[DecidableEq K]{WF:KeyKind prog w K}
end
section
end
end L2
namespace L2
open PySem PySem.Spec PyProof.Rows
structure Pc(K:Frag)(mg:Str->Option Value)(c:Str)(fs:List Str):Prop where
 ex:∃C,mg c=some (.ref C)/\Cls K C/\∀f∈fs,rX K C f
def nQ(st:List au):W->Option (Nat×Str×List (Str×W))
 |.loc n=>(match st[n]? with
  |some (.obj c fs)=>some (n,c,fs)
  |_=>none)
 |_=>none
def x9(f:Str)(v:W):List (Str×W)->List (Str×W)
 |[]=>[(f,v)]
 |(g,x)::r=>if g=f then(g,v)::r else(g,x)::x9 f v r
abbrev fV(fs:List (Str×W))(vs:List V):List (Str×V):=(fs.map fun p=>p.1).zip vs
section
theorem tj(S:jC K mg μ st H){x:W}{v:V}{c:Str}{fs:List (Str×W)}(h:nQ st x=some (n,c,fs))(r:bM K μ H x v) :
  x=.loc n/\st[n]?=some (.obj c fs)/\∃a C dx vs,μ[n]?=some a/\v=.ref a/\mg c=some (.ref C)/\H a=some (.ins C dx (fV fs vs))/\RelWs K μ H (fs.map fun p=>p.2) vs:=by
 cases x with
 |loc m=>
  simp only[nQ]at h
  cases e:st[m]? with
  |none=>rw[e]at h;cases h
  |some cc=>
   rw[e]at h
   cases cc with
   |obj c' z=>
    cases h
    obtain⟨a,g,C,dx,vs,m1,k,rr⟩:=S.get e
    obtain⟨b,f,rfl⟩:=r.locE
    rw[g]at f;cases f
    exact⟨rfl,e,a,C,dx,vs,g,rfl,m1,k,rr⟩
   |_=>cases h
 |_=>cases h
theorem zU(f:Str):∀{fs:List (Str×W)} {vs:List V},RelWs K μ H (fs.map fun p=>p.2) vs->(∀w,fs.lookup f=some w->∃v,(fV fs vs).lookup f=some v/\bM K μ H w v)/\(fs.lookup f=none->(fV fs vs).lookup f=none)
 |[],vs,r=>⟨fun w h=>(by cases h),fun _=>rfl⟩
 |(g,x)::fs,vs,r=>by
  obtain⟨y,ys,rfl,a,b⟩:=RelWs.consE r
  have ih:=zU f (fs:=fs) b
  have e1:List.lookup f ((g,x)::fs)=(match f==g with|true=>some x|false=>fs.lookup f):=rfl
  have e2:List.lookup f (fV ((g,x)::fs) (y::ys))=(match f==g with|true=>some y|false=>(fV fs ys).lookup f):=rfl
  rw[e1,e2]
  cases f==g with
  |true=>exact⟨fun w h=>(by cases h;exact⟨y,rfl,a⟩),fun h=>(by cases h)⟩
  |false=>exact ih
theorem HZ(f:Str){w:W}{v:V}(u8:bM K μ H w v):∀{fs:List (Str×W)} {vs:List V},RelWs K μ H (fs.map fun p=>p.2) vs->∃us,pS f v (fV fs vs)=fV (x9 f w fs) us/\RelWs K μ H ((x9 f w fs).map fun p=>p.2) us
 |[],vs,r=>⟨[v],rfl,.consI u8 .nilI⟩
 |(g,x)::fs,vs,r=>by
  obtain⟨y,ys,rfl,a,b⟩:=RelWs.consE r
  obtain⟨us,e,q⟩:=HZ f u8 (fs:=fs) b
  show ∃us,(if g=f then(g,v)::fV fs ys else(g,y)::pS f v (fV fs ys))=_/\_
  by_cases h:g=f
  ·refine⟨v::ys,?_,?_⟩
   ·rw[aK h];show _=fV (if g=f then(g,w)::fs else(g,x)::x9 f w fs) _;rw[aK h];rfl
   ·show RelWs K μ H ((if g=f then(g,w)::fs else(g,x)::x9 f w fs).map fun p=>p.2) _
    rw[aK h];exact .consI u8 b
  ·refine⟨y::us,?_,?_⟩
   ·rw[aU h];show _=fV (if g=f then(g,w)::fs else(g,x)::x9 f w fs) _;rw[aU h,e];rfl
   ·show RelWs K μ H ((if g=f then(g,w)::fs else(g,x)::x9 f w fs).map fun p=>p.2) _
    rw[aU h];exact .consI a q
theorem gy.butI{l dx:Addr}{xs:List (Str×V)}(e:Vc l H H')(hl:H l=some (.ins C dx xs)):fE K H H':=by
 have Fw:∀{p:Addr} {o:HO},H p=some o->(∀c d zs,o≠.ins c d zs)->p≠l:=fun{p o} q hn z=>by subst z;rw[hl]at q;cases q;exact hn _ _ _ rfl
 refine⟨fun p ys h=>?_,fun b o u h=>e _ _ (Fw h (fun _ _ _ z=>by cases z)) h⟩
 rcases h with(h|⟨o,h⟩)|h
 ·exact .inl (.inl (e _ _ (Fw h (fun _ _ _ z=>by cases z)) h))
 ·exact .inl (.inr ⟨o,e _ _ (Fw h (fun _ _ _ z=>by cases z)) h⟩)
 ·exact .inr h
theorem jC.setI(S:jC K mg μ st H){a dx:Addr}{c:Str}{fs T0:List (Str×W)}{xs:List (Str×V)}{us:List V}(hn:st[n]?=some (.obj c fs))(hm:μ[n]?=some a)(hc:mg c=some (.ref C))(ha:H a=some (.ins C dx xs))(hr:RelWs K μ H (T0.map fun p=>p.2) us) :
  jC K mg μ (st.set n (.obj c T0)) (fU H a (.ins C dx (fV T0 us))):=
 S.setG hn rfl hm ha (fun _ _ z=>by cases z) (fun _ z=>by cases z) (gy.butI mU ha) rfl ⟨C,dx,us,hc,ia,hr.mono (aq _) (gy.butI mU ha)⟩
end
section
variable{a value:Expr}{c f m:Str}{fl:List Str}{fs:FA}
def jg(c f:Str)(fa:FE):FE:=fun ρ st=>(fa ρ st).bind fun x st=>match nQ st x with
 |some (_,c',fs)=>if c'=c then uE (fs.lookup f) fun w=>.ok w st else .bad
 |none=>.bad
theorem gO(hC:Pc X.K X.mg c fl)(ha:SE X a fa)(hf:f∈fl:=by decide)(hb:attributeBase a f X.env (eval a X.env)=eval a X.env:=by rfl):SE X (.Attribute a f pos) (jg c f fa):=⟨(Oq ha.h hb).imp fun σ H Q h=>by
 walk_at "2"
 walk_at "1"
 cases e0:nQ st1 x with
 |none=>rw[e0]at h1;exact h1.elim
 |some nk=>
  obtain⟨n,c',fs⟩:=nk
  rw[e0]at h1
  simp only at h1
  obtain⟨rfl,hn,a,C,dx,vs,hm,rfl,hc,hI,rr⟩:=tj l1.sto e0 q1
  by_cases z:c'=c
  ·rw[aK z]at h1
   subst z
   obtain⟨C',hc',cl,na⟩:=hC.ex
   rw[hc]at hc';cases hc'
   unfold uE at h1
   split at h1
   ·rename_i w ew
    obtain⟨v,ev,rv⟩:=(zU f rr).1 w ew
    exact⟨a,C,dx,_,v,rfl,hI,cl,na f hf,ev,h1 μ1 v H1 (aq _) fE.refl l1.sto rv⟩
   ·exact h1.elim
  ·rw[aU z]at h1;exact h1.elim⟩
def qg(c f:Str)(fo fe:FE):FS:=fun ρ st=>(fe ρ st).stmt ρ fun y st=>(fo ρ st).stmt ρ fun x st=>match nQ st x with
 |some (n,c',fs)=>if c'=c/\fs.length<900 then .nx ρ (st.set n (.obj c (x9 f y fs)))else .bad
 |none=>.bad
theorem lF(hC:Pc X.K X.mg c fl)(ho:SE X o fo)(he:SE X value fe)(hf:f∈fl:=by decide)(hs:swapsWith value (some (.Attribute o f i9)) pos.line X.env=pure false:=by rfl):SS X (.Assign [.Attribute o f i9] value pos) (qg c f fo fe):=⟨(Os ho.h he.h hs).imp fun D σ H h=>by
 walk_at "2"
 refine⟨μ,ρ,st,l,RK.stmt h l fun μ1 st1 y yv H1 p1 x1 l1 q1 h1=>⟨μ1,ρ,st1,l1,RK.stmt h1 l1 fun μ2 c_ x xv H2 p2 x2 l2 q2 h2=>?_⟩⟩
 cases e0:nQ c_ x with
 |none=>rw[e0]at h2;exact h2.elim
 |some nk=>
  obtain⟨n,c',fs⟩:=nk
  rw[e0]at h2
  simp only at h2
  obtain⟨rfl,hn,a,C,dx,vs,hm,rfl,hc,hI,rr⟩:=tj l2.sto e0 q2
  by_cases z:c'=c/\fs.length<900
  ·rw[aK z]at h2
   obtain⟨z,hz⟩:=z
   subst z
   obtain⟨C',hc',cl,na⟩:=hC.ex
   rw[hc]at hc';cases hc'
   obtain⟨us,e1,r1⟩:=HZ f (q1.mono p2 x2) rr
   have gB:(fV fs vs).length<1000:=by
    unfold fV
    rw[List.length_zip,aE]
    omega
   refine⟨a,C,dx,_,rfl,hI,cl,na f hf,gB,?_⟩
   rw[e1]
   exact h2 μ2 σ _ (aq _) (gy.butI mU hI) (l2.to (aq _) (gy.butI mU hI) (l2.sto.setI hn hm hc hI r1))
  ·rw[aU z]at h2;exact h2.elim⟩
structure iy(P:Program)(w:World)(K:Frag)(mg:Str->Option Value)(base:Heap)(k:Nat)(c m:Str)(n:Nat)(F:List W->List au->R W):Prop where
 ex:∃(C g:Addr) (fd:FuncData) (ps:List Str),mg c=some (.ref C)/\Cls K C/\Rz K C m g/\ps.length=n/\rd K fd ps []/\c6 P w K mg base (iJ P w) k g fd ps (iY K mg n F)
theorem iy.mono{w:World}(h:iy P w K mg base j c m n F)(hj:j<=k):iy P w K mg base k c m n F:=by
 obtain⟨C,g,fd,ps,a,b,b2,c,d,e⟩:=h.ex
 exact⟨C,g,fd,ps,a,b,b2,c,d,e.mono hj⟩
def ie(c m:Str)(n:Nat)(F:List W->List au->R W)(fo:FE)(fs:FA):FE:=fun ρ st=>(fo ρ st).bind fun x st=>match nQ st x with
 |some (_,c',fl)=>if c'=c/\fl.lookup m=none then(fs ρ st).bind fun ws st=>if ws.length+1=n then F (x::ws) st else .bad else .bad
 |none=>.bad
theorem kI{k':Nat}{pl:Sem Bool}(Fn:iy X.prog X.w X.K X.mg X.base k c m n F)(hr:jW k' X.A)(hk:k<=k')(ho:SE X o fo)(ha:SA X (e::es) fs)
  (oZ:starEach (e::es) X.env=(false,eval e X.env)::starEach es X.env:=by rfl) (on:(backTo pos (starEach es X.env)).any (·.1)=false:=by rfl)
  (ht:eval (.Call (.Attribute o m gR) (e::es) [] pos) X.env=(do
   let ov <- eval o X.env
   standAt gR.atName
   let (f,fst') <- holding [ov] (getMethod ov m pl)
   callWith pos f fst' (backTo pos (starEach (e::es) X.env)) (backToKw pos (keywordEach [] X.env))):=by rfl):SE X (.Call (.Attribute o m gR) (e::es) [] pos) (ie c m n F fo fs):=⟨by
 intro ak s σ H Q I h
 obtain⟨C,g,fd,ps,hc,cl,hm,hn,hb,Fo⟩:=(Fn.mono hk).ex
 walk_at "2"
 have h':tE X fo σ H fun x H1=>∃(a dx:Addr) (xs:List (Str×V)),x=.ref a/\H1 a=some (.ins C dx xs)/\xs.lookup m=none/\R1 X fs σ H1 fun vs H2=>∃μ2 c_ ws,Rl X μ2 ρ c_ σ H2/\RelWs X.K μ2 H2 ws (.ref a::vs)/\ws.length=n/\RK X (ux X) μ2 σ H2 Q (F ws c_):=by
  walk_at "1"
  cases e0:nQ st1 x with
  |none=>rw[e0]at h1;exact h1.elim
  |some nk=>
   obtain⟨i,c',fl⟩:=nk
   rw[e0]at h1
   simp only at h1
   obtain⟨rfl,hi,a,C',dx,vs,hma,rfl,hc',hI,rr⟩:=tj l1.sto e0 q1
   by_cases z:c'=c/\fl.lookup m=none
   ·rw[aK z]at h1
    obtain⟨z,hz⟩:=z
    subst z
    rw[hc]at hc';cases hc'
    refine⟨a,dx,_,rfl,hI,(zU m rr).2 hz,μ1,ρ,st1,l1,RK.bind h1 l1 fun μ2 c_ ws vs2 H2 p2 x2 l2 q2 h2=>?_⟩
    by_cases y:ws.length+1=n
    ·rw[aK y]at h2
     exact⟨μ2,c_,.loc i::ws,l2,.consI (q1.mono p2 x2) q2,y,h2⟩
    ·rw[aU y]at h2;exact h2.elim
   ·rw[aU z]at h1;exact h1.elim
 refine PySem.W.methodCall_KW (pl:=pl) (kr (ho.h ak s σ H _ I h') fun u s1 kt1 ⟨x,H1,I1,rx,a,dx,xs,ex,ea,lk,q⟩=>?_) ht
 subst ex
 obtain rfl:u=Value.ref a:=rx
 refine wb I1 ea cl hm lk ?_
 refine PySem.W.callWith_K (first:=[.ref a]) (h₀:=X.base) I.ok.mod.kin hm.kp (kr (ha.h pos ak s1 σ H1 _ I1 q) fun us s2 kt2 ⟨vs,H2,I2,r,μ2,c_,ws,l2,r2,y,q2⟩=>⟨I2.kIn,?_⟩) oZ on
 exact HK (us:=.ref a::us) (vs:=.ref a::vs) Fo hn hr hb I2 l2.sto r2 (.cons rfl r) y q2⟩
theorem qS{k':Nat}(Fn:iy X.prog X.w X.K X.mg X.base k c m 1 F)(hr:jW k' X.A)(hk:k<=k')(ho:SE X o fo)
  (ht:eval (.Call (.Attribute o m gR) [] [] pos) X.env=(do
   let ov <- eval o X.env
   standAt gR.atName
   let (f,fst') <- holding [ov] (getMethod ov m pl)
   callWith pos f fst' (backTo pos (starEach [] X.env)) (backToKw pos (keywordEach [] X.env))):=by rfl):SE X (.Call (.Attribute o m gR) [] [] pos) (ie c m 1 F fo aD):=⟨by
 intro ak s σ H Q I h
 obtain⟨C,g,fd,ps,hc,cl,hm,hn,hb,Fo⟩:=(Fn.mono hk).ex
 walk_at "2"
 have h':tE X fo σ H fun x H1=>∃(a dx:Addr) (xs:List (Str×V)),x=.ref a/\H1 a=some (.ins C dx xs)/\xs.lookup m=none/\∃μ2 c_ ws,Rl X μ2 ρ c_ σ H1/\RelWs X.K μ2 H1 ws [.ref a]/\ws.length=1/\RK X (ux X) μ2 σ H1 Q (F ws c_):=by
  walk_at "1"
  cases e0:nQ st1 x with
  |none=>rw[e0]at h1;exact h1.elim
  |some nk=>
   obtain⟨i,c',fl⟩:=nk
   rw[e0]at h1
   simp only at h1
   obtain⟨rfl,hi,a,C',dx,vs,hma,rfl,hc',hI,rr⟩:=tj l1.sto e0 q1
   by_cases z:c'=c/\fl.lookup m=none
   ·rw[aK z]at h1
    obtain⟨z,hz⟩:=z
    subst z
    rw[hc]at hc';cases hc'
    exact⟨a,dx,_,rfl,hI,(zU m rr).2 hz,μ1,st1,[.loc i],l1,.consI q1 .nilI,rfl,h1⟩
   ·rw[aU z]at h1;exact h1.elim
 refine PySem.W.methodCall_KW (pl:=pl) (kr (ho.h ak s σ H _ I h') fun u s1 kt1 ⟨x,H1,I1,rx,a,dx,xs,ex,ea,lk,μ2,c_,ws,l2,r2,y,q2⟩=>?_) ht
 subst ex
 obtain rfl:u=Value.ref a:=rx
 refine wb I1 ea cl hm lk ?_
 exact PySem.W.callWith_K0 (first:=[.ref a]) I1.kIn hm.kp (HK (us:=[.ref a]) (vs:=[.ref a]) Fo hn hr hb I1 l2.sto r2 (.cons rfl .nil) y q2)⟩
structure LN(P:Program)(w:World)(K:Frag)(mg:Str->Option Value)(base:Heap)(k:Nat)(c:Str)(n:Nat)(F:List W->List au->R W):Prop where
 ex:∃(C g:Addr) (fd:FuncData) (ps:List Str),mg c=some (.ref C)/\Mk K C g/\ps.length=n/\rd K fd ps []/\c6 P w K mg base (iJ P w) k g fd ps (iY K mg n F)
def BE(c:Str)(n:Nat)(F:List W->List au->R W)(fs:FA):FE:=fun ρ st=>(fs ρ st).bind fun ws st=>if ws.length+1=n then(match F (.loc st.length::ws) (st++[.obj c []])with
  |.ok .non bg=>.ok (.loc st.length) bg
  |_=>.bad)else .bad
theorem H9{k':Nat}(Fn:LN X.prog X.w X.K X.mg X.base k c n F)(hr:jW k' X.A)(hk:k+1<=k')(ha:SA X (e::es) fs)(hg:Gl X c:=by rfl)(J9:(c==("__debug__":Str))=false:=by decide)
  (he:starEach (e::es) X.env=(false,eval e X.env)::starEach es X.env:=by rfl) (on:(backTo pos (starEach es X.env)).any (·.1)=false:=by rfl):SE X (.Call (.Name c p) (e::es) [] pos) (BE c n F fs):=⟨by
 intro ak s σ H Q I h
 obtain⟨C,g,fd,ps,hc,M,hn,hb,Fo⟩:=Fn.ex
 refine fQ (sO I hg hc ?_ J9)
 walk_at "2"
 have h':R1 X fs σ H fun vs H1=>∃μ1 st1 ws c_,Rl X μ1 ρ st1 σ H1/\RelWs X.K μ1 H1 ws vs/\ws.length+1=n/\F (.loc st1.length::ws) (st1++[.obj c []])=.ok .non c_/\RK X (ux X) μ1 σ H1 Q (.ok (.loc st1.length) c_):=by
  walk_at "1"
  by_cases y:x.length+1=n
  ·rw[aK y]at h1
   split at h1
   ·rename_i c_ e2
    exact⟨μ1,st1,x,c_,l1,q1,y,e2,h1⟩
   ·exact h1.elim
  ·rw[aU y]at h1;exact h1.elim
 refine PySem.W.callWith_K (h₀:=X.base) I.ok.mod.kin M.kp (kr (ha.h pos ak s σ H _ I h') fun us s1 kt1 ⟨vs,H1,I1,r,μ1,st1,ws,c_,l1,r1,y,e2,q⟩=>⟨I1.kIn,?_⟩) he on
 refine G9 (dvs:=[]) (ds:=[]) (E:=fun _ _ _=>False) M Fo (hr.mono hk) hb .nil (fun ak σ H s e s' I ht hq=>by obtain⟨_,_,_,_,_,_,z,_⟩:=hq;exact z.elim) I1 r fun x dx hx hdx Fw=>?_
 have hs1:vA H1 (fU H1 dx (.own x)):=cS hdx _
 have hx1:(fU H1 dx (.own x)) x=none:=by rw[cX (Ne.symm Fw)];exact hx
 have u7:vA (fU H1 dx (.own x)) (fU (fU H1 dx (.own x)) x (.ins C dx [])):=cS hx1 _
 have xt:fE X.K H1 (fU (fU H1 dx (.own x)) x (.ins C dx [])):=(gy.same hs1).trans (gy.same u7)
 have S2:jC X.K X.mg (μ1++[x]) (st1++[.obj c []]) (fU (fU H1 dx (.own x)) x (.ins C dx [])):=(l1.sto.same hs1).push (c:=.obj c []) hx1 ⟨C,dx,[],hc,ia,.nilI⟩
 have hmx:(μ1++[x])[st1.length]?=some x:=by rw[l1.sto.len];simp
 refine⟨by rw[a8,bZ,<- r1.len];exact y,μ1++[x],.loc st1.length::ws,st1++[.obj c []],S2,.consI (.locI hmx) (by rw[a8];exact r1.mono (a_ _ _) xt),?_⟩
 rw[e2]
 intro μ' v H' pp xx S' rv
 exact⟨rv.nonE,q μ' (.ref x) H' ((a_ _ _).trans pp) (xt.trans xx) S' (.locI (L2.pre_get pp hmx))⟩⟩
end
def iZ:Stmt->List Stmt
 |.ClassDef _ _ _ b _ _ _ _ _ _ _=>b
 |_=>[]
inductive DefM(K:Frag)(C:Addr)(q m:Str)(st:Stmt):Prop
 |mk {ad:Addr} {od an:Option Addr} {sl:Array (Option Value)} {oc kV dc pm cd ct:Value} (a:findIn K (.ref C) m=some (some (.ref ad))) (i:isFn K (.ref ad)=true)
   (l:K.lookup ad=some ⟨oc,od,.func (fnOf m q (iV st) (hJ st) (aO st) .none kV dc pm an cd ct),sl⟩) (c:codeIn K cd q=true) (k:keepIn K (.ref ad)=true):DefM K C q m st
section
variable{w:World}{c q m:Str}{st:Stmt}
theorem lG(d:DefM K C q m st)(hC:mg c=some (.ref C))(cl:Cls K C)(ok:∀{f:Addr} {fd:FuncData},iW K m q st f fd->c6 P w K mg base (iJ P w) k f fd ps (iY K mg n G))(hn:ps.length=n:=by rfl)
  (hb:∀(kV uk pm:Value) (an:Option Addr) (fC ct:Value) (us:List Value),us.length=ps.length->bindArgs (fnOf m q (iV st) (hJ st) (aO st) .none kV uk pm an fC ct) ⟨us,[]⟩=pure (ps.zip us):=by(intro _ _ _ _ _ _ _ q;first|(obtain⟨_,rfl⟩:=Uy q;rfl)|(obtain⟨_,_,rfl⟩:=Uz q;rfl)|(obtain⟨_,_,_,rfl⟩:=UA q;rfl)|(obtain⟨_,_,_,_,rfl⟩:=UB q;rfl)|(obtain⟨_,_,_,_,_,rfl⟩:=UC q;rfl)|(obtain⟨_,_,_,_,_,_,rfl⟩:=Vq q;rfl))):iy P w K mg base k c m n G:=by
 obtain⟨a,i,l,cc,kk⟩:=d
 exact⟨C,_,_,ps,hC,cl,⟨a,i,kk⟩,hn,rd.all fun us hl=>hb _ _ _ _ _ _ us hl,ok (zC (st:=st) l cc kk)⟩
theorem Pd(d:DefM K C q "__init__" st)(hC:mg c=some (.ref C))(mk:makesIn K C=true)(kc:keepIn K (.ref C)=true)(ok:∀{f:Addr} {fd:FuncData},iW K "__init__" q st f fd->c6 P w K mg base (iJ P w) k f fd ps (iY K mg n G))(hn:ps.length=n:=by rfl)
  (hb:∀(kV uk pm:Value) (an:Option Addr) (fC ct:Value) (us:List Value),us.length=ps.length->bindArgs (fnOf "__init__" q (iV st) (hJ st) (aO st) .none kV uk pm an fC ct) ⟨us,[]⟩=pure (ps.zip us):=by(intro _ _ _ _ _ _ _ q;first|(obtain⟨_,rfl⟩:=Uy q;rfl)|(obtain⟨_,_,rfl⟩:=Uz q;rfl)|(obtain⟨_,_,_,rfl⟩:=UA q;rfl)|(obtain⟨_,_,_,_,rfl⟩:=UB q;rfl)|(obtain⟨_,_,_,_,_,rfl⟩:=UC q;rfl)|(obtain⟨_,_,_,_,_,_,rfl⟩:=Vq q;rfl))):LN P w K mg base k c n G:=by
 obtain⟨a,i,l,cc,kk⟩:=d
 exact⟨C,_,_,ps,hC,⟨mk,a,i,kc⟩,hn,rd.all fun us hl=>hb _ _ _ _ _ _ us hl,ok (zC (st:=st) l cc kk)⟩
end
end L2
namespace L2
open PySem PySem.Spec PyProof.Rows
theorem iC(st x:List au)(k:Nat):(st++x)[st.length+k]?=x[k]?:=by rw[aS #[0]];congr 1;omega
theorem dQ(st x:List au):(st++x)[st.length]?=x[0]?:=iC st x 0
theorem nR(st x:List au)(k:Nat)(c:au):(st++x).set (st.length+k) c=st++x.set k c:=by rw[pY _ _ #[0]];congr 2;omega
theorem fX(st x:List au)(c:au):(st++x).set st.length c=st++x.set 0 c:=nR st x 0 c
theorem dI{x:List au}{c:au}(h:st[n]?=some c):(st++x)[n]?=some c:=by
 rw[aR (ax.mp h).1];exact h
theorem DM(st:List au)(ws:List W):iL st st ws=st:=by unfold iL;split<;>simp
theorem uK{st x:List au}{ws:List W}(h:undWs st.length ws=true):iL st (st++x) ws=st:=by
 unfold iL
 rw[aK ⟨h,by simp,fun i hi=>.inl (aR hi)⟩]
 simp
theorem yY(h:undWs st.length ws=false):iL st bg ws=bg:=by
 unfold iL
 rw[aU fun k=>by have:=k.1;rw[h]at this;cases this]
theorem js{N:Nat}{body:FS}{ws:List W}{w:W}(h:body #[12] st=.rt w bg):c8 N body ws st=.ok w (iL st bg [w]):=by
 unfold c8;rw[h]
theorem qT{body:FS}{w:W}(h:body #[12] st=.rt w st):c8 N body ws st=.ok w st:=by
 rw[js h,DM]
theorem BF{body:FS}{x:List au}{w:W}(h:body #[12] st=.rt w (st++x))(hu:undWs st.length [w]=true):c8 N body ws st=.ok w st:=by
 rw[js h,uK hu]
theorem H_{body:FS}{x:List au}(h:body #[12] st=.rt (.loc (st.length+k)) (st++x)):c8 N body ws st=.ok (.loc (st.length+k)) (st++x):=by
 rw[js h,yY (by simp[undWs,W.und])]
theorem Ia{g g':FS}{ρ':cV}(h:g ρ st=.nx ρ' bg):aM g g' ρ st=g' ρ' bg:=by unfold aM;rw[h]
theorem E5{f:FG}{body:FS}{k:HH}(h:fi ρ st=.ok k bg):mS fi f body ρ st=wG f body k.2 k.1 ρ bg:=by unfold mS;rw[h];rfl
theorem wX{f:FG}{body:FS}{ck:Option (Nat×List W)}(I:Nat->cV->List au->Prop):∀{ws:List W} {ρ:cV} {st:List au} (i0:Nat),I i0 ρ st->(∀i ρ st,I i ρ st->mZ st ck) ->
  (∀i w ρ st,ws[i]?=some w->I (i0+i) ρ st->∃ρ' ρ2 c_,f w ρ=some ρ'/\body ρ' st=.nx ρ2 c_/\I (i0+i+1) ρ2 c_) ->
  ∃ρ2 c_,wG f body ck ws ρ st=.nx ρ2 c_/\I (i0+ws.length) ρ2 c_
 |[],ρ,st,i0,h0,hc,hs=>⟨ρ,st,by unfold wG;rw[aK (hc _ _ _ h0)],h0⟩
 |w::ws,ρ,st,i0,h0,hc,hs=>by
  obtain⟨ρ',ρ2,c_,e1,e2,h1⟩:=hs 0 w ρ st rfl h0
  obtain⟨ρ3,nL,e3,h3⟩:=wX I (ws:=ws) (ρ:=ρ2) (st:=c_) (i0+1) h1 hc fun i w ρ st hw hI=>by
   obtain⟨a,b,c,d,e,g⟩:=hs (i+1) w ρ st (by simpa using hw) (by rw[show i0+(i+1)=i0+1+i by omega];exact hI)
   exact⟨a,b,c,d,e,by rw[show i0+1+i+1=i0+(i+1)+1 by omega];exact g⟩
  refine⟨ρ3,nL,?_,by rw[bZ,show i0+(ws.length+1)=i0+1+ws.length by omega];exact h3⟩
  unfold wG
  rw[aK (hc _ _ _ h0),e1]
  simp only[e2]
  exact e3
theorem Gj{t:FT}{g:FS}(I:Nat->cV->List au->Prop):∀(n:Nat) {ρ:cV} {st:List au},I n ρ st ->
  (∀n ρ st,I n ρ st->t ρ st=.ok false st\/(t ρ st=.ok true st/\∃ρ2 c_ m,g ρ st=.nx ρ2 c_/\m<n/\I m ρ2 c_)) ->
  ∃m ρ2 c_,oz t g ρ st=.nx ρ2 c_/\I m ρ2 c_/\t ρ2 c_=.ok false c_:=by
 intro n ρ st h hs
 have key:∀(k n:Nat) (ρ:cV) (st:List au),n<k->I n ρ st->∃m ρ2 c_,eK t g k ρ st=.nx ρ2 c_/\I m ρ2 c_/\t ρ2 c_=.ok false c_:=by
  intro k
  induction k with
  |zero=>intro n _ _ h;exact absurd h (lT _)
  |succ k ih=>
   intro n ρ st hk hI
   rcases hs n ρ st hI with e|⟨e,ρ2,c_,m,e2,hm,h2⟩
   ·exact⟨n,ρ,st,by unfold eK;rw[e];rfl,hI,e⟩
   ·obtain⟨m',ρ3,nL,e3,h3⟩:=ih m ρ2 c_ #[0] h2
    exact⟨m',ρ3,nL,by unfold eK;rw[e];simp only[R.stmt_ok,gF,e2];exact e3,h3⟩
 obtain⟨m,ρ2,c_,e,h2⟩:=key (n+1) n ρ st (cb n) h
 exact⟨m,ρ2,c_,yQ e #[15],h2⟩
section
variable{ρ':cV}{c_ nL UK:List au}{fb fi:FE}{fs:FA}{u:FT}{x y z w v:W}{xs zs:List W}{m:Nat}{a b k:Bool}{g g':FS}
theorem kz(h:ρ[i]?=some (some w)):ag i ρ st=.ok w st:=by unfold ag;rw[h]
theorem bI:eC w ρ st=.ok w st:=rfl
theorem bv{f:W->W->List au->R W}(h1:fa ρ st=.ok x st1)(h2:fb ρ st1=.ok y c_)(h3:f x y c_=.ok z nL):e2 f fa fb ρ st=.ok z nL:=by unfold e2;rw[h1];simp only[R.bind_ok];rw[h2];exact h3
theorem aQ:aD ρ st=.ok [] st:=rfl
theorem am(h1:fa ρ st=.ok x st1)(h2:fs ρ st1=.ok xs c_):ah fa fs ρ st=.ok (x::xs) c_:=by unfold ah;rw[h1];simp only[R.bind_ok];rw[h2];rfl
theorem Pe:R6 ls ρ st=.ok (ls.map W.str) st:=rfl
theorem eQ(h1:fs ρ st=.ok ws st1)(h2:ws.length<=nO):fJ fs ρ st=.ok (.tup ws) st1:=by unfold fJ;rw[h1];simp only[R.bind_ok,rj];rw[aK h2]
theorem qh(h1:fs ρ st=.ok ws st1)(h2:ws.length<=nO):l6 fs ρ st=.ok (.loc st1.length) (st1++[.lst ws]):=by unfold l6;rw[h1];simp only[R.bind_ok,qa];rw[aK h2]
theorem cq(h1:fs ρ st=.ok ws st1)(h2:F ws st1=.ok w c_):bJ F fs ρ st=.ok w c_:=by unfold bJ;rw[h1];exact h2
theorem bU(h1:fs ρ st=.ok ws st1)(h2:F ws st1=.ok w c_)(hn:ws.length=n):b7 n F fs ρ st=.ok w c_:=by unfold b7;rw[h1];simp only[R.bind_ok];rw[aK hn];exact h2
theorem aY(h:fa ρ st=.ok (.bl k) st1):eO fa ρ st=.ok k st1:=by unfold eO;rw[h];rfl
theorem tm(h1:t ρ st=.ok true st1)(h2:u ρ st1=.ok k c_):Ky t u ρ st=.ok k c_:=by unfold Ky;rw[h1];exact h2
theorem zV(h1:t ρ st=.ok false st1):Ky t u ρ st=.ok false st1:=by unfold Ky;rw[h1];rfl
theorem m6(h1:t ρ st=.ok false st1)(h2:u ρ st1=.ok k c_):F8 t u ρ st=.ok k c_:=by unfold F8;rw[h1];exact h2
theorem E6(h1:t ρ st=.ok true st1):F8 t u ρ st=.ok true st1:=by unfold F8;rw[h1];rfl
theorem nS(h1:t ρ st=.ok a st1)(h2:(!a)=k):A6 t ρ st=.ok k st1:=by unfold A6;rw[h1,<- h2];rfl
theorem qU(h1:fa ρ st=.ok (.bl true) st1)(h2:fb ρ st1=.ok w c_):zL fa fb ρ st=.ok w c_:=by unfold zL;rw[h1];exact h2
theorem Sw(h1:fa ρ st=.ok (.bl a) st1)(h2:(!a)=k):Lp fa ρ st=.ok (.bl k) st1:=by unfold Lp;rw[h1,<- h2];rfl
theorem tq(h1:t ρ st=.ok true st1)(h2:fa ρ st1=.ok w c_):GM t fa fb ρ st=.ok w c_:=by unfold GM;rw[h1];exact h2
theorem tt(h1:t ρ st=.ok false st1)(h2:fb ρ st1=.ok w c_):GM t fa fb ρ st=.ok w c_:=by unfold GM;rw[h1];exact h2
theorem jU{F:W->List W->List au->R W}(h1:fo ρ st=.ok x st1)(hl:ms st1 x=true)(h2:fs ρ st1=.ok ws c_)(h3:F x ws c_=.ok w nL):oE F fo fs ρ st=.ok w nL:=by unfold oE;rw[h1];simp only[R.bind_ok];rw[aK hl,h2];exact h3
theorem LO{F:W->List W->List au->R W}(h1:fo ρ st=.ok x st1)(hl:yR x=true)(h2:fs ρ st1=.ok ws c_)(h3:F x ws c_=.ok w nL):KA F fo fs ρ st=.ok w nL:=by unfold KA;rw[h1];simp only[R.bind_ok];rw[aK hl,h2];exact h3
theorem d8(h:st[n]?=some (.lst ws)):ms st (.loc n)=true:=by simp only[ms,h]
theorem vo{q:Int}(h:fa ρ st=.ok (.int q) st1):r_ fa ρ st=.ok (.int (-q)) st1:=by unfold r_;rw[h];rfl
theorem Sx{c:String}(h:fa ρ st=.ok x st1)(hx:x.ty=some c)(hk:LA c T=k):wQ T fa ρ st=.ok (.bl k) st1:=by unfold wQ;rw[h];simp only[R.bind_ok,hx,hk]
theorem BG(h:fa ρ st=.ok x st1)(hk:x.isNon=k):zM fa ρ st=.ok (.bl k) st1:=by unfold zM;rw[h,<- hk];rfl
theorem fA(h:fa ρ st=.ok x st1)(hk:(!x.isNon)=k):iB fa ρ st=.ok (.bl k) st1:=by unfold iB;rw[h,<- hk];rfl
theorem tu:gM ρ st=.ok none st:=rfl
theorem nv{q:Int}(h:fa ρ st=.ok (.int q) st1):eW fa ρ st=.ok (some q) st1:=by unfold eW;rw[h];rfl
theorem ny{fl fh:FO}{l h:Option Int}(h1:fa ρ st=.ok x st1)(h2:fl ρ st1=.ok l c_)(h3:fh ρ c_=.ok h nL)(h4:wE x l h nL=.ok w UK):rk fa fl fh ρ st=.ok w UK:=by unfold rk;rw[h1];simp only[R.bind_ok];rw[h2];simp only[R.bind_ok];rw[h3];exact h4
theorem bb(h:fe ρ st=.ok w st1):bd i fe ρ st=.nx (ρ.set i (some w)) st1:=by unfold bd;rw[h];rfl
theorem dU(h:fe ρ st=.ok w st1):dm fe ρ st=.nx ρ st1:=by unfold dm;rw[h];rfl
theorem tw(h:fe ρ st=.ok w st1):cQ fe ρ st=.rt w st1:=by unfold cQ;rw[h];rfl
theorem E7{f:W->W->W->List au->Option (List au)}(h1:fe ρ st=.ok v st1)(h2:fo ρ st1=.ok x c_)(h3:fi ρ c_=.ok y nL)(h4:f x y v nL=some UK):Bw fo fi fe f ρ st=.nx ρ UK:=by
 unfold Bw;rw[h1];simp only[R.stmt_ok];rw[h2];simp only[R.stmt_ok];rw[h3];simp only[R.stmt_ok];rw[h4]
theorem dg{r:RS}(h1:t ρ st=.ok true st1)(h2:g ρ st1=r):gz t g g' ρ st=r:=by unfold gz;rw[h1];exact h2
theorem cz{r:RS}(h1:t ρ st=.ok false st1)(h2:g' ρ st1=r):gz t g g' ρ st=r:=by unfold gz;rw[h1];exact h2
theorem c9:bW ρ st=.nx ρ st:=rfl
theorem cZ{r:RS}(h:g ρ st=.nx ρ' st1)(h2:g' ρ' st1=r):aM g g' ρ st=r:=by rw[Ia h];exact h2
theorem sf(h:g ρ st=.rt w st1):aM g g' ρ st=.rt w st1:=by unfold aM;rw[h]
theorem dM{p q:Int}:cN (.int p) (.int q) st=.ok (.int (p+q)) st:=rfl
theorem DN{p q:List Nat}(h:p.length+q.length<=nO):cN (.str p) (.str q) st=.ok (.str (p++q)) st:=by simp only[cN];rw[aK h]
theorem Pf(h1:st[n]?=some (.lst ws))(h2:st[m]?=some (.lst xs))(h:(ws++xs).length<=nO):cN (.loc n) (.loc m) st=.ok #[5] (st++[.lst (ws++xs)]):=by
 unfold cN;simp only[h1,h2,qa];rw[aK h]
theorem jm{C:Int->Int->Prop}[∀i j,Decidable (C i j)]{f:Int->Int->Int}{p q:Int}(h:C p q):F9 C f (.int p) (.int q) st=.ok (.int (f p q)) st:=by simp only[F9];rw[aK h]
theorem sg{p q:Int}(h:OQ p q):jc (.int p) (.int q) st=.ok (.int (p*q)) st:=by simp only[jc];rw[aK h]
theorem lW{f:Int->Int->Bool}{p q:Int}(h:f p q=k):F_ f (.int p) (.int q) st=.ok (.bl k) st:=by rw[<- h];rfl
theorem BH{p q:Int}(h:decide (p<=q)=k):Gf (.int p) (.int q) st=.ok (.bl k) st:=by rw[<- h];rfl
theorem gj{p q:Int}(h:(p==q)=k):ku (.int p) (.int q) st=.ok (.bl k) st:=by rw[<- h];rfl
theorem E8{p q:Int}(h:(!(p==q))=k):Kz (.int p) (.int q) st=.ok (.bl k) st:=by rw[<- h];rfl
theorem dY{p q:List Nat}(h:(p==q)=k):ku (.str p) (.str q) st=.ok (.bl k) st:=by rw[<- h];rfl
theorem nT{q:Int}(h:uu ws q=some w):bu (.tup ws) (.int q) st=.ok w st:=by unfold bu;simp only[h,eY]
theorem kv(h:ρ[i]?=some (some w):=by rfl):ag i ρ st=.ok w st:=kz h
theorem ox{q:Int}(h:uu ws q=some w:=by rfl):bu (.tup ws) (.int q) st=.ok w st:=nT h
theorem kn(h:ρ[i]?=some (some w):=by rfl):ah (ag i) aD ρ st=.ok [w] st:=am (kz h) aQ
theorem kx{q:Int}(h:ρ[i]?=some (some (.tup ws)):=by rfl)(h2:uu ws q=some w:=by rfl):e2 bu (ag i) (eC (.int q)) ρ st=.ok w st:=bv (kz h) bI (nT h2)
theorem Ib{q:Int}{c:Nat}(hl:l.length<=nO)(h:uu l q=some c):bu (.str l) (.int q) st=.ok (.str [c]) st:=by unfold bu;simp only[h,eY];rw[aK hl]
theorem jN{q:Int}(hl:lstOf st n=some ws)(h:uu ws q=some w):bu (.loc n) (.int q) st=.ok w st:=by unfold bu;simp only[hl,h,eY]
theorem DO:dG [.tup ws] st=.ok (.int ws.length) st:=rfl
theorem zW(h:l.length<=nO):dG [.str l] st=.ok (.int l.length) st:=by unfold dG;simp only;rw[aK h]
theorem oG(hl:lstOf st n=some ws):dG [.loc n] st=.ok (.int ws.length) st:=by unfold dG;simp only[hl,eY]
theorem bX(h:st[n]?=some (.lst ws)):lstOf st n=some ws:=by unfold lstOf;rw[h]
theorem tz(h:st[n]?=some (.ro ws)):lstOf st n=some ws:=by unfold lstOf;rw[h]
theorem pG(h:st[n]?=some (.lst ws))(hl:ws.length<nO):cu (.loc n) [y] st=.ok .non (st.set n (.lst (ws++[y]))):=by unfold cu;simp only[h];rw[aK hl]
theorem BI(h:st[n]?=some (.lst (ws++[y]))):qZ (.loc n) [] st=.ok y (st.set n (.lst ws)):=by unfold qZ;simp only[h];simp
theorem Pg{q:Int}(h:st[n]?=some (.lst ws))(hi:EI ws.length q=some j):rC (.loc n) (.int q) v st=some (st.set n (.lst (ws.set j v))):=by unfold rC;simp only[h,hi];rfl
theorem DP{sep:List Nat}(h:lstOf st n=some (ls.map W.str))(hl:(ls.map List.length).sum+ls.length*sep.length<=nO):pF (.str sep) [.loc n] st=.ok (.str (mq sep ls)) st:=by
 unfold pF;simp only[h,eY,yS];rw[aK hl]
theorem MF{l h:Option Int}(hl:lstOf st n=some ws):wE (.loc n) l h st=.ok #[5] (st++[.lst (j4 ws l h)]):=by unfold wE;simp only[hl,eY]
theorem Ic{l h:Option Int}{z:List Nat}(hl:z.length<=nO):wE (.str z) l h st=.ok (.str (j4 z l h)) st:=by unfold wE;simp only;rw[aK hl]
theorem BJ{l h:Option Int}:wE (.tup ws) l h st=.ok (.tup (j4 ws l h)) st:=rfl
theorem zX(h:fe ρ st=.ok (.tup ws) st1):ic fe ρ st=.ok (ws,none) st1:=by unfold ic;rw[h];rfl
theorem zY(h:fe ρ st=.ok (.loc n) st1)(hl:lstOf st1 n=some ws):ic fe ρ st=.ok (ws,some (n,ws)) st1:=by unfold ic;rw[h];simp only[R.bind_ok,hl]
theorem j8{q:Int}(h:fs ρ st=.ok [.int q] st1)(hq:-(2^62)<=q/\q<2^62):dP fs ρ st=.ok (gN 0 q.toNat,none) st1:=by unfold dP;rw[h];simp only[R.bind_ok];rw[aK hq]
theorem wY{l:List W}{q:Nat}(h:l.reverse[q]?=some x):uu l (-((q:Int)+1))=some x:=by
 have hq:q<l.length:=by have:=(ax.mp h).1;simpa using this
 unfold uu EI
 rw[aU #[0],aK #[0]]
 rw[fT hq]at h
 simp only[Option.bind_some]
 rw[show((-((q:Int)+1))+(l.length:Int)).toNat=l.length-1-q by omega]
 exact h
theorem fW{l:List α}{q:Nat}{x:α}(h:l[q]?=some x):uu l (q:Int)=some x:=by
 have hq:q<l.length:=(ax.mp h).1
 unfold uu EI
 rw[aK #[0],aK #[0]]
 simpa using h
def k6(P:RS->Prop)(r:RS):Prop:=P r
def KB(I:cV->List au->Prop):RS->Prop:=fun r=>∃ρ st,r=.nx ρ st/\I ρ st
def A7(I:W->List au->Prop):RS->Prop:=fun r=>∃w st,r=.rt w st/\I w st
variable{P:RS->Prop}{gK:FS}
theorem dh{r r':RS}(h:r=r')(h2:P r'):k6 P r:=by rw[h];exact h2
theorem az(h:g ρ st=.nx ρ' st1)(h2:k6 P (g' ρ' st1)):k6 P (aM g g' ρ st):=by rw[Ia h];exact h2
theorem vp(h1:t ρ st=.ok true st1)(h2:k6 P (g ρ st1)):k6 P (gz t g g' ρ st):=by rw[dg h1 rfl];exact h2
theorem m7(h1:t ρ st=.ok false st1)(h2:k6 P (g' ρ st1)):k6 P (gz t g g' ρ st):=by rw[cz h1 rfl];exact h2
theorem eR(h1:t ρ st=.ok true st1)(h2:k6 P (aM g gK ρ st1)):k6 P (aM (gz t g g') gK ρ st):=by
 unfold aM at h2 ⊢;rw[dg h1 rfl];exact h2
theorem bC(h1:t ρ st=.ok false st1)(h2:k6 P (aM g' gK ρ st1)):k6 P (aM (gz t g g') gK ρ st):=by
 unfold aM at h2 ⊢;rw[cz h1 rfl];exact h2
theorem uL{h:FS}(h2:k6 P (aM g (aM g' h) ρ st)):k6 P (aM (aM g g') h ρ st):=by
 unfold aM at h2 ⊢
 cases e:g ρ st<;>simp only[e]at h2 ⊢ <;> exact h2
theorem bV(h2:k6 P (gK ρ st)):k6 P (aM bW gK ρ st):=h2
theorem bP(h:fe ρ st=.ok w st1)(h2:P (.rt w st1)):k6 P (cQ fe ρ st):=by rw[tw h];exact h2
theorem eG(h:fe ρ st=.ok w st1)(h2:P (.rt w st1)):k6 P (aM (cQ fe) gK ρ st):=by rw[sf (tw h)];exact h2
theorem gC{fi:FI}{f:FG}{body:FS}{k:HH}(I:Nat->cV->List au->Prop)(h:fi ρ st=.ok k st1)(h0:I 0 ρ st1)(hc:∀i ρ st,I i ρ st->mZ st k.2)
  (hs:∀i w ρ st,k.1[i]?=some w->I i ρ st->∃ρ',f w ρ=some ρ'/\k6 (KB (I (i+1))) (body ρ' st)) (he:∀ρ st,I k.1.length ρ st->k6 P (gK ρ st)):k6 P (aM (mS fi f body) gK ρ st):=by
 obtain⟨ρ2,c_,e,h2⟩:=wX (f:=f) (body:=body) (ck:=k.2) I (ws:=k.1) (ρ:=ρ) (st:=st1) 0 h0 hc fun i w ρ st hw hI=>by
  rw[mf]at hI ⊢
  obtain⟨ρ',e1,ρ2,c_,e2,h2⟩:=hs i w ρ st hw hI
  exact⟨ρ',ρ2,c_,e1,e2,h2⟩
 rw[mf]at h2
 exact az (by rw[E5 h];exact e) (he _ _ h2)
theorem yZ{body:FS}(I:Nat->cV->List au->Prop)(n:Nat)(h0:I n ρ st)
  (hs:∀n ρ st,I n ρ st->t ρ st=.ok false st\/(t ρ st=.ok true st/\k6 (KB fun ρ2 c_=>∃m,m<n/\I m ρ2 c_) (body ρ st))) (he:∀m ρ st,I m ρ st->t ρ st=.ok false st->k6 P (gK ρ st)):k6 P (aM (oz t body) gK ρ st):=by
 obtain⟨m,ρ2,c_,e,h2,h3⟩:=Gj (t:=t) (g:=body) I n h0 fun n ρ st hI=>by
  rcases hs n ρ st hI with e|⟨e,ρ2,c_,e2,m,hm,h2⟩
  ·exact .inl e
  ·exact .inr ⟨e,ρ2,c_,m,e2,hm,h2⟩
 exact az e (he _ _ _ h2 h3)
theorem tD{body:FS}{Q:W->Prop}(h:k6 (A7 fun w bg=>(∃x,bg=st++x)/\undWs st.length [w]=true/\Q w) (body #[12] st)):∃w,Q w/\c8 N body ws st=.ok w st:=by
 obtain⟨w,bg,e,⟨x,rfl⟩,hu,q⟩:=h
 exact⟨w,q,BF e hu⟩
theorem fq{N:Nat}{body:FS}(h:k6 (A7 fun w' bg=>w'=w/\∃x,bg=st++x) (body #[12] st))(hu:undWs st.length [w]=true):c8 N body ws st=.ok w st:=by
 obtain⟨w,bg,e,rfl,x,rfl⟩:=h
 exact BF e hu
theorem vU{body:FS}{Q:Nat->List au->Prop}(h:k6 (A7 fun w bg=>∃j x,w=.loc (st.length+j)/\bg=st++x/\Q j x) (body #[12] st)):∃j x,Q j x/\c8 N body ws st=.ok (.loc (st.length+j)) (st++x):=by
 obtain⟨w,bg,e,j,x,rfl,rfl,q⟩:=h
 exact⟨j,x,q,H_ e⟩
theorem kJ{lo:Int}(h:(gN lo q)[i]?=some w):i<q/\w=.int (lo+i):=by
 unfold gN at h
 obtain⟨h1,h2⟩:=ax.mp h
 simp only[aE,ng]at h1
 exact⟨h1,by rw[<- h2];simp⟩
theorem m8{l:List α}{q:Nat}(h:q<=l.length):j4 l none (some (q:Int))=l.take q:=by
 unfold j4;rw[HT.sIx_none,HT.sIx_nat,gb h];simp
theorem tF{l:List α}(h:q<=l.length):j4 l (some (q:Int)) none=l.drop q:=by
 unfold j4;rw[HT.sIx_none,HT.sIx_nat,gb h];rw[bj #[15]]
theorem hW{q:Int}{n:Nat}(h:0<n):∃m:Nat,m<n/\q%(n:Int)=m:=by
 have h0:0<=q%(n:Int):=jA _ #[0]
 have h1:q%(n:Int)<n:=mO _ #[0]
 exact⟨(q%(n:Int)).toNat,by omega,by omega⟩
end
section
variable{u:FT}{a b k:Bool}{P:RS->Prop}{g g' gK:FS}{w:W}
theorem Ph(h1:t ρ st=.ok a st)(h2:u ρ st=.ok b st):Ky t u ρ st=.ok (a&&b) st:=by cases a;exact zV h1;exact tm h1 h2
theorem Ie(h1:t ρ st=.ok a st)(h2:u ρ st=.ok b st):F8 t u ρ st=.ok (a||b) st:=by cases a;exact m6 h1 h2;exact E6 h1
theorem Pi(h1:t ρ st=.ok a st):A6 t ρ st=.ok (!a) st:=nS h1 rfl
theorem fg{body:FS}(h:k6 (A7 fun w' bg=>w'=w/\bg=st) (body #[12] st)):c8 N body ws st=.ok w st:=by
 obtain⟨w,bg,e,rfl,rfl⟩:=h
 exact qT e
end
end L2
open L2
local macro_rules | `(tactic| walk_at "ev1") => `(tactic| first
 | (with_reducible apply kz) <;> rfl
 | (with_reducible apply nT) <;> rfl
 | with_reducible first
  | exact bI | exact aQ | exact Pe | exact tu | exact dM | exact DO | exact c9 | exact BJ
  | apply bv | apply am | apply eQ | apply qh | apply cq | apply bU | apply aY | apply nS | apply Sw
  | apply jU | apply LO | apply vo | apply Sx | apply BG | apply fA | apply nv | apply ny | apply bb | apply dU | apply tw | apply E7
  | apply jm | apply sg | apply lW | apply BH | apply gj | apply E8 | apply dY | apply DN
 | decide
 | (show List.length _ <= nO; exact ao rfl)
 | (show @Eq Nat _ _; exact rfl)
 | (show @Eq Bool _ _; exact rfl)
 | (show @Eq (Option String) _ _; exact rfl)
 | (show @Eq _ _ _; with_reducible assumption))
local macro_rules | `(tactic| walk_at "evs") => `(tactic| repeat' walk_at "ev1")
local macro_rules | `(tactic| walk_at "tst") => `(tactic| first
 | (walk_at "evs"; done)
 | (apply zV; (focus walk_at "tst"); done)
 | (apply tm; (focus walk_at "tst"); (focus walk_at "tst"); done)
 | (apply E6; (focus walk_at "tst"); done)
 | (apply m6; (focus walk_at "tst"); (focus walk_at "tst"); done))
local macro_rules | `(tactic| walk_at "go1") => `(tactic| first
 | apply bV
 | (apply eG; (focus (walk_at "evs"; done)))
 | (apply bP; (focus (walk_at "evs"; done)))
 | (apply eR; (focus walk_at "tst"))
 | (apply bC; (focus walk_at "tst"))
 | (apply vp; (focus walk_at "tst"))
 | (apply m7; (focus walk_at "tst"))
 | (apply az; (focus (walk_at "evs"; done))))
local macro_rules | `(tactic| walk_at "go") => `(tactic| repeat walk_at "go1")
local macro_rules | `(tactic| walk_at "tb") => `(tactic| repeat' (first | with_reducible apply Ph | with_reducible apply Ie | with_reducible apply Pi | walk_at "ev1"))
local macro_rules | `(tactic| walk_at "len") => `(tactic| (simp only [ai, bZ, List.length_nil]; show _ <= 1000000; omega))
namespace L2
open PySem PySem.Spec PyProof.Rows
section
variable{ρ' ρ2:cV}{c_:List au}{fs:FA}{g gh gK:FS}{w:W}{c:Str}{cs:List Str}{P:RS->Prop}{b:Bool}
def Wq(c:Str)(I:List au->Prop):RS->Prop:=fun r=>∃ρ st,r=.ex c ρ st/\I st
theorem vV{N:Nat}{body:FS}(h:k6 (Wq c fun bg=>∃x,bg=st++x) (body #[12] st)):c8 N body ws st=.ex c st:=by
 obtain⟨ρ,bg,e,x,rfl⟩:=h
 unfold c8
 rw[e]
 simp only[uK (st:=st) (x:=x) (ws:=[]) rfl]
theorem BK{N:Nat}{body:FS}(h:k6 (KB fun _ bg=>∃x,bg=st++x) (body #[12] st)):c8 N body ws st=.ok .non st:=by
 obtain⟨ρ,bg,e,x,rfl⟩:=h
 unfold c8
 rw[e]
 simp only[uK (st:=st) (x:=x) (ws:=[]) rfl]
theorem rE(h:P (.ex c ρ st)):k6 P (aM (uJ c) gK ρ st):=h
theorem Ig(h1:fs ρ st=.ok ws st1)(h2:F ws st1=.ex c c_)(hn:ws.length=n):b7 n F fs ρ st=.ex c c_:=by unfold b7;rw[h1];simp only[R.bind_ok];rw[aK hn];exact h2
theorem Ih(h:fe ρ st=.ex c st1):bd i fe ρ st=.ex c ρ st1:=by unfold bd;rw[h];rfl
theorem BL(h:fe ρ st=.ex c st1):cQ fe ρ st=.ex c ρ st1:=by unfold cQ;rw[h];rfl
theorem DQ(h:g ρ st=.ex c ρ' st1)(h2:P (.ex c ρ' st1)):k6 P (aM g gK ρ st):=by unfold aM;rw[h];exact h2
theorem Ii(h:g ρ st=.ex c ρ' st1)(hc:c∈cs)(h2:gh (ρ'.set i (some (.loc st1.length))) (st1++[.exc c])=.nx ρ2 c_):HP g cs i gh ρ st=.nx (ρ2.set i none) c_:=by
 unfold HP;rw[h];simp only;rw[aK hc,h2];rfl
theorem BM{f:Str->Option Bool}(h:fa ρ st=.ok (.loc n) st1)(hc:st1[n]?=some (.exc c))(hf:f c=some b):wS f fa ρ st=.ok (.bl b) st1:=by
 unfold wS;rw[h];simp only[R.bind_ok,hc,hf]
theorem Sy{p q:Bool}(h:(p==q)=b):ku (.bl p) (.bl q) st=.ok (.bl b) st:=by rw[<- h];rfl
theorem vW(I:cV->List au->Prop)(h:k6 (KB I) (g ρ st))(h2:∀ρ st,I ρ st->k6 P (gK ρ st)):k6 P (aM g gK ρ st):=by
 obtain⟨ρ',bg,e,hi⟩:=h
 exact az e (h2 _ _ hi)
end
section
variable{f:FG}
theorem BN{ρ0:cV}(hc:mZ st ck)(T:W->Bool)(Y:W->W):∀(ws ju:List W),(∀w∈ws,∃ρ',f w ρ0=some ρ'/\t ρ' st=.ok (T w) st/\(T w=true->el ρ' st=.ok (Y w) st)) ->
  sZ f t el ck ρ0 ws ju st=.ok (ju++(ws.filter T).map Y) st
 |[],ju,_=>by unfold sZ;rw[aK hc];simp
 |w::ws,ju,h=>by
  obtain⟨ρ',e1,e2,e3⟩:=h w #[15]
  have ih:=fun ju=>BN hc T Y ws ju fun w' hw'=>h w' (by simp[hw'])
  unfold sZ
  rw[aK hc,e1]
  simp only[e2]
  cases hT:T w with
  |true=>
   simp only[e3 hT]
   rw[ih]
   simp[List.filter_cons,hT]
  |false=>
   simp only
   rw[ih]
   simp[List.filter_cons,hT]
theorem DR(T:W->Bool)(Y:W->W)(h:fi ρ st=.ok (ws,ck) st1)(hl:ws.length<=nO)(hc:mZ st1 ck)
  (hs:∀w∈ws,∃ρ',f w (uG cap ρ)=some ρ'/\t ρ' st1=.ok (T w) st1/\(T w=true->el ρ' st1=.ok (Y w) st1)):k_ cap fi f t el ρ st=.ok (.loc st1.length) (st1++[.lst ((ws.filter T).map Y)]):=by
 unfold k_
 rw[h]
 simp only[R.bind_ok]
 rw[aK hl,BN hc T Y ws [] hs]
 simp only[R.bind_ok,eJ,qa]
 rw[aK]
 rw[aE]
 exact aN (kD _ _) hl
theorem E9(Y:W->W)(h:fi ρ st=.ok (ws,ck) st1)(hl:ws.length<=nO)(hc:mZ st1 ck)
  (hs:∀w∈ws,∃ρ',f w (uG cap ρ)=some ρ'/\el ρ' st1=.ok (Y w) st1):k_ cap fi f x8 el ρ st=.ok (.loc st1.length) (st1++[.lst (ws.map Y)]):=by
 have:=DR (fi:=fi) (f:=f) (t:=x8) (el:=el) (cap:=cap) (fun _=>true) Y h hl hc fun w hw=>by
  obtain⟨ρ',e1,e2⟩:=hs w hw
  exact⟨ρ',e1,rfl,fun _=>e2⟩
 rw[lY.mpr (fun _ _=>rfl)]at this
 exact this
theorem y0{lo:Int}{w:W}(h:w∈gN lo q):∃i:Nat,i<q/\w=.int (lo+i):=by
 unfold gN at h
 obtain⟨i,hi,rfl⟩:=c7.mp h
 exact⟨i,mD.mp hi,rfl⟩
theorem oH(h:lstOf st n=some ws):je [.loc n] st=.ok (.tup ws) st:=by unfold je;simp only[h,eY]
theorem Ij{xs:List W}(h:(ws++xs).length<=nO):cN (.tup ws) (.tup xs) st=.ok (.tup (ws++xs)) st:=by simp only[cN,rj];rw[aK h]
theorem Sz{p q:Int}:DA [.int p,.int q] st=.ok (.int (if q>p then q else p)) st:=rfl
theorem Ik{l:List α}(hj:j<=l.length)(hi:i<=j):j4 l (some (i:Int)) (some (j:Int))=(l.drop i).take (j-i):=by
 unfold j4;rw[HT.sIx_nat,HT.sIx_nat,gb hj,gb #[0]]
theorem Il{l:List α}:j4 l none (some (-1))=l.dropLast:=by
 unfold j4
 rw[HT.sIx_none]
 have:HT.sIx l.length l.length (some (-1))=l.length-1:=by
  show(if (-1:Int)<0 then(-1+(l.length:Int)).toNat else min (-1:Int).toNat l.length)=_
  rw[aK #[0]]
  omega
 rw[this,pZ];simp
end
open Builtin Builtin.Str
theorem y4{c:Nat}:∀ws:List (List Nat),(∀w∈ws,c∉w)->(mq [c] ws).filter (fun d=>d != c)=ws.flatten
 |[],_=>rfl
 |[x],h=>by
  have hx:c∉x:=h x #[15]
  show x.filter _=_
  rw[lY.mpr fun d hd=>by simp;rintro rfl;exact hx hd]
  simp
 |x::y::r,h=>by
  have hx:c∉x:=h x #[15]
  show(x++[c]++mq [c] (y::r)).filter _=_
  rw[List.filter_append,List.filter_append,y4 (y::r) fun w hw=>h w (aW _ hw),lY.mpr fun d hd=>by simp;rintro rfl;exact hx hd]
  simp
theorem LP(l:List Nat)(c:Nat):Txt.replace (tx l) (tx [c]) (tx [])=tx (l.filter fun d=>d != c):=by
 obtain⟨f,hg,hfree⟩:=StrLaws.occ_tight (tx l) (tx [c]) (by simp[tx,Str.length])
 obtain⟨f',hc⟩:=StrLaws.occ_chain (tx l) (tx [c]) ((tx l).length+1)
 have pf:=StrLaws.parts_free (tx l) c _ 0 f hg hfree
 have pj:=StrLaws.join_partsFrom (tx l) (tx [c]) _ 0 f' hc
 rw[StrLaws.sub_whole]at pj
 unfold Txt.replace
 rw[StrLaws.partsBetween_eq]
 have pe:(occurrences (tx l) (tx [c]) 0 (tx l).length ((tx l).length+1)).isEmpty=true->StrLaws.partsFrom (tx l) (tx [c]).length 0 (occurrences (tx l) (tx [c]) 0 (tx l).length ((tx l).length+1))=[tx l]:=fun h=>by
  rw[List.isEmpty_iff.mp h]
  show[strSub (tx l) 0 (tx l).length]=_
  rw[StrLaws.sub_whole]
 generalize occurrences (tx l) (tx [c]) 0 (tx l).length ((tx l).length+1)=os at pf pj pe ⊢
 have pf:∀p∈StrLaws.partsFrom (tx l) (tx [c]).length 0 os,c∉p.cps.toList:=pf
 generalize StrLaws.partsFrom (tx l) (tx [c]).length 0 os=ps at pf pj pe ⊢
 have em:ps=(ps.map fun z=>z.cps.toList).map tx:=by
  rw[cn]
  conv=>lhs;rw[<- jT ps]
  exact fx fun z _=>(RM z).symm
 have fr:∀w∈ps.map (fun z=>z.cps.toList),c∉w:=fun w hw=>by
  obtain⟨p,hp,rfl⟩:=c7.mp hw
  exact pf p hp
 generalize ps.map (fun z=>z.cps.toList)=ws at em fr
 subst em
 have ej:∀sep:List Nat,Str.join (tx sep) (ws.map tx)=tx (mq sep ws):=fun sep=>by
  rw[<- EO sep ws]
  show _=glued _ _
  rw[iA]
 rw[ej]at pj
 have el:mq [c] ws=l:=Do.mp pj
 have hfl:=y4 ws fr
 rw[el]at hfl
 split
 ·rename_i h
  rw[show((tx [c]).length==0&&(tx []).length==0)=false from rfl,nG]at h
  have e1:=pe h
  have:ws.flatten=l:=by
   have e2:ws=[l]:=by
    cases ws with
    |nil=>cases e1
    |cons a r=>
     cases r with
     |nil=>simp only[bq,List.map_nil,List.cons.injEq,and_true]at e1;rw[Do.mp e1]
     |cons _ _=>simp at e1
   rw[e2];simp
  rw[hfl,this]
 ·rw[iA,ej,nN,hfl]
section
variable{to:TE}
def SC(to te:TE):TE:=fun σ H Q=>to σ H fun x H1=>(∃l,x=.str (tx l))/\te σ H1 fun y H2=>∃l c,x=.str (tx l)/\y=.str (tx [c])/\l.length<=1000000/\Q (.str (tx (l.filter fun d=>d != c))) H2
theorem LQ(ho:PE X o to)(he:PE X e te)
  (kg:attributeBase o "replace" X.env (eval o X.env)=eval o X.env)
  (sD:((backTo eM (starEach [e,.Constant (.str (tx [])) j p2] X.env)).all (fun x=>!x.1)&&(backToKw eM (keywordEach [] X.env)).all (fun x=>x.1.isSome)
   && decide ([e,.Constant (.str (tx [])) j p2].length+([]:List Keyword).length+(if ([]:List Keyword).isEmpty then 0 else 1)<30))=true)
  (lh:(gR.endLine==eM.line)=true) (hs:starEach [e,.Constant (.str (tx [])) j p2] X.env=(false,eval e X.env)::starEach [.Constant (.str (tx [])) j p2] X.env) :
  PE X (.Call (.Attribute o "replace" gR) [e,.Constant (.str (tx [])) j p2] [] eM) (SC to te):=by
 intro ak s σ H Q I h
 refine ph kg sD lh rfl (kr (ho ak s σ H _ I h) fun v s1 kt1 zq=>?_)
 obtain⟨x,H1,I1,r1,ty,q1⟩:=zq
 obtain⟨h1,h2⟩:=Dk I1 r1 (EQ ty)
 refine⟨"str",_,F.plainAttrs_str,F.slot_str_replace,F.type_str_replace,h1,h2,?_⟩
 rw[hs]
 refine ki rfl (lr ?_)
 show wpAny _ _ (spliced ((false,eval e X.env)::backTo eM (starEach [.Constant (.str (tx [])) j p2] X.env))) _ _ s1
 refine fO (kr (he ak s1 σ H1 _ I1 q1) fun u s2 kt2 zq=>?_)
 obtain⟨y,H2,I2,r2,l,c,ex,ey,hl,q2⟩:=zq
 subst ex ey
 obtain⟨t,rfl⟩:=r1.up kt2
 obtain⟨t2,rfl⟩:=r2
 show wpAny _ _ (spliced ((false,eval (.Constant (.str (tx [])) j p2) X.env)::backTo eM (starEach [] X.env))) _ _ s2
 refine fO (Calls.Constant_str ?_)
 show wpAny _ _ (spliced []) _ _ _
 refine iH ?_
 obtain⟨p1,p2⟩:=t2.2 rfl
 have n1:t2.1≠0:=et p1
 have n2:s2.toks≠0:=et I2.pos
 have n3:t2.1≠s2.toks:=a9 p2
 have e0:(tx []).length=0:=rfl
 have e1:(1000000:Nat)<=sizeLine:=by decide
 refine call_gives F.slot_str_replace (mH _ _ _) F.entry_str_replace (F.args_str_replace_3 _ _ _)
  (gives_str_replace (tx l) (tx [c]) (tx []) t.1 t2.1 s2.toks fun _=>⟨by simp[n1,n2],by simp[n3],rfl,?_⟩) ?_
 ·rw[e0,Nat.mul_zero,ud,jB]
  unfold tooLong
  exact a7 #[0]
 ·have hq:=LP l c
  unfold Txt.replace at hq
  cases hc:((occurrences (tx l) (tx [c]) 0 (tx l).length ((tx l).length+1)).isEmpty||((tx [c]).length==0&&(tx []).length==0))
  ·rw[hc]at hq
   simp only[fP,gW]at hq ⊢
   rw[hq]
   have I3:=I2.tok (s2.toks+1)
   refine⟨?_,⟨.str _,H2,I3.tok _,I3.tkS,q2⟩⟩
   rw[jB]
   exact aN (kD _ _) (aN hl e1)
  ·rw[hc]at hq
   simp only[gF]at hq ⊢
   rw[<- hq]at q2
   exact⟨.str (tx l),H2,I2.tok _,⟨t.up (bn _),rfl⟩,q2⟩
end
section
def Im:W->W->List au->R W
 |.str l,.str [c],st=>if l.length<=nO then .ok (.str (l.filter fun d=>d != c)) st else .bad
 |_,_,_=>.bad
def E_(fo fe:FE):FE:=fun ρ st=>(fo ρ st).bind fun x st=>if yR x then(fe ρ st).bind fun y st=>Im x y st else .bad
theorem Pj{z:Str}(ho:SE X o fo)(he:SE X e fe)(hz:z=tx []:=by first|rfl|decide +kernel)
  (kg:attributeBase o "replace" X.env (eval o X.env)=eval o X.env:=by rfl)
  (sD:((backTo eM (starEach [e,.Constant (.str z) j p2] X.env)).all (fun x=>!x.1)&&(backToKw eM (keywordEach [] X.env)).all (fun x=>x.1.isSome)
   && decide ([e,.Constant (.str z) j p2].length+([]:List Keyword).length+(if ([]:List Keyword).isEmpty then 0 else 1)<30))=true:=by rfl)
  (lh:(gR.endLine==eM.line)=true:=by rfl) (hs:starEach [e,.Constant (.str z) j p2] X.env=(false,eval e X.env)::starEach [.Constant (.str z) j p2] X.env:=by rfl) :
  SE X (.Call (.Attribute o "replace" gR) [e,.Constant (.str z) j p2] [] eM) (E_ fo fe):=⟨by
 subst hz
 refine(LQ ho.h he.h kg sD lh hs).imp fun σ H Q h=>?_
 walk_at "2"
 walk_at "1"
 cases x with
 |str z=>
  rw[aK (show yR (W.str z)=true from rfl)]at h1
  refine⟨⟨z,q1.strE⟩,μ1,ρ,st1,l1,RK.bind h1 l1 fun μ2 c_ y u H2 p2 x2 l2 q2 h2=>?_⟩
  unfold Im at h2
  split at h2
  ·rename_i l' c e1
   cases e1
   split at h2
   ·rename_i hl
    exact⟨_,c,q1.strE,q2.strE,hl,h2 μ2 _ H2 (aq _) fE.refl l2.sto .str⟩
   ·exact h2.elim
  ·exact h2.elim
 |_=>exact h1.elim⟩
theorem Pk{c_:List au}{c:Nat}(h1:fo ρ st=.ok (.str l) st1)(h2:fe ρ st1=.ok (.str [c]) c_)(hl:l.length<=nO):E_ fo fe ρ st=.ok (.str (l.filter fun d=>d != c)) c_:=by
 unfold E_
 rw[h1]
 simp only[R.bind_ok]
 rw[aK (show yR (W.str l)=true from rfl),h2]
 simp only[R.bind_ok]
 unfold Im
 simp only
 rw[aK hl]
end
end L2
namespace P
open PySem L2
open PyProof.Rows (boot_sorted boot_set boot_ord boot_all boot_enumerate boot_int boot_str boot_bool boot_list boot_tuple boot_isinstance boot_max boot_min boot_zip)
def i6(i:Nat):Stmt:=PySem.Challenge.pw_trunksay_k66_whole_to_and_fro.main.body.getD i (.Pass ⟨0,0,0,0⟩)
abbrev Pm:Stmt:=i6 13
abbrev DS:List Str:=["letters"]
abbrev SD:List Str:=["letters"]
theorem SF:ba DS SD (aO Pm):=ko
abbrev Po:Stmt:=i6 14
abbrev BO:List Str:=["names","marks","number","name"]
abbrev SH:List Str:=["names","marks"]
theorem BP:ba BO SH (aO Po):=ko
abbrev Pp:Stmt:=i6 17
abbrev DT:List Str:=["place"]
abbrev SJ:List Str:=["place"]
theorem SL:ba DT SJ (aO Pp):=ko
abbrev Pq:Stmt:=i6 18
abbrev BQ:List Str:=["place"]
abbrev SM:List Str:=["place"]
theorem SN:ba BQ SM (aO Pq):=ko
abbrev Pr:Stmt:=i6 19
abbrev DU:List Str:=["tree","links","tops","number","place","right","left"]
abbrev SQ:List Str:=["tree"]
theorem wZ:ba DU SQ (aO Pr):=ko
abbrev Ps:Stmt:=i6 20
abbrev Io:List Str:=["tree","lefts","rights","number","pair"]
abbrev SR:List Str:=["tree"]
theorem BR:ba Io SR (aO Ps):=ko
abbrev Pt:Stmt:=i6 21
abbrev Gk:List Str:=["ups","place"]
abbrev SU:List Str:=["ups","place"]
theorem SV:ba Gk SU (aO Pt):=ko
abbrev Pu:Stmt:=i6 22
abbrev DV:List Str:=["tree","sizes","left","right","size"]
abbrev SX:List Str:=["tree"]
theorem w4:ba DV SX (aO Pu):=ko
abbrev Pv:Stmt:=i6 23
abbrev x_:List Str:=["tree","place"]
abbrev SY:List Str:=["tree","place"]
theorem SZ:ba x_ SY (aO Pv):=ko
abbrev Ip:Stmt:=i6 24
abbrev zZ:List Str:=["size"]
abbrev MG:List Str:=["size"]
theorem Pw:ba zZ MG (aO Ip):=ko
abbrev Iq:Stmt:=i6 25
abbrev Gm:List Str:=["tree","place"]
abbrev MH:List Str:=["tree","place"]
theorem Px:ba Gm MH (aO Iq):=ko
abbrev Ir:Stmt:=i6 26
abbrev ya:List Str:=["tree","place","below","right_size","middle"]
abbrev MI:List Str:=["tree","place"]
theorem w5:ba ya MI (aO Ir):=ko
abbrev Iu:Stmt:=i6 27
abbrev DW:List Str:=["left","right","marks","branches"]
abbrev MJ:List Str:=["left","right","marks"]
theorem z_:ba DW MJ (aO Iu):=ko
abbrev Iv:Stmt:=i6 28
abbrev Aa:List Str:=["tree","place","side","other","branches","left","right","start","changed"]
abbrev MK:List Str:=["tree","place","side","other"]
theorem uM:ba Aa MK (aO Iv):=ko
abbrev Iw:Stmt:=i6 30
abbrev Ab:List Str:=["rooms","number"]
abbrev ML:List Str:=["rooms","number"]
theorem Py:ba Ab ML (aO Iw):=ko
abbrev Iy:Stmt:=i6 31
abbrev Gn:List Str:=["machine","marks","pair","rooms","leads"]
abbrev MM:List Str:=["machine","marks","pair","rooms"]
theorem Iz:ba Gn MM (aO Iy):=ko
abbrev IA:Stmt:=i6 32
abbrev DY:List Str:=["machine","tree","rooms","place","pair"]
abbrev MN:List Str:=["machine","tree"]
theorem Ac:ba DY MN (aO IA):=ko
abbrev IB:Stmt:=i6 34
abbrev IC:List Str:=["deed"]
abbrev MO:List Str:=["deed"]
theorem Pz:ba IC MO (aO IB):=ko
abbrev ID:Stmt:=i6 35
abbrev Ad:List Str:=["tree","place","marks"]
abbrev MP:List Str:=["tree","place","marks"]
theorem PB:ba Ad MP (aO ID):=ko
abbrev IE:Stmt:=i6 36
abbrev w6:List Str:=["machine","rooms","deed","old","new","start","middle","fresh"]
abbrev MQ:List Str:=["machine","rooms","deed"]
theorem si:ba w6 MQ (aO IE):=ko
abbrev IF:Stmt:=i6 37
abbrev Go:List Str:=["machine","tree","rooms","place","links","ups","fresh","many","at","room"]
abbrev MR:List Str:=["machine","tree","rooms","place"]
theorem oI:ba Go MR (aO IF):=ko
abbrev lH:Stmt:=(iZ (i6 38)).getD 0 (.Pass ⟨0,0,0,0⟩)
abbrev vD:List Str:=["self","machine","tree"]
abbrev pH:List Str:=["self","machine","tree"]
theorem uN:ba vD pH (aO lH):=ko
abbrev kK:Stmt:=(iZ (i6 38)).getD 1 (.Pass ⟨0,0,0,0⟩)
abbrev uO:List Str:=["self","deed","moved","above"]
abbrev nU:List Str:=["self","deed"]
theorem iD:ba uO nU (aO kK):=ko
abbrev mv:Stmt:=(iZ (i6 38)).getD 2 (.Pass ⟨0,0,0,0⟩)
abbrev w9:List Str:=["self","deed"]
abbrev qi:List Str:=["self","deed"]
theorem vE:ba w9 qi (aO mv):=ko
abbrev kL:Stmt:=(iZ (i6 38)).getD 3 (.Pass ⟨0,0,0,0⟩)
abbrev uP:List Str:=["self","place","marks"]
abbrev nV:List Str:=["self","place","marks"]
theorem tH:ba uP nV (aO kL):=ko
abbrev sk:Stmt:=(iZ (i6 38)).getD 4 (.Pass ⟨0,0,0,0⟩)
abbrev DZ:List Str:=["self","place","letter"]
abbrev w_:List Str:=["self","place","letter"]
theorem BS:ba DZ w_ (aO sk):=ko
abbrev qj:Stmt:=(iZ (i6 38)).getD 5 (.Pass ⟨0,0,0,0⟩)
abbrev BU:List Str:=["self","place","letter"]
abbrev vq:List Str:=["self","place","letter"]
theorem Ae:ba BU vq (aO qj):=ko
abbrev nz:Stmt:=(iZ (i6 38)).getD 6 (.Pass ⟨0,0,0,0⟩)
abbrev yb:List Str:=["self","place","side","tree","changed"]
abbrev rF:List Str:=["self","place","side","tree"]
theorem qk:ba yb rF (aO nz):=ko
abbrev oJ:Stmt:=(iZ (i6 38)).getD 7 (.Pass ⟨0,0,0,0⟩)
abbrev Af:List Str:=["self","tree"]
abbrev tI:List Str:=["self","tree"]
theorem yc:ba Af tI (aO oJ):=ko
abbrev ql:Stmt:=(iZ (i6 38)).getD 8 (.Pass ⟨0,0,0,0⟩)
abbrev BV:List Str:=["self","deed"]
abbrev vt:List Str:=["self"]
theorem tJ:ba BV vt (aO ql):=ko
abbrev oK:Stmt:=(iZ (i6 38)).getD 9 (.Pass ⟨0,0,0,0⟩)
abbrev Ag:List Str:=["self","deed"]
abbrev tK:List Str:=["self"]
theorem rG:ba Ag tK (aO oK):=ko
abbrev lI:Stmt:=(iZ (i6 38)).getD 10 (.Pass ⟨0,0,0,0⟩)
abbrev vF:List Str:=["self"]
abbrev pI:List Str:=["self"]
theorem uQ:ba vF pI (aO lI):=ko
abbrev kM:Stmt:=(iZ (i6 38)).getD 11 (.Pass ⟨0,0,0,0⟩)
abbrev uR:List Str:=["self"]
abbrev nX:List Str:=["self"]
theorem tL:ba uR nX (aO kM):=ko
abbrev lJ:Stmt:=(iZ (i6 38)).getD 12 (.Pass ⟨0,0,0,0⟩)
abbrev vG:List Str:=["self"]
abbrev pJ:List Str:=["self"]
theorem uS:ba vG pJ (aO lJ):=ko
abbrev IG:Stmt:=i6 40
abbrev BW:List Str:=["_law_script","_law_k"]
abbrev MS:List Str:=["_law_script","_law_k"]
theorem PD:ba BW MS (aO IG):=ko
abbrev IH:Stmt:=i6 41
abbrev Ah:List Str:=["_law_cell_here","_law_k","_law_salt","_law_first"]
abbrev MU:List Str:=["_law_cell_here","_law_k","_law_salt"]
theorem II:ba Ah MU (aO IH):=ko
abbrev IJ:Stmt:=i6 42
abbrev Ai:List Str:=["_law_cell_here","_law_many","_law_salt","_law_found","_law_rest","_law_k"]
abbrev MV:List Str:=["_law_cell_here","_law_many","_law_salt"]
theorem uT:ba Ai MV (aO IJ):=ko
abbrev IK:Stmt:=i6 43
abbrev BX:List Str:=["_law_found","_law_due","_law_k"]
abbrev IL:List Str:=["_law_found","_law_due"]
theorem IM:ba BX IL (aO IK):=ko
abbrev IN:Stmt:=i6 44
abbrev BY:List Str:=["_law_cell_here","_law_many","_law_salt","_law_rest","_law_found","_law_d","_law_at"]
abbrev MW:List Str:=["_law_cell_here","_law_many","_law_salt"]
theorem sm:ba BY MW (aO IN):=ko
abbrev IP:Stmt:=i6 45
abbrev Aj:List Str:=["_law_pool_here","_law_number"]
abbrev MX:List Str:=["_law_pool_here","_law_number"]
theorem PF:ba Aj MX (aO IP):=ko
abbrev IQ:Stmt:=i6 46
abbrev BZ:List Str:=["_law_draws_here","_law_pool_here","_law_found","_law_high","_law_d","_law_branches"]
abbrev MY:List Str:=["_law_draws_here","_law_pool_here"]
theorem qm:ba BZ MY (aO IQ):=ko
abbrev IR:Stmt:=i6 47
abbrev Ak:List Str:=["_law_tree_here","_law_heap","_law_found","_law_k","_law_left","_law_right"]
abbrev MZ:List Str:=["_law_tree_here"]
theorem qo:ba Ak MZ (aO IR):=ko
abbrev IS:Stmt:=i6 48
abbrev xa:List Str:=["_law_names","_law_many","_law_top","_law_draws_here","_law_good","_law_table","_law_at","_law_letter_here","_law_rows","_law_l"]
abbrev M0:List Str:=["_law_names","_law_many","_law_top","_law_draws_here"]
theorem qp:ba xa M0 (aO IS):=ko
abbrev IT:Stmt:=i6 49
abbrev yd:List Str:=["_law_names","_law_marks_here","_law_found","_law_name"]
abbrev M1:List Str:=["_law_names","_law_marks_here"]
theorem Al:ba yd M1 (aO IT):=ko
abbrev IU:Stmt:=i6 50
abbrev D0:List Str:=["_law_machine_here","_law_tree_here","_law_heap","_law_found","_law_branches","_law_marks_here","_law_left","_law_right"]
abbrev M2:List Str:=["_law_machine_here","_law_tree_here"]
theorem oM:ba D0 M2 (aO IU):=ko
abbrev IV:Stmt:=i6 51
abbrev B0:List Str:=["_law_machine_here","_law_tree_here"]
abbrev M3:List Str:=["_law_machine_here","_law_tree_here"]
theorem PH:ba B0 M3 (aO IV):=ko
abbrev IW:Stmt:=i6 52
abbrev Am:List Str:=["_law_links_here","_law_found","_law_left","_law_right","_law_many"]
abbrev M4:List Str:=["_law_links_here"]
theorem su:ba Am M4 (aO IW):=ko
abbrev IX:Stmt:=i6 53
abbrev yf:List Str:=["_law_tree_here","_law_place","_law_links_here","_law_sizes_here","_law_middle","_law_first"]
abbrev M5:List Str:=["_law_tree_here","_law_place"]
theorem sw:ba yf M5 (aO IX):=ko
abbrev IY:Stmt:=i6 54
abbrev vH:List Str:=["_law_tree_here","_law_place","_law_side","_law_other","_law_first","_law_middle","_law_left","_law_right","_law_top"]
abbrev M6:List Str:=["_law_tree_here","_law_place","_law_side","_law_other"]
theorem qr:ba vH M6 (aO IY):=ko
abbrev IZ:Stmt:=i6 55
abbrev An:List Str:=["_law_script","_law_sizes_here","_law_pool_here","_law_many","_law_names","_law_entries","_law_machine_here","_law_high"]
abbrev M7:List Str:=["_law_script"]
theorem nC:ba An M7 (aO IZ):=ko
abbrev I_:Stmt:=i6 56
abbrev xb:List Str:=["_law_script","_law_k","_law_most","_law_tree_here","_law_pool_here","_law_draws_here","_law_other","_law_kind","_law_place"]
abbrev M8:List Str:=["_law_script","_law_k","_law_most","_law_tree_here","_law_pool_here"]
theorem xc:ba xb M8 (aO I_):=ko
abbrev Ja:Stmt:=i6 57
abbrev xf:List Str:=["_law_tree_here","_law_deed","_law_branches","_law_marks_here"]
abbrev M9:List Str:=["_law_tree_here","_law_deed"]
theorem Ao:ba xf M9 (aO Ja):=ko
abbrev Jb:Stmt:=i6 58
abbrev Ap:List Str:=["_law_kept","_law_deed"]
abbrev M_:List Str:=["_law_kept","_law_deed"]
theorem PJ:ba Ap M_ (aO Jb):=ko
abbrev Jc:Stmt:=i6 59
abbrev yg:List Str:=["_law_kept","_law_machine_here","_law_tree_here","_law_turn","_law_k","_law_asked"]
abbrev M':List Str:=["_law_kept","_law_machine_here","_law_tree_here","_law_turn"]
theorem D1:ba yg M' (aO Jc):=ko
abbrev Jd:Stmt:=i6 60
abbrev xg:List Str:=["_law_kept","_law_deed","_law_told","e"]
abbrev Na:List Str:=["_law_kept","_law_deed"]
theorem xh:ba xg Na (aO Jd):=ko
abbrev Je:Stmt:=i6 61
abbrev yh:List Str:=["_law_kept","_law_machine_here","_law_trees","_law_at","_law_end","_law_deed","_law_to"]
abbrev Nb:List Str:=["_law_kept","_law_machine_here","_law_trees","_law_at","_law_end"]
theorem uU:ba yh Nb (aO Je):=ko
abbrev Jf:Stmt:=i6 62
abbrev uV:List Str:=["_law_kept","_law_machine_here","_law_tree_here","_law_deed","_law_due"]
abbrev Nc:List Str:=["_law_kept","_law_machine_here","_law_tree_here","_law_deed"]
theorem Jg:ba uV Nc (aO Jf):=ko
abbrev tM:Stmt:=i6 63
abbrev S5:List Str:=["_law_script","_law_machine_here","_law_tree_here","_law_pool_here","_law_kept","_law_twin","_law_trees","_law_many","_law_k","_law_deed","_law_other","_law_down","_law_up"]
abbrev Jh:List Str:=["_law_script"]
theorem iz:ba S5 Jh (aO tM):=ko
structure Bl(mg:Str->Option Value):Prop where
 ValueError:mg "ValueError"=Option.none
 bool:mg "bool"=Option.none
 enumerate:mg "enumerate"=Option.none
 int:mg "int"=Option.none
 isinstance:mg "isinstance"=Option.none
 len:mg "len"=Option.none
 list:mg "list"=Option.none
 max:mg "max"=Option.none
 min:mg "min"=Option.none
 range:mg "range"=Option.none
 set:mg "set"=Option.none
 sorted:mg "sorted"=Option.none
 str:mg "str"=Option.none
 tuple:mg "tuple"=Option.none
 zip:mg "zip"=Option.none
def nD:W:=.int 100
structure Gc(K:Frag)(mg:Str->Option Value):Prop where
 MOST_PLACES:∃u v,mg "MOST_PLACES"=some u/\dz 0 v u/\∀μ H,bM K μ H nD v
abbrev rH:List Str:=["TrunkError","NoPlace","TooGreat","NothingDone"]
def jD:Str->Option Bool:=fun c=>if c="TrunkError" then some false else if c="NoPlace" then some true else if c="TooGreat" then some false else if c="NothingDone" then some false else none
def fL:Str->Option Bool:=fun c=>if c="TrunkError" then some false else if c="NoPlace" then some false else if c="TooGreat" then some false else if c="NothingDone" then some true else none
def iM:Str->Option Bool:=fun c=>if c="TrunkError" then some false else if c="NoPlace" then some false else if c="TooGreat" then some true else if c="NothingDone" then some false else none
def xi:Str->Option Bool:=fun c=>if c="TrunkError" then some false else if c="NoPlace" then some false else if c="TooGreat" then some false else if c="NothingDone" then some false else none
def gs:Str->Option Bool:=fun c=>if c="TrunkError" then some true else if c="NoPlace" then some true else if c="TooGreat" then some true else if c="NothingDone" then some true else none
theorem LR:bootBuiltins "ValueError"=some (.type "ValueError"):=by first|rfl|kernel_rfl|decide +kernel
structure Cls(K:Frag)(mg:Str->Option Value):Prop where
 TrunkError:HN K mg "TrunkError"
 NoPlace:HN K mg "NoPlace"
 TooGreat:HN K mg "TooGreat"
 NothingDone:HN K mg "NothingDone"
 isi_NoPlace:∃Ta,mg "NoPlace"=some (.ref Ta)/\DJ K mg (.ref Ta) jD
 isi_NothingDone:∃Ta,mg "NothingDone"=some (.ref Ta)/\DJ K mg (.ref Ta) fL
 isi_TooGreat:∃Ta,mg "TooGreat"=some (.ref Ta)/\DJ K mg (.ref Ta) iM
 isi_t0:∃A0,∃A1,∃A2,∃A3,∃A4,∃A5,mg "NoTree"=some (.ref A0)/\mg "NoStatement"=some (.ref A1)/\mg "NoNumber"=some (.ref A2)/\mg "NoName"=some (.ref A3)/\mg "NoLine"=some (.ref A4)/\mg "NothingHeld"=some (.ref A5)/\HX K mg [A0,A1,A2,A3,A4,A5] xi
 isi_ValueError:DJ K mg (.type "ValueError") gs
 catch_TrunkError:HQ K mg "TrunkError" rH
structure Ow(K:Frag)(mg:Str->Option Value):Prop where
 Kept:Pc K mg "Kept" ["machine","many","rooms","standing","taken_back","tree"]
section
variable{w:World}{f:Addr}
def Vr:FS:=(cQ (KA pF (eC (.str [])) (ah (s_ (ag 0)) aD)))
def Ji:List W->List au->R W:=c8 1 Vr
theorem S6(F:iW K "in_order" "in_order" Pm f fd)(B:Bl mg) :c6 P w K mg base (iJ P w) 1 f fd SD (iY K mg 1 Ji):=
 bR (k:=0) F SF rfl fun fC A outer s H E hr=>(aH (bh (Ly PySem.F.slot_str_join PySem.F.type_str_join vR eZ (aa (Gh B.sorted B.set (ae 0)) ar))))
def S7:FS:=(aM (bd 2 (eI 0)) (aM (mS (ic (ag 0)) (kH 3) (aM (bd 2 (e2 jc (ag 2) (eI 2))) (gz (eO (e2 (GN false) (ag 3) (ag 1))) (bd 2 (e2 cN (ag 2) (eI 1))) bW))) (cQ (ag 2))))
def Jj:List W->List au->R W:=c8 4 S7
theorem S8(F:iW K "letter_of" "letter_of" Po f fd)  :c6 P w K mg base (iJ P w) 1 f fd SH (iY K mg 2 Jj):=
 bR (k:=0) F BP rfl fun fC A outer s H E hr=>(av (sS 2 BP aB) (av (iK (nr (ae 0)) (sG 3 BP) (av (sS 2 BP (bB j7 (ae 2) aB)) (aH (cH (cv (Lw hr) (ae 3) (ae 1)) (aH (sS 2 BP (bB cE (ae 2) aB))) bO)))) (aH (bh (ae 2)))))
def Vs:FS:=(cQ (e2 (GN false) (e2 bu (ag 0) (eI 0)) (fJ (ah (eI 1) (ah (eI 3) aD)))))
def Aq:List W->List au->R W:=c8 1 Vs
theorem S9(F:iW K "has_left" "has_left" Pp f fd)  :c6 P w K mg base (iJ P w) 1 f fd SJ (iY K mg 1 Aq):=
 bR (k:=0) F SL rfl fun fC A outer s H E hr=>(aH (bh (sV (Lw hr) (be (ae 0) aB) (dX (aa aB (aa aB ar))))))
def Vt:FS:=(cQ (e2 (GN false) (e2 bu (ag 0) (eI 0)) (fJ (ah (eI 2) (ah (eI 3) aD)))))
def xj:List W->List au->R W:=c8 1 Vt
theorem S_(F:iW K "has_right" "has_right" Pq f fd)  :c6 P w K mg base (iJ P w) 1 f fd SM (iY K mg 1 xj):=
 bR (k:=0) F SN rfl fun fC A outer s H E hr=>(aH (bh (sV (Lw hr) (be (ae 0) aB) (dX (aa aB (aa aB ar))))))
def Tb:FS:=(aM (bd 1 (l6 aD)) (aM (bd 2 (l6 aD)) (aM (mS (r9 (ah (ag 0) aD)) (HG 2 (gq (kH 3) (gq (kH 4) rq))) (aM (bd 5 (GM (eO (b7 1 xj (ah (ag 4) aD))) (oE qZ (ag 2) aD) (eC .non))) (aM (bd 6 (GM (eO (b7 1 Aq (ah (ag 4) aD))) (oE qZ (ag 2) aD) (eC .non))) (aM (dm (oE cu (ag 2) (ah (ag 3) aD))) (dm (oE cu (ag 1) (ah (fJ (ah (ag 6) (ah (ag 5) aD))) aD))))))) (cQ (bJ je (ah (ag 1) aD))))))
def xk:List W->List au->R W:=c8 7 Tb
theorem Tc(F:iW K "links_of" "links_of" Pr f fd)(B:Bl mg)(QM:bQ P w K mg base 1 "has_left" 1 Aq)(GH:bQ P w K mg base 1 "has_right" 1 xj):c6 P w K mg base (iJ P w) 2 f fd SQ (iY K mg 1 xk):=
 bR (k:=1) F wZ rfl fun fC A outer s H E hr=>(av (sS 1 wZ (jK ar)) (av (sS 2 wZ (jK ar)) (av (iK (E2 B.enumerate (aa (ae 0) ar)) (oy rfl (d7 (sG 3 wZ) (d7 (sG 4 wZ) l_))) (av (sS 5 wZ (Dy (hU (bx GH hr #[0] (aa (ae 4) ar))) (vm PySem.F.slot_list_pop PySem.F.type_list_pop qf (ae 2)) p_)) (av (sS 6 wZ (Dy (hU (bx QM hr #[0] (aa (ae 4) ar))) (vm PySem.F.slot_list_pop PySem.F.type_list_pop qf (ae 2)) p_)) (av (cI (nP PySem.F.slot_list_append PySem.F.type_list_append dq (ae 2) (aa (ae 3) ar))) (aH (cI (nP PySem.F.slot_list_append PySem.F.type_list_append dq (ae 1) (aa (dX (aa (ae 6) (aa (ae 5) ar))) ar)))))))) (aH (bh (gg kZ B.tuple fw (aa (ae 1) ar)))))))
def PK:FS:=(aM (wF (k_ [none] (ic (ag 0)) (kH 0) x8 (eC .non)) (kH 1)) (aM (wF (k_ [none] (ic (ag 0)) (kH 0) x8 (eC .non)) (kH 2)) (aM (mS (r9 (ah (b7 1 xk (ah (ag 0) aD)) aD)) (HG 2 (gq (kH 3) (gq (kH 4) rq))) (aM (gz (eO (iB (e2 bu (ag 4) (eI 0)))) (Bw (ag 1) (e2 bu (ag 4) (eI 0)) (ag 3) rC) bW) (gz (eO (iB (e2 bu (ag 4) (eI 1)))) (Bw (ag 2) (e2 bu (ag 4) (eI 1)) (ag 3) rC) bW))) (cQ (fJ (ah (ag 1) (ah (ag 2) aD)))))))
def Jk:List W->List au->R W:=c8 5 PK
theorem Td(F:iW K "ups_of" "ups_of" Ps f fd)(B:Bl mg)(vP:bQ P w K mg base 2 "links_of" 1 xk):c6 P w K mg base (iJ P w) 3 f fd SR (iY K mg 1 Jk):=
 bR (k:=2) F BR rfl fun fC A outer s H E hr=>(av (r6 (sG 1 BR) (m:=0) (nm:=["place"]) (cap:=[none]) (by first|rfl|kernel_rfl) rfl (nr (ae 0)) (fun _ _ _ _ _=>(sC 0)) (fun _ _ _ _ _=>vS) (fun _ _ _ _ _=>p_)) (av (r6 (sG 2 BR) (m:=0) (nm:=["place"]) (cap:=[none]) (by first|rfl|kernel_rfl) rfl (nr (ae 0)) (fun _ _ _ _ _=>(sC 0)) (fun _ _ _ _ _=>vS) (fun _ _ _ _ _=>p_)) (av (iK (E2 B.enumerate (aa (bx vP hr #[0] (aa (ae 0) ar)) ar)) (oy rfl (d7 (sG 3 BR) (d7 (sG 4 BR) l_))) (av (cH (jr (be (ae 4) aB)) (aH (DE DD (ae 3) (ae 1) (be (ae 4) aB))) bO) (aH (cH (jr (be (ae 4) aB)) (aH (DE DD (ae 3) (ae 2) (be (ae 4) aB))) bO)))) (aH (bh (dX (aa (ae 1) (aa (ae 2) ar))))))))
def Vu:FS:=(cQ (GM (eO (iB (e2 bu (e2 bu (ag 0) (eI 0)) (ag 1)))) (e2 bu (e2 bu (ag 0) (eI 0)) (ag 1)) (e2 bu (e2 bu (ag 0) (eI 1)) (ag 1))))
def Gp:List W->List au->R W:=c8 2 Vu
theorem Te(F:iW K "up_from" "up_from" Pt f fd)  :c6 P w K mg base (iJ P w) 1 f fd SU (iY K mg 2 Gp):=
 bR (k:=0) F SV rfl fun fC A outer s H E hr=>(aH (bh (Dy (jr (be (be (ae 0) aB) (ae 1))) (be (be (ae 0) aB) (ae 1)) (be (be (ae 0) aB) (ae 1)))))
def Tf:FS:=(aM (bd 1 (l6 aD)) (aM (mS (ic (b7 1 xk (ah (ag 0) aD))) (HG 2 (gq (kH 2) (gq (kH 3) rq))) (aM (bd 4 (eI 1)) (aM (gz (eO (iB (ag 2))) (bd 4 (e2 cN (ag 4) (e2 bu (ag 1) (ag 2)))) bW) (aM (gz (eO (iB (ag 3))) (bd 4 (e2 cN (ag 4) (e2 bu (ag 1) (ag 3)))) bW) (dm (oE cu (ag 1) (ah (ag 4) aD))))))) (cQ (bJ je (ah (ag 1) aD)))))
def D2:List W->List au->R W:=c8 5 Tf
theorem Tg(F:iW K "sizes_of" "sizes_of" Pu f fd)(B:Bl mg)(vP:bQ P w K mg base 2 "links_of" 1 xk):c6 P w K mg base (iJ P w) 3 f fd SX (iY K mg 1 D2):=
 bR (k:=2) F w4 rfl fun fC A outer s H E hr=>(av (sS 1 w4 (jK ar)) (av (iK (nr (bx vP hr #[0] (aa (ae 0) ar))) (oy rfl (d7 (sG 2 w4) (d7 (sG 3 w4) l_))) (av (sS 4 w4 aB) (av (cH (jr (ae 2)) (aH (sS 4 w4 (bB cE (ae 4) (be (ae 1) (ae 2))))) bO) (av (cH (jr (ae 3)) (aH (sS 4 w4 (bB cE (ae 4) (be (ae 1) (ae 3))))) bO) (aH (cI (nP PySem.F.slot_list_append PySem.F.type_list_append dq (ae 1) (aa (ae 4) ar)))))))) (aH (bh (gg kZ B.tuple fw (aa (ae 1) ar))))))
def Th:FS:=(gz (F8 (eO (e2 Ls (ag 1) (eI 0))) (eO (e2 OT (ag 1) (bJ dG (ah (ag 0) aD))))) (uJ "NoPlace") bW)
def Ar:List W->List au->R W:=c8 2 Th
theorem Ti(F:iW K "check_place" "check_place" Pv f fd)(B:Bl mg)(C:Cls K mg) :c6 P w K mg base (iJ P w) 1 f fd SY (iY K mg 2 Ar):=
 bR (k:=0) F SZ rfl fun fC A outer s H E hr=>(aH (cH (zK (yM (cv w_lt (ae 1) aB) (uz (cv Lu (ae 1) (bS dO B.len bK (aa (ae 0) ar)))))) (aH (tf C.NoPlace)) bO))
def Jl:FS:=(gz (eO (e2 F' (ag 0) (eC nD))) (uJ "TooGreat") bW)
def y6:List W->List au->R W:=c8 1 Jl
theorem PL(F:iW K "check_size" "check_size" Ip f fd)(G:Gc K mg)(C:Cls K mg) :c6 P w K mg base (iJ P w) 1 f fd MG (iY K mg 1 y6):=
 bR (k:=0) F Pw rfl fun fC A outer s H E hr=>(aH (cH (cv x5 (ae 0) (Vj G.MOST_PLACES)) (aH (tf C.TooGreat)) bO))
def Nd:FS:=(aM (dm (b7 2 Ar (ah (ag 0) (ah (ag 1) aD)))) (cQ (rk (ag 0) (eW (e2 lD (e2 cN (ag 1) (eI 1)) (e2 bu (b7 1 D2 (ah (ag 0) aD)) (ag 1)))) (eW (e2 cN (ag 1) (eI 1))))))
def B1:List W->List au->R W:=c8 2 Nd
theorem PM(F:iW K "part_at" "part_at" Iq f fd) (AO:bQ P w K mg base 1 "check_place" 2 Ar)(GF:bQ P w K mg base 3 "sizes_of" 1 D2):c6 P w K mg base (iJ P w) 4 f fd MH (iY K mg 2 B1):=
 bR (k:=3) F Px rfl fun fC A outer s H E hr=>(av (cI (bx AO hr #[0] (aa (ae 0) (aa (ae 1) ar)))) (aH (bh (l9 (ae 0) (dr (bB jZ (bB cE (ae 1) aB) (be (bx GF hr #[0] (aa (ae 0) ar)) (ae 1)))) (dr (bB cE (ae 1) aB))))))
def Nf:FS:=(aM (bd 2 (rk (b7 2 B1 (ah (ag 0) (ah (ag 1) aD))) gM (eW (r_ (eI 1))))) (aM (bd 3 (eI 0)) (aM (gz (eO (b7 1 xj (ah (e2 bu (ag 0) (ag 1)) aD))) (bd 3 (e2 bu (b7 1 D2 (ah (ag 0) aD)) (e2 lD (ag 1) (eI 1)))) bW) (aM (bd 4 (e2 lD (bJ dG (ah (ag 2) aD)) (ag 3))) (cQ (fJ (ah (rk (ag 2) gM (eW (ag 4))) (ah (rk (ag 2) (eW (ag 4)) gM) aD))))))))
def rJ:List W->List au->R W:=c8 5 Nf
theorem PN(F:iW K "branches_at" "branches_at" Ir f fd)(B:Bl mg)(GH:bQ P w K mg base 1 "has_right" 1 xj)(Kb:bQ P w K mg base 4 "part_at" 2 B1)(GF:bQ P w K mg base 3 "sizes_of" 1 D2):c6 P w K mg base (iJ P w) 5 f fd MI (iY K mg 2 rJ):=
 bR (k:=4) F w5 rfl fun fC A outer s H E hr=>(av (sS 2 w5 (l9 (bx Kb hr #[0] (aa (ae 0) (aa (ae 1) ar))) e_ (dr (wL aB)))) (av (sS 3 w5 aB) (av (cH (hU (bx GH hr #[0] (aa (be (ae 0) (ae 1)) ar))) (aH (sS 3 w5 (be (bx GF hr #[0] (aa (ae 0) ar)) (bB jZ (ae 1) aB)))) bO) (av (sS 4 w5 (bB jZ (bS dO B.len bK (aa (ae 2) ar)) (ae 3))) (aH (bh (dX (aa (l9 (ae 2) e_ (dr (ae 4))) (aa (l9 (ae 2) (dr (ae 4)) e_) ar)))))))))
def Ng:FS:=(aM (bd 3 (eI 0)) (aM (gz (eO (e2 F' (bJ dG (ah (ag 0) aD)) (eI 0))) (bd 3 (e2 cN (ag 3) (eI 1))) bW) (aM (gz (eO (e2 F' (bJ dG (ah (ag 1) aD)) (eI 0))) (bd 3 (e2 cN (ag 3) (eI 2))) bW) (cQ (e2 cN (e2 cN (ag 0) (ag 1)) (fJ (ah (fJ (ah (ag 3) (ah (ag 2) aD))) aD)))))))
def B3:List W->List au->R W:=c8 4 Ng
theorem PP(F:iW K "with_top" "with_top" Iu f fd)(B:Bl mg) :c6 P w K mg base (iJ P w) 1 f fd MJ (iY K mg 3 B3):=
 bR (k:=0) F z_ rfl fun fC A outer s H E hr=>(av (sS 3 z_ aB) (av (cH (cv x5 (bS dO B.len bK (aa (ae 0) ar)) aB) (aH (sS 3 z_ (bB cE (ae 3) aB))) bO) (av (cH (cv x5 (bS dO B.len bK (aa (ae 1) ar)) aB) (aH (sS 3 z_ (bB cE (ae 3) aB))) bO) (aH (bh (bB cE (bB cE (ae 0) (ae 1)) (dX (aa (dX (aa (ae 3) (aa (ae 2) ar))) ar))))))))
def Jm:FS:=(aM (bd 4 (b7 2 rJ (ah (ag 0) (ah (ag 1) aD)))) (aM (bd 5 (GM (eO (e2 ku (ag 2) (eC (.str [108,101,102,116])))) (ag 3) (e2 bu (ag 4) (eI 0)))) (aM (bd 6 (GM (eO (e2 ku (ag 2) (eC (.str [114,105,103,104,116])))) (ag 3) (e2 bu (ag 4) (eI 1)))) (aM (bd 7 (e2 lD (e2 lD (ag 1) (bJ dG (ah (e2 bu (ag 4) (eI 0)) aD))) (bJ dG (ah (e2 bu (ag 4) (eI 1)) aD)))) (aM (bd 8 (e2 cN (e2 cN (rk (ag 0) gM (eW (ag 7))) (b7 3 B3 (ah (ag 5) (ah (ag 6) (ah (e2 bu (e2 bu (ag 0) (ag 1)) (eI 1)) aD))))) (rk (ag 0) (eW (e2 cN (ag 1) (eI 1))) gM))) (aM (dm (b7 1 y6 (ah (bJ dG (ah (ag 8) aD)) aD))) (cQ (ag 8))))))))
def B4:List W->List au->R W:=c8 9 Jm
theorem PQ(F:iW K "branch_put" "branch_put" Iv f fd)(B:Bl mg)(xJ:bQ P w K mg base 5 "branches_at" 2 rJ)(J3:bQ P w K mg base 1 "check_size" 1 y6)(Kh:bQ P w K mg base 1 "with_top" 3 B3):c6 P w K mg base (iJ P w) 6 f fd MK (iY K mg 4 B4):=
 bR (k:=5) F uM rfl fun fC A outer s H E hr=>(av (sS 4 uM (bx xJ hr #[0] (aa (ae 0) (aa (ae 1) ar)))) (av (sS 5 uM (Dy (cv (jd hr) (ae 2) eZ) (ae 3) (be (ae 4) aB))) (av (sS 6 uM (Dy (cv (jd hr) (ae 2) eZ) (ae 3) (be (ae 4) aB))) (av (sS 7 uM (bB jZ (bB jZ (ae 1) (bS dO B.len bK (aa (be (ae 4) aB) ar))) (bS dO B.len bK (aa (be (ae 4) aB) ar)))) (av (sS 8 uM (bB cE (bB cE (l9 (ae 0) e_ (dr (ae 7))) (bx Kh hr #[0] (aa (ae 5) (aa (ae 6) (aa (be (be (ae 0) (ae 1)) aB) ar))))) (l9 (ae 0) (dr (bB cE (ae 1) aB)) e_))) (av (cI (bx J3 hr #[0] (aa (bS dO B.len bK (aa (ae 8) ar)) ar))) (aH (bh (ae 8)))))))))
def Tj:FS:=(cQ (GM (eO (zM (ag 1))) (eI 0) (e2 bu (ag 0) (ag 1))))
def y7:List W->List au->R W:=c8 2 Tj
theorem PR(F:iW K "room_below" "room_below" Iw f fd)  :c6 P w K mg base (iJ P w) 1 f fd ML (iY K mg 2 y7):=
 bR (k:=0) F Py rfl fun fC A outer s H E hr=>(aH (bh (Dy (Dz (ae 1)) aB (be (ae 0) (ae 1)))))
def Tl:FS:=(aM (bd 4 (e2 bu (e2 bu (ag 0) (eI 2)) (b7 2 Jj (ah (e2 bu (ag 0) (eI 0)) (ah (ag 1) aD))))) (cQ (e2 bu (e2 bu (ag 4) (b7 2 y7 (ah (ag 3) (ah (e2 bu (ag 2) (eI 0)) aD)))) (b7 2 y7 (ah (ag 3) (ah (e2 bu (ag 2) (eI 1)) aD))))))
def tN:List W->List au->R W:=c8 5 Tl
theorem PU(F:iW K "room_at" "room_at" Iy f fd) (QU:bQ P w K mg base 1 "letter_of" 2 Jj)(Fq:bQ P w K mg base 1 "room_below" 2 y7):c6 P w K mg base (iJ P w) 2 f fd MM (iY K mg 4 tN):=
 bR (k:=1) F Iz rfl fun fC A outer s H E hr=>(av (sS 4 Iz (be (be (ae 0) aB) (bx QU hr #[0] (aa (be (ae 0) aB) (aa (ae 1) ar))))) (aH (bh (be (be (ae 4) (bx Fq hr #[0] (aa (ae 3) (aa (be (ae 2) aB) ar)))) (bx Fq hr #[0] (aa (ae 3) (aa (be (ae 2) aB) ar)))))))
def Nh:FS:=(aM (bd 2 (l6 aD)) (aM (mS (zT (ah (ag 1) (ah (b7 1 xk (ah (ag 1) aD)) aD))) (HG 2 (gq (kH 3) (gq (kH 4) rq))) (dm (oE cu (ag 2) (ah (b7 4 tN (ah (ag 0) (ah (e2 bu (ag 3) (eI 1)) (ah (ag 4) (ah (ag 2) aD))))) aD)))) (cQ (bJ je (ah (ag 2) aD)))))
def pK:List W->List au->R W:=c8 5 Nh
theorem PV(F:iW K "rooms_of" "rooms_of" IA f fd)(B:Bl mg)(vP:bQ P w K mg base 2 "links_of" 1 xk)(zp:bQ P w K mg base 2 "room_at" 4 tN):c6 P w K mg base (iJ P w) 3 f fd MN (iY K mg 2 pK):=
 bR (k:=2) F Ac rfl fun fC A outer s H E hr=>(av (sS 2 Ac (jK ar)) (av (iK (LM B.zip (aa (ae 1) (aa (bx vP hr #[0] (aa (ae 1) ar)) ar))) (oy rfl (d7 (sG 3 Ac) (d7 (sG 4 Ac) l_))) (aH (cI (nP PySem.F.slot_list_append PySem.F.type_list_append dq (ae 2) (aa (bx zp hr #[0] (aa (ae 0) (aa (be (ae 3) aB) (aa (ae 4) (aa (ae 2) ar))))) ar))))) (aH (bh (gg kZ B.tuple fw (aa (ae 2) ar))))))
def Tn:FS:=(cQ (fJ (ah (e2 bu (ag 0) (eI 2)) (ah (e2 bu (ag 0) (eI 3)) (ah (e2 bu (ag 0) (eI 0)) (ah (e2 bu (ag 0) (eI 1)) (ah (e2 bu (ag 0) (eI 4)) aD)))))))
def B5:List W->List au->R W:=c8 1 Tn
theorem PX(F:iW K "turned" "turned" IB f fd)  :c6 P w K mg base (iJ P w) 1 f fd MO (iY K mg 1 B5):=
 bR (k:=0) F Pz rfl fun fC A outer s H E hr=>(aH (bh (dX (aa (be (ae 0) aB) (aa (be (ae 0) aB) (aa (be (ae 0) aB) (aa (be (ae 0) aB) (aa (be (ae 0) aB) ar))))))))
def To:FS:=(cQ (e2 cN (e2 cN (rk (ag 0) gM (eW (ag 1))) (fJ (ah (fJ (ah (e2 bu (e2 bu (ag 0) (ag 1)) (eI 0)) (ah (ag 2) aD))) aD))) (rk (ag 0) (eW (e2 cN (ag 1) (eI 1))) gM)))
def B6:List W->List au->R W:=c8 3 To
theorem PY(F:iW K "with_marks" "with_marks" ID f fd)  :c6 P w K mg base (iJ P w) 1 f fd MP (iY K mg 3 B6):=
 bR (k:=0) F PB rfl fun fC A outer s H E hr=>(aH (bh (bB cE (bB cE (l9 (ae 0) e_ (dr (ae 1))) (dX (aa (dX (aa (be (be (ae 0) (ae 1)) aB) (aa (ae 2) ar))) ar))) (l9 (ae 0) (dr (bB cE (ae 1) aB)) e_))))
def Tp:FS:=(aM (bd 3 (b7 2 rJ (ah (e2 bu (ag 2) (eI 0)) (ah (e2 bu (ag 2) (eI 1)) aD)))) (aM (bd 4 (b7 2 rJ (ah (e2 bu (ag 2) (eI 2)) (ah (e2 bu (ag 2) (eI 3)) aD)))) (aM (bd 5 (e2 lD (e2 lD (e2 bu (ag 2) (eI 1)) (bJ dG (ah (e2 bu (ag 3) (eI 0)) aD))) (bJ dG (ah (e2 bu (ag 3) (eI 1)) aD)))) (aM (bd 6 (e2 cN (ag 5) (bJ dG (ah (e2 bu (ag 3) (eI 0)) aD)))) (aM (gz (eO (e2 ku (e2 bu (ag 2) (eI 4)) (eC (.str [108,101,102,116])))) (aM (bd 7 (b7 2 pK (ah (ag 0) (ah (e2 bu (ag 4) (eI 0)) aD)))) (cQ (fJ (ah (e2 cN (e2 cN (rk (ag 1) gM (eW (ag 5))) (ag 7)) (rk (ag 1) (eW (ag 6)) gM)) (ah (bJ dG (ah (ag 7) aD)) aD))))) bW) (aM (bd 7 (b7 2 pK (ah (ag 0) (ah (e2 bu (ag 4) (eI 1)) aD)))) (cQ (fJ (ah (e2 cN (e2 cN (rk (ag 1) gM (eW (ag 6))) (ag 7)) (rk (ag 1) (eW (e2 bu (ag 2) (eI 1))) gM)) (ah (bJ dG (ah (ag 7) aD)) aD))))))))))
def y8:List W->List au->R W:=c8 8 Tp
theorem PZ(F:iW K "branch_rooms" "branch_rooms" IE f fd)(B:Bl mg)(xJ:bQ P w K mg base 5 "branches_at" 2 rJ)(rL:bQ P w K mg base 3 "rooms_of" 2 pK):c6 P w K mg base (iJ P w) 6 f fd MQ (iY K mg 3 y8):=
 bR (k:=5) F si rfl fun fC A outer s H E hr=>(av (sS 3 si (bx xJ hr #[0] (aa (be (ae 2) aB) (aa (be (ae 2) aB) ar)))) (av (sS 4 si (bx xJ hr #[0] (aa (be (ae 2) aB) (aa (be (ae 2) aB) ar)))) (av (sS 5 si (bB jZ (bB jZ (be (ae 2) aB) (bS dO B.len bK (aa (be (ae 3) aB) ar))) (bS dO B.len bK (aa (be (ae 3) aB) ar)))) (av (sS 6 si (bB cE (ae 5) (bS dO B.len bK (aa (be (ae 3) aB) ar)))) (av (cH (cv (jd hr) (be (ae 2) aB) eZ) (av (sS 7 si (bx rL hr #[0] (aa (ae 0) (aa (be (ae 4) aB) ar)))) (aH (bh (dX (aa (bB cE (bB cE (l9 (ae 1) e_ (dr (ae 5))) (ae 7)) (l9 (ae 1) (dr (ae 6)) e_)) (aa (bS dO B.len bK (aa (ae 7) ar)) ar)))))) bO) (av (sS 7 si (bx rL hr #[0] (aa (ae 0) (aa (be (ae 4) aB) ar)))) (aH (bh (dX (aa (bB cE (bB cE (l9 (ae 1) e_ (dr (ae 6))) (ae 7)) (l9 (ae 1) (dr (be (ae 2) aB)) e_)) (aa (bS dO B.len bK (aa (ae 7) ar)) ar)))))))))))
def Tq:FS:=(aM (bd 4 (b7 1 xk (ah (ag 1) aD))) (aM (bd 5 (b7 1 Jk (ah (ag 1) aD))) (aM (bd 6 (bJ yO (ah (ag 2) aD))) (aM (bd 7 (eI 0)) (aM (bd 8 (ag 3)) (aM (oz (eO (iB (ag 8))) (aM (bd 9 (b7 4 tN (ah (ag 0) (ah (e2 bu (e2 bu (ag 1) (ag 8)) (eI 1)) (ah (e2 bu (ag 4) (ag 8)) (ah (ag 6) aD)))))) (aM (bd 7 (e2 cN (ag 7) (eI 1))) (aM (gz (eO (e2 ku (ag 9) (e2 bu (ag 6) (ag 8)))) DB bW) (aM (Bw (ag 6) (ag 8) (ag 9) rC) (bd 8 (b7 2 Gp (ah (ag 5) (ah (ag 8) aD))))))))) (cQ (fJ (ah (bJ je (ah (ag 6) aD)) (ah (ag 7) aD))))))))))
def B8:List W->List au->R W:=c8 10 Tq
theorem P0(F:iW K "climbed" "climbed" IF f fd)(B:Bl mg)(vP:bQ P w K mg base 2 "links_of" 1 xk)(zp:bQ P w K mg base 2 "room_at" 4 tN)(Q0:bQ P w K mg base 1 "up_from" 2 Gp)(QY:bQ P w K mg base 3 "ups_of" 1 Jk):c6 P w K mg base (iJ P w) 4 f fd MR (iY K mg 4 B8):=
 bR (k:=3) F oI rfl fun fC A outer s H E hr=>(av (sS 4 oI (bx vP hr #[0] (aa (ae 1) ar))) (av (sS 5 oI (bx QY hr #[0] (aa (ae 1) ar))) (av (sS 6 oI (gg OV B.list boot_list (aa (ae 2) ar))) (av (sS 7 oI aB) (av (sS 8 oI (ae 3)) (av (wH (jr (ae 8)) (av (sS 9 oI (bx zp hr #[0] (aa (ae 0) (aa (be (be (ae 1) (ae 8)) aB) (aa (be (ae 4) (ae 8)) (aa (ae 6) ar)))))) (av (sS 7 oI (bB cE (ae 7) aB)) (av (cH (cv (jd hr) (ae 9) (be (ae 6) (ae 8))) (aH HF) bO) (av (DE DD (ae 9) (ae 6) (ae 8)) (aH (sS 8 oI (bx Q0 hr #[0] (aa (ae 5) (aa (ae 8) ar)))))))))) (aH (bh (dX (aa (gg kZ B.tuple fw (aa (ae 6) ar)) (aa (ae 7) ar)))))))))))
def pL:FS:=(aM (qg "Kept" "machine" (ag 0) (ag 1)) (aM (qg "Kept" "tree" (ag 0) (ag 2)) (aM (qg "Kept" "rooms" (ag 0) (b7 2 pK (ah (ag 1) (ah (ag 2) aD)))) (aM (qg "Kept" "many" (ag 0) (bJ dG (ah (ag 2) aD))) (aM (qg "Kept" "standing" (ag 0) (l6 aD)) (qg "Kept" "taken_back" (ag 0) (l6 aD)))))))
def fY:List W->List au->R W:=c8 3 pL
theorem uW(F:iW K "__init__" "Kept.__init__" lH f fd)(B:Bl mg)(O:Ow K mg)(rL:bQ P w K mg base 3 "rooms_of" 2 pK):c6 P w K mg base (iJ P w) 4 f fd pH (iY K mg 3 fY):=
 bR (k:=3) F uN rfl fun fC A outer s H E hr=>(av (lF O.Kept (ae 0) (ae 1)) (av (lF O.Kept (ae 0) (ae 2)) (av (lF O.Kept (ae 0) (bx rL hr #[0] (aa (ae 1) (aa (ae 2) ar)))) (av (lF O.Kept (ae 0) (bS dO B.len bK (aa (ae 2) ar))) (av (lF O.Kept (ae 0) (jK ar)) (aH (lF O.Kept (ae 0) (jK ar))))))))
def kN:FS:=(aM (gz (eO (zM (e2 bu (ag 1) (eI 1)))) (aM (qg "Kept" "rooms" (ag 0) (b7 2 pK (ah (jg "Kept" "machine" (ag 0)) (ah (e2 bu (ag 1) (eI 2)) aD)))) (qg "Kept" "many" (ag 0) (bJ dG (ah (e2 bu (ag 1) (eI 2)) aD)))) (aM (bd 2 (fJ (ah (jg "Kept" "rooms" (ag 0)) (ah (eI 0) aD)))) (aM (gz (eO (iB (e2 bu (ag 1) (eI 4)))) (bd 2 (b7 3 y8 (ah (jg "Kept" "machine" (ag 0)) (ah (jg "Kept" "rooms" (ag 0)) (ah (ag 1) aD))))) bW) (aM (bd 3 (b7 4 B8 (ah (jg "Kept" "machine" (ag 0)) (ah (e2 bu (ag 1) (eI 2)) (ah (e2 bu (ag 2) (eI 0)) (ah (e2 bu (ag 1) (eI 3)) aD)))))) (aM (qg "Kept" "rooms" (ag 0) (e2 bu (ag 3) (eI 0))) (qg "Kept" "many" (ag 0) (e2 cN (e2 bu (ag 2) (eI 1)) (e2 bu (ag 3) (eI 1))))))))) (qg "Kept" "tree" (ag 0) (e2 bu (ag 1) (eI 2))))
def dA:List W->List au->R W:=c8 4 kN
theorem tO(F:iW K "carry_out" "Kept.carry_out" kK f fd)(B:Bl mg)(O:Ow K mg)(Kr:bQ P w K mg base 6 "branch_rooms" 3 y8)(Kv:bQ P w K mg base 4 "climbed" 4 B8)(rL:bQ P w K mg base 3 "rooms_of" 2 pK):c6 P w K mg base (iJ P w) 7 f fd nU (iY K mg 2 dA):=
 bR (k:=6) F iD rfl fun fC A outer s H E hr=>(av (cH (Dz #[19]) (av (lF O.Kept (ae 0) (bx rL hr #[0] (aa #[17] (aa #[19] ar)))) (aH (lF O.Kept (ae 0) (bS dO B.len bK (aa #[19] ar))))) (av (sS 2 iD (dX (aa #[17] (aa aB ar)))) (av (cH (jr #[19]) (aH (sS 2 iD (bx Kr hr #[0] (aa #[17] (aa #[17] (aa (ae 1) ar)))))) bO) (av (sS 3 iD (bx Kv hr #[0] (aa #[17] (aa #[19] (aa (be (ae 2) aB) (aa #[19] ar)))))) (av (lF O.Kept (ae 0) (be (ae 3) aB)) (aH (lF O.Kept (ae 0) (bB cE (be (ae 2) aB) (be (ae 3) aB))))))))) (aH (lF O.Kept (ae 0) #[19])))
def qs:FS:=(aM (dm (ie "Kept" "carry_out" 2 dA (ag 0) (ah (ag 1) aD))) (aM (dm (oE cu (jg "Kept" "standing" (ag 0)) (ah (ag 1) aD))) (qg "Kept" "taken_back" (ag 0) (l6 aD))))
def d9:List W->List au->R W:=c8 2 qs
theorem vI(F:iW K "do_deed" "Kept.do_deed" mv f fd)(O:Ow K mg)(dB:iy P w K mg base 7 "Kept" "carry_out" 2 dA):c6 P w K mg base (iJ P w) 8 f fd qi (iY K mg 2 d9):=
 bR (k:=7) F vE rfl fun fC A outer s H E hr=>(av (cI (kI dB hr #[0] (ae 0) (aa (ae 1) ar))) (av (cI (nP PySem.F.slot_list_append PySem.F.type_list_append dq #[17] (aa (ae 1) ar))) (aH (lF O.Kept (ae 0) (jK ar)))))
def uX:FS:=(dm (ie "Kept" "do_deed" 2 d9 (ag 0) (ah (fJ (ah (jg "Kept" "tree" (ag 0)) (ah (ag 1) (ah (b7 3 B6 (ah (jg "Kept" "tree" (ag 0)) (ah (ag 1) (ah (ag 2) aD)))) (ah (ag 1) (ah (eC .non) aD)))))) aD)))
def eT:List W->List au->R W:=c8 3 uX
theorem tP(F:iW K "mark_deed" "Kept.mark_deed" kL f fd)(O:Ow K mg)(ef:iy P w K mg base 8 "Kept" "do_deed" 2 d9)(J':bQ P w K mg base 1 "with_marks" 3 B6):c6 P w K mg base (iJ P w) 9 f fd nV (iY K mg 3 eT):=
 bR (k:=8) F tH rfl fun fC A outer s H E hr=>(aH (cI (kI ef hr #[0] (ae 0) (aa (dX (aa #[17] (aa (ae 1) (aa (bx J' hr #[0] (aa #[17] (aa (ae 1) (aa (ae 2) ar)))) (aa (ae 1) (aa p_ ar)))))) ar))))
def D3:FS:=(aM (dm (b7 2 Ar (ah (jg "Kept" "tree" (ag 0)) (ah (ag 1) aD)))) (dm (ie "Kept" "mark_deed" 3 eT (ag 0) (ah (ag 1) (ah (b7 1 Ji (ah (e2 cN (e2 bu (e2 bu (jg "Kept" "tree" (ag 0)) (ag 1)) (eI 1)) (ag 2)) aD)) aD)))))
def kO:List W->List au->R W:=c8 3 D3
theorem B9(F:iW K "put" "Kept.put" sk f fd)(O:Ow K mg)(fH:iy P w K mg base 9 "Kept" "mark_deed" 3 eT)(AO:bQ P w K mg base 1 "check_place" 2 Ar)(QO:bQ P w K mg base 1 "in_order" 1 Ji):c6 P w K mg base (iJ P w) 10 f fd w_ (iY K mg 3 kO):=
 bR (k:=9) F BS rfl fun fC A outer s H E hr=>(av (cI (bx AO hr #[0] (aa #[17] (aa (ae 1) ar)))) (aH (cI (kI fH hr #[0] (ae 0) (aa (ae 1) (aa (bx QO hr #[0] (aa (bB cE (be (be #[17] (ae 1)) aB) (ae 2)) ar)) ar))))))
def B_:FS:=(aM (dm (b7 2 Ar (ah (jg "Kept" "tree" (ag 0)) (ah (ag 1) aD)))) (dm (ie "Kept" "mark_deed" 3 eT (ag 0) (ah (ag 1) (ah (E_ (e2 bu (e2 bu (jg "Kept" "tree" (ag 0)) (ag 1)) (eI 1)) (ag 2)) aD)))))
def jO:List W->List au->R W:=c8 3 B_
theorem As(F:iW K "take" "Kept.take" qj f fd)(O:Ow K mg)(fH:iy P w K mg base 9 "Kept" "mark_deed" 3 eT)(AO:bQ P w K mg base 1 "check_place" 2 Ar):c6 P w K mg base (iJ P w) 10 f fd vq (iY K mg 3 jO):=
 bR (k:=9) F Ae rfl fun fC A outer s H E hr=>(av (cI (bx AO hr #[0] (aa #[17] (aa (ae 1) ar)))) (aH (cI (kI fH hr #[0] (ae 0) (aa (ae 1) (aa (Pj (be (be #[17] (ae 1)) aB) (ae 2)) ar))))))
def yi:FS:=(aM (bd 4 (b7 4 B4 (ah (jg "Kept" "tree" (ag 0)) (ah (ag 1) (ah (ag 2) (ah (ag 3) aD)))))) (dm (ie "Kept" "do_deed" 2 d9 (ag 0) (ah (fJ (ah (jg "Kept" "tree" (ag 0)) (ah (ag 1) (ah (ag 4) (ah (e2 lD (e2 cN (ag 1) (bJ dG (ah (ag 4) aD))) (bJ dG (ah (jg "Kept" "tree" (ag 0)) aD))) (ah (ag 2) aD)))))) aD))))
def ip:List W->List au->R W:=c8 5 yi
theorem xl(F:iW K "branch" "Kept.branch" nz f fd)(B:Bl mg)(O:Ow K mg)(ef:iy P w K mg base 8 "Kept" "do_deed" 2 d9)(J2:bQ P w K mg base 6 "branch_put" 4 B4):c6 P w K mg base (iJ P w) 9 f fd rF (iY K mg 4 ip):=
 bR (k:=8) F qk rfl fun fC A outer s H E hr=>(av (sS 4 qk (bx J2 hr #[0] (aa #[17] (aa (ae 1) (aa (ae 2) (aa (ae 3) ar)))))) (aH (cI (kI ef hr #[0] (ae 0) (aa (dX (aa #[17] (aa (ae 1) (aa (ae 4) (aa (bB jZ (bB cE (ae 1) (bS dO B.len bK (aa (ae 4) ar))) (bS dO B.len bK (aa #[17] ar))) (aa (ae 2) ar)))))) ar)))))
def Au:FS:=(dm (ie "Kept" "do_deed" 2 d9 (ag 0) (ah (fJ (ah (jg "Kept" "tree" (ag 0)) (ah (eC .non) (ah (ag 1) (ah (eC .non) (ah (eC .non) aD)))))) aD)))
def gk:List W->List au->R W:=c8 2 Au
theorem yj(F:iW K "whole" "Kept.whole" oJ f fd)(O:Ow K mg)(ef:iy P w K mg base 8 "Kept" "do_deed" 2 d9):c6 P w K mg base (iJ P w) 9 f fd tI (iY K mg 2 gk):=
 bR (k:=8) F yc rfl fun fC A outer s H E hr=>(aH (cI (kI ef hr #[0] (ae 0) (aa (dX (aa #[17] (aa p_ (aa (ae 1) (aa p_ (aa p_ ar)))))) ar))))
def qt:FS:=(aM (gz (eO (e2 ku (bJ dG (ah (jg "Kept" "standing" (ag 0)) aD)) (eI 0))) (uJ "NothingDone") bW) (aM (bd 1 (oE qZ (jg "Kept" "standing" (ag 0)) aD)) (aM (dm (ie "Kept" "carry_out" 2 dA (ag 0) (ah (b7 1 B5 (ah (ag 1) aD)) aD))) (dm (oE cu (jg "Kept" "taken_back" (ag 0)) (ah (ag 1) aD))))))
def gl:List W->List au->R W:=c8 2 qt
theorem Av(F:iW K "back" "Kept.back" ql f fd)(B:Bl mg)(C:Cls K mg)(O:Ow K mg)(dB:iy P w K mg base 7 "Kept" "carry_out" 2 dA)(J8:bQ P w K mg base 1 "turned" 1 B5):c6 P w K mg base (iJ P w) 8 f fd vt (iY K mg 1 gl):=
 bR (k:=7) F tJ rfl fun fC A outer s H E hr=>(av (cH (cv (jd hr) (bS dO B.len bK (aa #[17] ar)) aB) (aH (tf C.NothingDone)) bO) (av (sS 1 tJ (vm PySem.F.slot_list_pop PySem.F.type_list_pop qf #[17])) (av (cI (kI dB hr #[0] (ae 0) (aa (bx J8 hr #[0] (aa (ae 1) ar)) ar))) (aH (cI (nP PySem.F.slot_list_append PySem.F.type_list_append dq #[17] (aa (ae 1) ar)))))))
def oN:FS:=(aM (gz (eO (e2 ku (bJ dG (ah (jg "Kept" "taken_back" (ag 0)) aD)) (eI 0))) (uJ "NothingDone") bW) (aM (bd 1 (oE qZ (jg "Kept" "taken_back" (ag 0)) aD)) (aM (dm (ie "Kept" "carry_out" 2 dA (ag 0) (ah (ag 1) aD))) (dm (oE cu (jg "Kept" "standing" (ag 0)) (ah (ag 1) aD))))))
def hX:List W->List au->R W:=c8 2 oN
theorem yk(F:iW K "again" "Kept.again" oK f fd)(B:Bl mg)(C:Cls K mg)(O:Ow K mg)(dB:iy P w K mg base 7 "Kept" "carry_out" 2 dA):c6 P w K mg base (iJ P w) 8 f fd tK (iY K mg 1 hX):=
 bR (k:=7) F rG rfl fun fC A outer s H E hr=>(av (cH (cv (jd hr) (bS dO B.len bK (aa #[17] ar)) aB) (aH (tf C.NothingDone)) bO) (av (sS 1 rG (vm PySem.F.slot_list_pop PySem.F.type_list_pop qf #[17])) (av (cI (kI dB hr #[0] (ae 0) (aa (ae 1) ar))) (aH (cI (nP PySem.F.slot_list_append PySem.F.type_list_append dq #[17] (aa (ae 1) ar)))))))
def vJ:FS:=(cQ (jg "Kept" "tree" (ag 0)))
def ig:List W->List au->R W:=c8 1 vJ
theorem uY(F:iW K "tree_now" "Kept.tree_now" lI f fd)(O:Ow K mg) :c6 P w K mg base (iJ P w) 1 f fd pI (iY K mg 1 ig):=
 bR (k:=0) F uQ rfl fun fC A outer s H E hr=>(aH (bh #[17]))
def uZ:FS:=(cQ (jg "Kept" "rooms" (ag 0)))
def gP:List W->List au->R W:=c8 1 uZ
theorem tQ(F:iW K "rooms_now" "Kept.rooms_now" kM f fd)(O:Ow K mg) :c6 P w K mg base (iJ P w) 1 f fd nX (iY K mg 1 gP):=
 bR (k:=0) F tL rfl fun fC A outer s H E hr=>(aH (bh #[17]))
def vK:FS:=(cQ (e2 bu (e2 bu (jg "Kept" "machine" (ag 0)) (eI 1)) (GM (eO (e2 F' (bJ dG (ah (jg "Kept" "rooms" (ag 0)) aD)) (eI 0))) (e2 bu (jg "Kept" "rooms" (ag 0)) (r_ (eI 1))) (eI 0))))
def ii:List W->List au->R W:=c8 1 vK
theorem u0(F:iW K "lets_now" "Kept.lets_now" lJ f fd)(B:Bl mg)(O:Ow K mg) :c6 P w K mg base (iJ P w) 1 f fd pJ (iY K mg 1 ii):=
 bR (k:=0) F uS rfl fun fC A outer s H E hr=>(aH (bh (be (be #[17] aB) (Dy (cv x5 (bS dO B.len bK (aa #[17] ar)) aB) (be #[17] (wL aB)) aB))))
def Tr:FS:=(aM (gz (eO (e2 ku (bJ dG (ah (ag 0) aD)) (eI 0))) (cQ (eI 0)) bW) (cQ (e2 bu (ag 0) (e2 iX (ag 1) (bJ dG (ah (ag 0) aD))))))
def mw:List W->List au->R W:=c8 2 Tr
theorem P1(F:iW K "_law_cell" "_law_cell" IG f fd)(B:Bl mg) :c6 P w K mg base (iJ P w) 1 f fd MS (iY K mg 2 mw):=
 bR (k:=0) F PD rfl fun fC A outer s H E hr=>(av (cH (cv (jd hr) (bS dO B.len bK (aa (ae 0) ar)) aB) (aH (bh aB)) bO) (aH (bh (be (ae 0) (bB ib (ae 1) (bS dO B.len bK (aa (ae 0) ar)))))))
def Ts:FS:=(aM (bd 3 (e2 iX (e2 jc (e2 cN (e2 cN (e2 cN (ag 0) (e2 jc (e2 jc (eI 7) (ag 1)) (ag 1))) (e2 jc (eI 13) (ag 1))) (ag 2)) (eI 69621)) (eI 2147483647))) (cQ (e2 iX (e2 jc (e2 iX (e2 cN (e2 cN (e2 jc (ag 3) (e2 cN (e2 vi (ag 3) (eI 1009)) (eI 3))) (e2 jc (eI 31) (ag 1))) (ag 2)) (eI 2147483629)) (eI 48271)) (eI 1000000007))))
def tU:List W->List au->R W:=c8 4 Ts
theorem P2(F:iW K "_law_mixed" "_law_mixed" IH f fd)  :c6 P w K mg base (iJ P w) 1 f fd MU (iY K mg 3 tU):=
 bR (k:=0) F II rfl fun fC A outer s H E hr=>(av (sS 3 II (bB ib (bB j7 (bB cE (bB cE (bB cE (ae 0) (bB j7 (bB j7 aB (ae 1)) (ae 1))) (bB j7 aB (ae 1))) (ae 2)) aB) aB)) (aH (bh (bB ib (bB j7 (bB ib (bB cE (bB cE (bB j7 (ae 3) (bB cE (bB uC (ae 3) aB) aB)) (bB j7 aB (ae 1))) (ae 2)) aB) aB) aB))))
def Ni:FS:=(aM (bd 3 (l6 aD)) (aM (bd 4 (eI 0)) (aM (gz (eO (e2 OT (ag 0) (e2 R8 (eI 10) (eI 18)))) (bd 4 (ag 0)) bW) (aM (mS (dP (ah (ag 1) aD)) (kH 5) (gz (eO (e2 F' (ag 4) (eI 0))) (aM (dm (oE cu (ag 3) (ah (e2 iX (ag 4) (eI 64)) aD))) (bd 4 (e2 vi (ag 4) (eI 64)))) (dm (oE cu (ag 3) (ah (b7 3 tU (ah (ag 0) (ah (ag 5) (ah (ag 2) aD)))) aD))))) (cQ (ag 3))))))
def mx:List W->List au->R W:=c8 6 Ni
theorem P3(F:iW K "_law_draws" "_law_draws" IJ f fd)(B:Bl mg)(xQ:bQ P w K mg base 1 "_law_mixed" 3 tU):c6 P w K mg base (iJ P w) 2 f fd MV (iY K mg 3 mx):=
 bR (k:=1) F uT rfl fun fC A outer s H E hr=>(av (sS 3 uT (jK ar)) (av (sS 4 uT aB) (av (cH (cv Lu (ae 0) (bB R_ aB aB)) (aH (sS 4 uT (ae 0))) bO) (av (iK (im B.range (aa (ae 1) ar)) (sG 5 uT) (aH (cH (cv x5 (ae 4) aB) (av (cI (nP PySem.F.slot_list_append PySem.F.type_list_append dq (ae 3) (aa (bB ib (ae 4) aB) ar))) (aH (sS 4 uT (bB uC (ae 4) aB)))) (aH (cI (nP PySem.F.slot_list_append PySem.F.type_list_append dq (ae 3) (aa (bx xQ hr #[0] (aa (ae 0) (aa (ae 5) (aa (ae 2) ar)))) ar))))))) (aH (bh (ae 3)))))))
def B'(Ug:List W->List au->R W):FS:=(aM (gz (eO (wQ "tuple" (ag 1))) (aM (gz (F8 (A6 (eO (wQ "tuple" (ag 0)))) (eO (e2 Kz (bJ dG (ah (ag 0) aD)) (bJ dG (ah (ag 1) aD))))) (cQ (eC (.bl false))) bW) (aM (mS (dP (ah (bJ dG (ah (ag 1) aD)) aD)) (kH 2) (gz (A6 (eO (b7 2 Ug (ah (e2 bu (ag 0) (ag 2)) (ah (e2 bu (ag 1) (ag 2)) aD))))) (cQ (eC (.bl false))) bW)) (cQ (eC (.bl true))))) bW) (aM (gz (eO (zM (ag 1))) (cQ (zM (ag 0))) bW) (aM (gz (eO (wQ "bool" (ag 1))) (cQ (zL (wQ "bool" (ag 0)) (e2 ku (ag 0) (ag 1)))) bW) (aM (gz (eO (wQ "int" (ag 1))) (cQ (zL (wQ "int" (ag 0)) (zL (Lp (wQ "bool" (ag 0))) (e2 ku (ag 0) (ag 1))))) bW) (cQ (zL (wQ "str" (ag 0)) (e2 ku (ag 0) (ag 1))))))))
def j9:Nat->List W->List au->R W
 |0=>fun _ _=>.bad
 |k+1=>c8 3 (B' (j9 k))
theorem Fa{Ks:Addr}{QZ:FuncData}(zo:iW K "_law_same" "_law_same" IK Ks QZ)(CW:mg "_law_same"=some (.ref Ks))(B:Bl mg) :∀k:Nat,bQ P w K mg base (0+k) "_law_same" 2 (j9 k)
 |0=>HM (ps:=IL) zo CW rfl (fun _ _ _ _ _ _ us hl=>match us,hl with|[_,_],_=>rfl)
 |k+1=>by
  have rO:=Fa zo CW B  k
  exact zN (ps:=IL) zo CW rfl (fun _ _ _ _ _ _ us hl=>match us,hl with|[_,_],_=>rfl) (bR (k:=0+k) zo IM rfl fun fC A outer s H E hr=>(av (cH (hU (vn B.isinstance B.tuple fw (ae 1))) (av (cH (zK (yM (kG (hU (vn B.isinstance B.tuple fw (ae 0)))) (uz (cv (OU hr) (bS dO B.len bK (aa (ae 0) ar)) (bS dO B.len bK (aa (ae 1) ar)))))) (aH (bh ou)) bO) (av (iK (im B.range (aa (bS dO B.len bK (aa (ae 1) ar)) ar)) (sG 2 IM) (aH (cH (kG (hU (bx rO hr #[0] (aa (be (ae 0) (ae 2)) (aa (be (ae 1) (ae 2)) ar))))) (aH (bh ou)) bO))) (aH (bh ou)))) bO) (av (cH (Dz (ae 1)) (aH (bh (R5 (ae 0)))) bO) (av (cH (hU (vn B.isinstance B.bool va (ae 1))) (aH (bh (yN (vn B.isinstance B.bool va (ae 0)) (Bq (sV (jd hr) (ae 0) (ae 1)))))) bO) (av (cH (hU (vn B.isinstance B.int qL (ae 1))) (aH (bh (yN (vn B.isinstance B.int qL (ae 0)) (yN (R4 (vn B.isinstance B.bool va (ae 0))) (Bq (sV (jd hr) (ae 0) (ae 1))))))) bO) (aH (bh (yN (vn B.isinstance B.str boot_str (ae 0)) (Bq (sV (jd hr) (ae 0) (ae 1)))))))))))
def Nj:FS:=(aM (bd 3 (eC (.str [65,66,67,68,69,70,71,72,73,74,75,76,77,78,79,80,81,82,83,84,85,86,87,88,89,90,97,98,99,100,101,102,103,104,105,106,107,108,109,110,111,112,113,114,115,116,117,118,119,120,121,122]))) (aM (bd 4 (eC (.str []))) (aM (mS (ic (b7 3 mx (ah (ag 0) (ah (ag 1) (ah (ag 2) aD))))) (kH 5) (aM (bd 6 (e2 iX (ag 5) (bJ dG (ah (ag 3) aD)))) (aM (bd 4 (e2 cN (ag 4) (e2 bu (ag 3) (ag 6)))) (bd 3 (e2 cN (rk (ag 3) gM (eW (ag 6))) (rk (ag 3) (eW (e2 cN (ag 6) (eI 1))) gM)))))) (cQ (ag 4)))))
def y9:List W->List au->R W:=c8 7 Nj
theorem P4(F:iW K "_law_pool" "_law_pool" IN f fd)(B:Bl mg)(qC:bQ P w K mg base 2 "_law_draws" 3 mx):c6 P w K mg base (iJ P w) 3 f fd MW (iY K mg 3 y9):=
 bR (k:=2) F sm rfl fun fC A outer s H E hr=>(av (sS 3 sm eZ) (av (sS 4 sm eZ) (av (iK (nr (bx qC hr #[0] (aa (ae 0) (aa (ae 1) (aa (ae 2) ar))))) (sG 5 sm) (av (sS 6 sm (bB ib (ae 5) (bS dO B.len bK (aa (ae 3) ar)))) (av (sS 4 sm (bB cE (ae 4) (be (ae 3) (ae 6)))) (aH (sS 3 sm (bB cE (l9 (ae 3) e_ (dr (ae 6))) (l9 (ae 3) (dr (bB cE (ae 6) aB)) e_))))))) (aH (bh (ae 4))))))
def Nk:FS:=(cQ (KA pF (eC (.str [])) (ah (bJ lE (ah (k_ [none,some 0,some 1] (dP (ah (bJ dG (ah (ag 0) aD)) aD)) (kH 0) (eO (e2 ku (e2 HA (e2 OR (ag 2) (ag 0)) (eI 1)) (eI 1))) (e2 bu (ag 1) (ag 0))) aD)) aD)))
def Cb:List W->List au->R W:=c8 2 Nk
theorem P5(F:iW K "_law_marks" "_law_marks" IP f fd)(B:Bl mg) :c6 P w K mg base (iJ P w) 1 f fd MX (iY K mg 2 Cb):=
 bR (k:=0) F PF rfl fun fC A outer s H E hr=>(aH (bh (Ly PySem.F.slot_str_join PySem.F.type_str_join vR eZ (aa (bS zS B.sorted qK (aa (DH (nm:=["_law_k","_law_pool_here","_law_number"]) (cap:=[none,some 0,some 1]) (by first|rfl|kernel_rfl) rfl (im B.range (aa (bS dO B.len bK (aa (ae 0) ar)) ar)) (fun _ _ _ _ _=>(sC 0)) (fun _ _ _ _ _=>(E1 (cv (jd hr) (bB OS (bB R' (ae 2) (ae 0)) aB) aB))) (fun _ _ _ _ _=>(be (ae 1) (ae 0)))) ar)) ar))))
def Nl:FS:=(aM (bd 2 (l6 aD)) (aM (bd 3 (eI 0)) (aM (mS (ic (ag 0)) (kH 4) (aM (bd 5 (e2 iX (ag 4) (eI 4))) (aM (gz (eO (e2 F' (e2 vi (e2 cN (ag 5) (eI 1)) (eI 2)) (ag 3))) (bd 5 (eI 0)) bW) (aM (dm (oE cu (ag 2) (ah (fJ (ah (ag 5) (ah (b7 2 Cb (ah (ag 1) (ah (e2 iX (e2 vi (ag 4) (eI 4)) (eI 16)) aD))) aD))) aD))) (bd 3 (e2 lD (e2 cN (ag 3) (eI 1)) (e2 vi (e2 cN (ag 5) (eI 1)) (eI 2)))))))) (aM (oz (eO (e2 F' (ag 3) (eI 1))) (aM (dm (oE cu (ag 2) (ah (fJ (ah (eI 3) (ah (e2 bu (e2 bu (ag 2) (e2 lD (ag 3) (eI 1))) (eI 1)) aD))) aD))) (bd 3 (e2 lD (ag 3) (eI 1))))) (cQ (bJ je (ah (ag 2) aD)))))))
def xn:List W->List au->R W:=c8 6 Nl
theorem P6(F:iW K "_law_tree" "_law_tree" IQ f fd)(B:Bl mg)(Kk:bQ P w K mg base 1 "_law_marks" 2 Cb):c6 P w K mg base (iJ P w) 2 f fd MY (iY K mg 2 xn):=
 bR (k:=1) F qm rfl fun fC A outer s H E hr=>(av (sS 2 qm (jK ar)) (av (sS 3 qm aB) (av (iK (nr (ae 0)) (sG 4 qm) (av (sS 5 qm (bB ib (ae 4) aB)) (av (cH (cv x5 (bB uC (bB cE (ae 5) aB) aB) (ae 3)) (aH (sS 5 qm aB)) bO) (av (cI (nP PySem.F.slot_list_append PySem.F.type_list_append dq (ae 2) (aa (dX (aa (ae 5) (aa (bx Kk hr #[0] (aa (ae 1) (aa (bB ib (bB uC (ae 4) aB) aB) ar))) ar))) ar))) (aH (sS 3 qm (bB jZ (bB cE (ae 3) aB) (bB uC (bB cE (ae 5) aB) aB)))))))) (av (wH (cv x5 (ae 3) aB) (av (cI (nP PySem.F.slot_list_append PySem.F.type_list_append dq (ae 2) (aa (dX (aa aB (aa (be (be (ae 2) (bB jZ (ae 3) aB)) aB) ar))) ar))) (aH (sS 3 qm (bB jZ (ae 3) aB))))) (aH (bh (gg kZ B.tuple fw (aa (ae 2) ar))))))))
def Nm:FS:=(aM (bd 1 (l6 aD)) (aM (bd 2 (l6 aD)) (aM (mS (dP (ah (bJ dG (ah (ag 0) aD)) aD)) (kH 3) (aM (bd 4 (eC .non)) (aM (bd 5 (eC .non)) (aM (gz (eO (e2 OT (e2 bu (e2 bu (ag 0) (ag 3)) (eI 0)) (eI 2))) (bd 5 (oE qZ (ag 1) aD)) bW) (aM (gz (eO (e2 ku (e2 iX (e2 bu (e2 bu (ag 0) (ag 3)) (eI 0)) (eI 2)) (eI 1))) (bd 4 (oE qZ (ag 1) aD)) bW) (aM (dm (oE cu (ag 2) (ah (fJ (ah (ag 4) (ah (ag 5) aD))) aD))) (dm (oE cu (ag 1) (ah (ag 3) aD))))))))) (cQ (ag 2)))))
def Cc:List W->List au->R W:=c8 6 Nm
theorem P7(F:iW K "_law_links" "_law_links" IR f fd)(B:Bl mg) :c6 P w K mg base (iJ P w) 1 f fd MZ (iY K mg 1 Cc):=
 bR (k:=0) F qo rfl fun fC A outer s H E hr=>(av (sS 1 qo (jK ar)) (av (sS 2 qo (jK ar)) (av (iK (im B.range (aa (bS dO B.len bK (aa (ae 0) ar)) ar)) (sG 3 qo) (av (sS 4 qo p_) (av (sS 5 qo p_) (av (cH (cv Lu (be (be (ae 0) (ae 3)) aB) aB) (aH (sS 5 qo (vm PySem.F.slot_list_pop PySem.F.type_list_pop qf (ae 1)))) bO) (av (cH (cv (jd hr) (bB ib (be (be (ae 0) (ae 3)) aB) aB) aB) (aH (sS 4 qo (vm PySem.F.slot_list_pop PySem.F.type_list_pop qf (ae 1)))) bO) (av (cI (nP PySem.F.slot_list_append PySem.F.type_list_append dq (ae 2) (aa (dX (aa (ae 4) (aa (ae 5) ar))) ar))) (aH (cI (nP PySem.F.slot_list_append PySem.F.type_list_append dq (ae 1) (aa (ae 3) ar)))))))))) (aH (bh (ae 2))))))
def Nn:FS:=(aM (bd 4 (bJ je (ah (k_ [none,some 3] (dP (ah (ag 1) aD)) (kH 0) x8 (e2 ku (e2 iX (e2 bu (ag 1) (ag 0)) (eI 2)) (eI 1))) aD))) (aM (bd 5 (l6 aD)) (aM (bd 6 (ag 1)) (aM (mS (dP (ah (e2 Bs (eI 1) (bJ dG (ah (ag 0) aD))) aD)) (kH 7) (aM (bd 8 (l6 aD)) (aM (mS (dP (ah (ag 1) aD)) (kH 9) (aM (dm (oE cu (ag 8) (ah (bJ je (ah (k_ [none,some 2,some 3,some 6] (dP (ah (ag 1) aD)) (kH 0) x8 (e2 iX (e2 bu (ag 2) (e2 cN (ag 3) (ag 0))) (ag 1))) aD)) aD))) (bd 6 (e2 cN (ag 6) (ag 1))))) (dm (oE cu (ag 5) (ah (bJ je (ah (ag 8) aD)) aD)))))) (cQ (fJ (ah (ag 0) (ah (ag 4) (ah (bJ je (ah (ag 5) aD)) aD)))))))))
def Cd:List W->List au->R W:=c8 10 Nn
theorem P8(F:iW K "_law_machine" "_law_machine" IS f fd)(B:Bl mg) :c6 P w K mg base (iJ P w) 1 f fd M0 (iY K mg 4 Cd):=
 bR (k:=0) F qp rfl fun fC A outer s H E hr=>(av (sS 4 qp (gg kZ B.tuple fw (aa (DH (nm:=["_law_k","_law_draws_here"]) (cap:=[none,some 3]) (by first|rfl|kernel_rfl) rfl (im B.range (aa (ae 1) ar)) (fun _ _ _ _ _=>(sC 0)) (fun _ _ _ _ _=>vS) (fun _ _ _ _ _=>(sV (jd hr) (bB ib (be (ae 1) (ae 0)) aB) aB))) ar))) (av (sS 5 qp (jK ar)) (av (sS 6 qp (ae 1)) (av (iK (im B.range (aa (bB Mx aB (bS dO B.len bK (aa (ae 0) ar))) ar)) (sG 7 qp) (av (sS 8 qp (jK ar)) (av (iK (im B.range (aa (ae 1) ar)) (sG 9 qp) (av (cI (nP PySem.F.slot_list_append PySem.F.type_list_append dq (ae 8) (aa (gg kZ B.tuple fw (aa (DH (nm:=["_law_r","_law_top","_law_draws_here","_law_at"]) (cap:=[none,some 2,some 3,some 6]) (by first|rfl|kernel_rfl) rfl (im B.range (aa (ae 1) ar)) (fun _ _ _ _ _=>(sC 0)) (fun _ _ _ _ _=>vS) (fun _ _ _ _ _=>(bB ib (be (ae 2) (bB cE (ae 3) (ae 0))) (ae 1)))) ar)) ar))) (aH (sS 6 qp (bB cE (ae 6) (ae 1)))))) (aH (cI (nP PySem.F.slot_list_append PySem.F.type_list_append dq (ae 5) (aa (gg kZ B.tuple fw (aa (ae 8) ar)) ar))))))) (aH (bh (dX (aa (ae 0) (aa (ae 4) (aa (gg kZ B.tuple fw (aa (ae 5) ar)) ar))))))))))
def No:FS:=(aM (bd 2 (eI 0)) (aM (mS (ic (ag 0)) (kH 3) (bd 2 (e2 cN (e2 jc (eI 2) (ag 2)) (bJ yX (ah (e2 (GN false) (ag 3) (ag 1)) aD))))) (cQ (ag 2))))
def y_:List W->List au->R W:=c8 4 No
theorem P9(F:iW K "_law_letter" "_law_letter" IT f fd)(B:Bl mg) :c6 P w K mg base (iJ P w) 1 f fd M1 (iY K mg 2 y_):=
 bR (k:=0) F Al rfl fun fC A outer s H E hr=>(av (sS 2 Al aB) (av (iK (nr (ae 0)) (sG 3 Al) (aH (sS 2 Al (bB cE (bB j7 aB (ae 2)) (gg DL B.int qL (aa (sV (Lw hr) (ae 3) (ae 1)) ar)))))) (aH (bh (ae 2)))))
def Np:FS:=(aM (bd 2 (l6 aD)) (aM (bd 3 (l6 aD)) (aM (mS (ic (ag 1)) (HG 2 (gq (kH 4) (gq (kH 5) rq))) (aM (bd 6 (eI 0)) (aM (bd 7 (eI 0)) (aM (gz (eO (e2 OT (ag 4) (eI 2))) (bd 7 (oE qZ (ag 2) aD)) bW) (aM (gz (eO (e2 ku (e2 iX (ag 4) (eI 2)) (eI 1))) (bd 6 (oE qZ (ag 2) aD)) bW) (aM (dm (oE cu (ag 2) (ah (e2 bu (e2 bu (e2 bu (e2 bu (ag 0) (eI 2)) (b7 2 y_ (ah (e2 bu (ag 0) (eI 0)) (ah (ag 5) aD)))) (ag 6)) (ag 7)) aD))) (dm (oE cu (ag 3) (ah (e2 bu (ag 2) (r_ (eI 1))) aD))))))))) (cQ (ag 3)))))
def xo:List W->List au->R W:=c8 8 Np
theorem P_(F:iW K "_law_run" "_law_run" IU f fd) (Kd:bQ P w K mg base 1 "_law_letter" 2 y_):c6 P w K mg base (iJ P w) 2 f fd M2 (iY K mg 2 xo):=
 bR (k:=1) F oM rfl fun fC A outer s H E hr=>(av (sS 2 oM (jK ar)) (av (sS 3 oM (jK ar)) (av (iK (nr (ae 1)) (oy rfl (d7 (sG 4 oM) (d7 (sG 5 oM) l_))) (av (sS 6 oM aB) (av (sS 7 oM aB) (av (cH (cv Lu (ae 4) aB) (aH (sS 7 oM (vm PySem.F.slot_list_pop PySem.F.type_list_pop qf (ae 2)))) bO) (av (cH (cv (jd hr) (bB ib (ae 4) aB) aB) (aH (sS 6 oM (vm PySem.F.slot_list_pop PySem.F.type_list_pop qf (ae 2)))) bO) (av (cI (nP PySem.F.slot_list_append PySem.F.type_list_append dq (ae 2) (aa (be (be (be (be (ae 0) aB) (bx Kd hr #[0] (aa (be (ae 0) aB) (aa (ae 5) ar)))) (ae 6)) (ae 7)) ar))) (aH (cI (nP PySem.F.slot_list_append PySem.F.type_list_append dq (ae 3) (aa (be (ae 2) (wL aB)) ar)))))))))) (aH (bh (ae 3))))))
def Nq:FS:=(aM (gz (eO (e2 ku (bJ dG (ah (ag 1) aD)) (eI 0))) (cQ (e2 bu (e2 bu (ag 0) (eI 1)) (eI 0))) bW) (cQ (e2 bu (e2 bu (ag 0) (eI 1)) (e2 bu (b7 2 xo (ah (ag 0) (ah (ag 1) aD))) (r_ (eI 1))))))
def Ce:List W->List au->R W:=c8 2 Nq
theorem P'(F:iW K "_law_lets" "_law_lets" IV f fd)(B:Bl mg)(zq:bQ P w K mg base 2 "_law_run" 2 xo):c6 P w K mg base (iJ P w) 3 f fd M3 (iY K mg 2 Ce):=
 bR (k:=2) F PH rfl fun fC A outer s H E hr=>(av (cH (cv (jd hr) (bS dO B.len bK (aa (ae 1) ar)) aB) (aH (bh (be (be (ae 0) aB) aB))) bO) (aH (bh (be (be (ae 0) aB) (be (bx zq hr #[0] (aa (ae 0) (aa (ae 1) ar))) (wL aB))))))
def Nr:FS:=(aM (bd 1 (l6 aD)) (aM (mS (ic (ag 0)) (HG 2 (gq (kH 2) (gq (kH 3) rq))) (aM (bd 4 (eI 1)) (aM (gz (eO (iB (ag 2))) (bd 4 (e2 cN (ag 4) (e2 bu (ag 1) (ag 2)))) bW) (aM (gz (eO (iB (ag 3))) (bd 4 (e2 cN (ag 4) (e2 bu (ag 1) (ag 3)))) bW) (dm (oE cu (ag 1) (ah (ag 4) aD))))))) (cQ (ag 1))))
def Cf:List W->List au->R W:=c8 5 Nr
theorem Qa(F:iW K "_law_sizes" "_law_sizes" IW f fd)  :c6 P w K mg base (iJ P w) 1 f fd M4 (iY K mg 1 Cf):=
 bR (k:=0) F su rfl fun fC A outer s H E hr=>(av (sS 1 su (jK ar)) (av (iK (nr (ae 0)) (oy rfl (d7 (sG 2 su) (d7 (sG 3 su) l_))) (av (sS 4 su aB) (av (cH (jr (ae 2)) (aH (sS 4 su (bB cE (ae 4) (be (ae 1) (ae 2))))) bO) (av (cH (jr (ae 3)) (aH (sS 4 su (bB cE (ae 4) (be (ae 1) (ae 3))))) bO) (aH (cI (nP PySem.F.slot_list_append PySem.F.type_list_append dq (ae 1) (aa (ae 4) ar)))))))) (aH (bh (ae 1)))))
def Tt:FS:=(aM (bd 2 (b7 1 Cc (ah (ag 0) aD))) (aM (bd 3 (b7 1 Cf (ah (ag 2) aD))) (aM (bd 4 (ag 1)) (aM (gz (eO (iB (e2 bu (e2 bu (ag 2) (ag 1)) (eI 1)))) (bd 4 (e2 lD (ag 1) (e2 bu (ag 3) (e2 bu (e2 bu (ag 2) (ag 1)) (eI 1))))) bW) (aM (bd 5 (ag 4)) (aM (gz (eO (iB (e2 bu (e2 bu (ag 2) (ag 1)) (eI 0)))) (bd 5 (e2 lD (ag 4) (e2 bu (ag 3) (e2 bu (e2 bu (ag 2) (ag 1)) (eI 0))))) bW) (cQ (fJ (ah (ag 5) (ah (ag 4) aD))))))))))
def Cg:List W->List au->R W:=c8 6 Tt
theorem Qb(F:iW K "_law_bounds" "_law_bounds" IX f fd) (Kq:bQ P w K mg base 1 "_law_links" 1 Cc)(Kl:bQ P w K mg base 1 "_law_sizes" 1 Cf):c6 P w K mg base (iJ P w) 2 f fd M5 (iY K mg 2 Cg):=
 bR (k:=1) F sw rfl fun fC A outer s H E hr=>(av (sS 2 sw (bx Kq hr #[0] (aa (ae 0) ar))) (av (sS 3 sw (bx Kl hr #[0] (aa (ae 2) ar))) (av (sS 4 sw (ae 1)) (av (cH (jr (be (be (ae 2) (ae 1)) aB)) (aH (sS 4 sw (bB jZ (ae 1) (be (ae 3) (be (be (ae 2) (ae 1)) aB))))) bO) (av (sS 5 sw (ae 4)) (av (cH (jr (be (be (ae 2) (ae 1)) aB)) (aH (sS 5 sw (bB jZ (ae 4) (be (ae 3) (be (be (ae 2) (ae 1)) aB))))) bO) (aH (bh (dX (aa (ae 5) (aa (ae 4) ar)))))))))))
def Tu:FS:=(aM (wF (b7 2 Cg (ah (ag 0) (ah (ag 1) aD))) (HG 2 (gq (kH 4) (gq (kH 5) rq)))) (aM (bd 6 (rk (ag 0) (eW (ag 4)) (eW (ag 5)))) (aM (bd 7 (rk (ag 0) (eW (ag 5)) (eW (ag 1)))) (aM (gz (eO (e2 ku (ag 2) (eC (.str [108,101,102,116])))) (bd 6 (ag 3)) (bd 7 (ag 3))) (aM (bd 8 (fJ (ah (e2 cN (bJ yX (ah (e2 F' (bJ dG (ah (ag 6) aD)) (eI 0)) aD)) (e2 jc (eI 2) (bJ yX (ah (e2 F' (bJ dG (ah (ag 7) aD)) (eI 0)) aD)))) (ah (e2 bu (e2 bu (ag 0) (ag 1)) (eI 1)) aD)))) (cQ (e2 cN (e2 cN (e2 cN (e2 cN (rk (ag 0) gM (eW (ag 4))) (ag 6)) (ag 7)) (fJ (ah (ag 8) aD))) (rk (ag 0) (eW (e2 cN (ag 1) (eI 1))) gM))))))))
def Ch:List W->List au->R W:=c8 9 Tu
theorem Qc(F:iW K "_law_branched" "_law_branched" IY f fd)(B:Bl mg)(Km:bQ P w K mg base 2 "_law_bounds" 2 Cg):c6 P w K mg base (iJ P w) 3 f fd M6 (iY K mg 4 Ch):=
 bR (k:=2) F qr rfl fun fC A outer s H E hr=>(av (DC (bx Km hr #[0] (aa (ae 0) (aa (ae 1) ar))) (oy rfl (d7 (sG 4 qr) (d7 (sG 5 qr) l_)))) (av (sS 6 qr (l9 (ae 0) (dr (ae 4)) (dr (ae 5)))) (av (sS 7 qr (l9 (ae 0) (dr (ae 5)) (dr (ae 1)))) (av (cH (cv (jd hr) (ae 2) eZ) (aH (sS 6 qr (ae 3))) (aH (sS 7 qr (ae 3)))) (av (sS 8 qr (dX (aa (bB cE (gg DL B.int qL (aa (sV x5 (bS dO B.len bK (aa (ae 6) ar)) aB) ar)) (bB j7 aB (gg DL B.int qL (aa (sV x5 (bS dO B.len bK (aa (ae 7) ar)) aB) ar)))) (aa (be (be (ae 0) (ae 1)) aB) ar)))) (aH (bh (bB cE (bB cE (bB cE (bB cE (l9 (ae 0) e_ (dr (ae 4))) (ae 6)) (ae 7)) (dX (aa (ae 8) ar))) (l9 (ae 0) (dr (bB cE (ae 1) aB)) e_)))))))))
def Nt:FS:=(aM (bd 1 (b7 3 mx (ah (b7 2 mw (ah (ag 0) (ah (eI 0) aD))) (ah (eI 4) (ah (eI 100003) aD))))) (aM (bd 2 (b7 3 y9 (ah (b7 2 mw (ah (ag 0) (ah (eI 1) aD))) (ah (eI 4) (ah (eI 200017) aD))))) (aM (bd 3 (e2 cN (eI 1) (e2 iX (e2 bu (ag 1) (eI 0)) (eI 4)))) (aM (bd 4 (KA pF (eC (.str [])) (ah (bJ lE (ah (rk (ag 2) gM (eW (e2 iX (e2 bu (ag 1) (eI 1)) (eI 3)))) aD)) aD))) (aM (gz (eO (e2 ku (ag 3) (eI 4))) (bd 4 (rk (ag 4) gM (eW (eI 1)))) bW) (aM (bd 5 (e2 cN (ag 3) (e2 jc (e2 jc (ag 3) (ag 3)) (e2 Bs (eI 1) (bJ dG (ah (ag 4) aD)))))) (aM (bd 6 (b7 4 Cd (ah (ag 4) (ah (ag 3) (ah (ag 3) (ah (b7 3 mx (ah (b7 2 mw (ah (ag 0) (ah (eI 2) aD))) (ah (ag 5) (ah (eI 300007) aD)))) aD)))))) (aM (bd 7 (e2 iX (e2 bu (ag 1) (eI 2)) (eI 8))) (aM (gz (eO (e2 ku (e2 iX (e2 bu (ag 1) (eI 3)) (eI 4)) (eI 1))) (bd 7 (e2 iX (e2 bu (ag 1) (eI 2)) (eI 41))) bW) (cQ (fJ (ah (ag 6) (ah (b7 2 xn (ah (b7 3 mx (ah (b7 2 mw (ah (ag 0) (ah (eI 3) aD))) (ah (ag 7) (ah (eI 400009) aD)))) (ah (ag 2) aD))) (ah (ag 2) aD))))))))))))))
def Ci:List W->List au->R W:=c8 8 Nt
theorem Qd(F:iW K "_law_start" "_law_start" IZ f fd)(B:Bl mg)(n6:bQ P w K mg base 1 "_law_cell" 2 mw)(qC:bQ P w K mg base 2 "_law_draws" 3 mx)(Kf:bQ P w K mg base 1 "_law_machine" 4 Cd)(J6:bQ P w K mg base 3 "_law_pool" 3 y9)(zm:bQ P w K mg base 2 "_law_tree" 2 xn):c6 P w K mg base (iJ P w) 4 f fd M7 (iY K mg 1 Ci):=
 bR (k:=3) F nC rfl fun fC A outer s H E hr=>(av (sS 1 nC (bx qC hr #[0] (aa (bx n6 hr #[0] (aa (ae 0) (aa aB ar))) (aa aB (aa aB ar))))) (av (sS 2 nC (bx J6 hr #[0] (aa (bx n6 hr #[0] (aa (ae 0) (aa aB ar))) (aa aB (aa aB ar))))) (av (sS 3 nC (bB cE aB (bB ib #[19] aB))) (av (sS 4 nC (Ly PySem.F.slot_str_join PySem.F.type_str_join vR eZ (aa (bS zS B.sorted qK (aa (l9 (ae 2) e_ (dr (bB ib #[19] aB))) ar)) ar))) (av (cH (cv (jd hr) (ae 3) aB) (aH (sS 4 nC (l9 (ae 4) e_ (dr aB)))) bO) (av (sS 5 nC (bB cE (ae 3) (bB j7 (bB j7 (ae 3) (ae 3)) (bB Mx aB (bS dO B.len bK (aa (ae 4) ar)))))) (av (sS 6 nC (bx Kf hr #[0] (aa (ae 4) (aa (ae 3) (aa (ae 3) (aa (bx qC hr #[0] (aa (bx n6 hr #[0] (aa (ae 0) (aa aB ar))) (aa (ae 5) (aa aB ar)))) ar)))))) (av (sS 7 nC (bB ib #[19] aB)) (av (cH (cv (jd hr) (bB ib #[19] aB) aB) (aH (sS 7 nC (bB ib #[19] aB))) bO) (aH (bh (dX (aa (ae 6) (aa (bx zm hr #[0] (aa (bx qC hr #[0] (aa (bx n6 hr #[0] (aa (ae 0) (aa aB ar))) (aa (ae 7) (aa aB ar)))) (aa (ae 2) ar))) (aa (ae 2) ar)))))))))))))))
def Nu:FS:=(aM (bd 5 (b7 3 mx (ah (b7 2 mw (ah (ag 0) (ah (e2 cN (eI 4) (ag 1)) aD))) (ah (eI 12) (ah (e2 cN (eI 500009) (e2 jc (eI 101) (ag 1))) aD))))) (aM (bd 6 (b7 2 xn (ah (rk (ag 5) (eW (eI 6)) (eW (e2 cN (eI 6) (e2 iX (e2 bu (ag 5) (eI 5)) (eI 6))))) (ah (ag 4) aD)))) (aM (bd 7 (e2 iX (e2 bu (ag 5) (eI 0)) (ag 2))) (aM (gz (eO (e2 ku (ag 7) (eI 8))) (cQ (fJ (ah (eC (.str [98,97,99,107])) aD))) bW) (aM (gz (eO (e2 ku (ag 7) (eI 9))) (cQ (fJ (ah (eC (.str [97,103,97,105,110])) aD))) bW) (aM (gz (F8 (eO (e2 ku (ag 7) (eI 7))) (eO (e2 ku (bJ dG (ah (ag 3) aD)) (eI 0)))) (cQ (fJ (ah (eC (.str [119,104,111,108,101])) (ah (ag 6) aD)))) bW) (aM (bd 8 (e2 iX (e2 cN (e2 jc (eI 64) (e2 bu (ag 5) (eI 1))) (e2 bu (ag 5) (eI 2))) (bJ dG (ah (ag 3) aD)))) (aM (gz (eO (e2 Ls (ag 7) (eI 4))) (cQ (fJ (ah (e2 bu (l6 (ah (eC (.str [112,117,116])) (ah (eC (.str [116,97,107,101])) aD))) (e2 vi (ag 7) (eI 2))) (ah (ag 8) (ah (e2 bu (ag 4) (e2 iX (e2 bu (ag 5) (eI 3)) (eI 4))) aD))))) bW) (cQ (fJ (ah (eC (.str [98,114,97,110,99,104])) (ah (ag 8) (ah (e2 bu (l6 (ah (eC (.str [108,101,102,116])) (ah (eC (.str [114,105,103,104,116])) aD))) (e2 iX (e2 bu (ag 5) (eI 4)) (eI 2))) (ah (ag 6) aD))))))))))))))
def rK:List W->List au->R W:=c8 9 Nu
theorem Qe(F:iW K "_law_planned" "_law_planned" I_ f fd)(B:Bl mg)(n6:bQ P w K mg base 1 "_law_cell" 2 mw)(qC:bQ P w K mg base 2 "_law_draws" 3 mx)(zm:bQ P w K mg base 2 "_law_tree" 2 xn):c6 P w K mg base (iJ P w) 3 f fd M8 (iY K mg 5 rK):=
 bR (k:=2) F xc rfl fun fC A outer s H E hr=>(av (sS 5 xc (bx qC hr #[0] (aa (bx n6 hr #[0] (aa (ae 0) (aa (bB cE aB (ae 1)) ar))) (aa aB (aa (bB cE aB (bB j7 aB (ae 1))) ar))))) (av (sS 6 xc (bx zm hr #[0] (aa (l9 (ae 5) (dr aB) (dr (bB cE aB (bB ib (be (ae 5) aB) aB)))) (aa (ae 4) ar)))) (av (sS 7 xc (bB ib (be (ae 5) aB) (ae 2))) (av (cH (cv (jd hr) (ae 7) aB) (aH (bh (dX (aa eZ ar)))) bO) (av (cH (cv (jd hr) (ae 7) aB) (aH (bh (dX (aa eZ ar)))) bO) (av (cH (zK (yM (cv (jd hr) (ae 7) aB) (uz (cv (jd hr) (bS dO B.len bK (aa (ae 3) ar)) aB)))) (aH (bh (dX (aa eZ (aa (ae 6) ar))))) bO) (av (sS 8 xc (bB ib (bB cE (bB j7 aB (be (ae 5) aB)) (be (ae 5) aB)) (bS dO B.len bK (aa (ae 3) ar)))) (av (cH (cv w_lt (ae 7) aB) (aH (bh (dX (aa (be (jK (aa eZ (aa eZ ar))) (bB uC (ae 7) aB)) (aa (ae 8) (aa (be (ae 4) (bB ib (be (ae 5) aB) aB)) ar)))))) bO) (aH (bh (dX (aa eZ (aa (ae 8) (aa (be (jK (aa eZ (aa eZ ar))) (bB ib (be (ae 5) aB) aB)) (aa (ae 6) ar)))))))))))))))
def Tw:FS:=(aM (gz (eO (e2 ku (e2 bu (ag 1) (eI 0)) (eC (.str [119,104,111,108,101])))) (cQ (e2 bu (ag 1) (eI 1))) bW) (aM (gz (eO (e2 ku (e2 bu (ag 1) (eI 0)) (eC (.str [98,114,97,110,99,104])))) (cQ (b7 4 Ch (ah (ag 0) (ah (e2 bu (ag 1) (eI 1)) (ah (e2 bu (ag 1) (eI 2)) (ah (e2 bu (ag 1) (eI 3)) aD)))))) bW) (aM (wF (e2 bu (ag 0) (e2 bu (ag 1) (eI 1))) (HG 2 (gq (kH 2) (gq (kH 3) rq)))) (aM (wF (k_ [none,some 1] (ic (ag 3)) (kH 0) (eO (e2 Kz (ag 0) (e2 bu (ag 1) (eI 2)))) (ag 0)) (kH 3)) (aM (gz (eO (e2 ku (e2 bu (ag 1) (eI 0)) (eC (.str [112,117,116])))) (dm (oE cu (ag 3) (ah (e2 bu (ag 1) (eI 2)) aD))) bW) (cQ (e2 cN (e2 cN (rk (ag 0) gM (eW (e2 bu (ag 1) (eI 1)))) (fJ (ah (fJ (ah (ag 2) (ah (KA pF (eC (.str [])) (ah (bJ lE (ah (ag 3) aD)) aD)) aD))) aD))) (rk (ag 0) (eW (e2 cN (e2 bu (ag 1) (eI 1)) (eI 1))) gM))))))))
def qu:List W->List au->R W:=c8 4 Tw
theorem Qf(F:iW K "_law_changed" "_law_changed" Ja f fd)(B:Bl mg)(J1:bQ P w K mg base 3 "_law_branched" 4 Ch):c6 P w K mg base (iJ P w) 4 f fd M9 (iY K mg 2 qu):=
 bR (k:=3) F Ao rfl fun fC A outer s H E hr=>(av (cH (cv (jd hr) #[19] eZ) (aH (bh #[19])) bO) (av (cH (cv (jd hr) #[19] eZ) (aH (bh (bx J1 hr #[0] (aa (ae 0) (aa #[19] (aa #[19] (aa #[19] ar))))))) bO) (av (DC (be (ae 0) #[19]) (oy rfl (d7 (sG 2 Ao) (d7 (sG 3 Ao) l_)))) (av (r6 (sG 3 Ao) (nm:=["_law_letter_here","_law_deed"]) (cap:=[none,some 1]) (by first|rfl|kernel_rfl) rfl (nr (ae 3)) (fun _ _ _ _ _=>(sC 0)) (fun _ _ _ _ _=>(E1 (cv (OU hr) (ae 0) #[19]))) (fun _ _ _ _ _=>(ae 0))) (av (cH (cv (jd hr) #[19] eZ) (aH (cI (nP PySem.F.slot_list_append PySem.F.type_list_append dq (ae 3) (aa #[19] ar)))) bO) (aH (bh (bB cE (bB cE (l9 (ae 0) e_ (dr #[19])) (dX (aa (dX (aa (ae 2) (aa (Ly PySem.F.slot_str_join PySem.F.type_str_join vR eZ (aa (bS zS B.sorted qK (aa (ae 3) ar)) ar)) ar))) ar))) (l9 (ae 0) (dr (bB cE #[19] aB)) e_)))))))))
def Jn:FS:=(aM (gz (eO (e2 ku (e2 bu (ag 1) (eI 0)) (eC (.str [112,117,116])))) (cQ (ie "Kept" "put" 3 kO (ag 0) (ah (e2 bu (ag 1) (eI 1)) (ah (e2 bu (ag 1) (eI 2)) aD)))) bW) (aM (gz (eO (e2 ku (e2 bu (ag 1) (eI 0)) (eC (.str [116,97,107,101])))) (cQ (ie "Kept" "take" 3 jO (ag 0) (ah (e2 bu (ag 1) (eI 1)) (ah (e2 bu (ag 1) (eI 2)) aD)))) bW) (aM (gz (eO (e2 ku (e2 bu (ag 1) (eI 0)) (eC (.str [98,114,97,110,99,104])))) (cQ (ie "Kept" "branch" 4 ip (ag 0) (ah (e2 bu (ag 1) (eI 1)) (ah (e2 bu (ag 1) (eI 2)) (ah (e2 bu (ag 1) (eI 3)) aD))))) bW) (aM (gz (eO (e2 ku (e2 bu (ag 1) (eI 0)) (eC (.str [119,104,111,108,101])))) (cQ (ie "Kept" "whole" 2 gk (ag 0) (ah (e2 bu (ag 1) (eI 1)) aD))) bW) (aM (gz (eO (e2 ku (e2 bu (ag 1) (eI 0)) (eC (.str [98,97,99,107])))) (cQ (ie "Kept" "back" 1 gl (ag 0) aD)) bW) (cQ (ie "Kept" "again" 1 hX (ag 0) aD)))))))
def ij:List W->List au->R W:=c8 2 Jn
theorem Qg(F:iW K "_law_doing" "_law_doing" Jb f fd) (oY:iy P w K mg base 8 "Kept" "again" 1 hX)(jQ:iy P w K mg base 8 "Kept" "back" 1 gl)(nE:iy P w K mg base 9 "Kept" "branch" 4 ip)(sF:iy P w K mg base 10 "Kept" "put" 3 kO)(qD:iy P w K mg base 10 "Kept" "take" 3 jO)(i8:iy P w K mg base 9 "Kept" "whole" 2 gk):c6 P w K mg base (iJ P w) 11 f fd M_ (iY K mg 2 ij):=
 bR (k:=10) F PJ rfl fun fC A outer s H E hr=>(av (cH (cv (jd hr) #[19] eZ) (aH (bh (kI sF hr #[0] (ae 0) (aa #[19] (aa #[19] ar))))) bO) (av (cH (cv (jd hr) #[19] eZ) (aH (bh (kI qD hr #[0] (ae 0) (aa #[19] (aa #[19] ar))))) bO) (av (cH (cv (jd hr) #[19] eZ) (aH (bh (kI nE hr #[0] (ae 0) (aa #[19] (aa #[19] (aa #[19] ar)))))) bO) (av (cH (cv (jd hr) #[19] eZ) (aH (bh (kI i8 hr #[0] (ae 0) (aa #[19] ar)))) bO) (av (cH (cv (jd hr) #[19] eZ) (aH (bh (qS jQ hr #[0] (ae 0)))) bO) (aH (bh (qS oY hr #[0] (ae 0)))))))))
def Tx:FS:=(aM (mS (dP (ah (eI 3) aD)) (kH 4) (aM (bd 5 (e2 iX (e2 cN (ag 3) (ag 4)) (eI 3))) (aM (gz (Ky (eO (e2 ku (ag 5) (eI 0))) (A6 (eO (b7 2 (j9 40) (ah (ie "Kept" "rooms_now" 1 gP (ag 0) aD) (ah (bJ je (ah (b7 2 xo (ah (ag 1) (ah (ag 2) aD))) aD)) aD)))))) (cQ (eC (.bl false))) bW) (aM (gz (Ky (eO (e2 ku (ag 5) (eI 1))) (A6 (eO (b7 2 (j9 40) (ah (ie "Kept" "lets_now" 1 ii (ag 0) aD) (ah (b7 2 Ce (ah (ag 1) (ah (ag 2) aD))) aD)))))) (cQ (eC (.bl false))) bW) (gz (Ky (eO (e2 ku (ag 5) (eI 2))) (A6 (eO (b7 2 (j9 40) (ah (ie "Kept" "tree_now" 1 ig (ag 0) aD) (ah (ag 2) aD)))))) (cQ (eC (.bl false))) bW))))) (cQ (eC (.bl true))))
def qv:List W->List au->R W:=c8 6 Tx
theorem Qh(F:iW K "_law_stands" "_law_stands" Jc f fd)(B:Bl mg)(lM:iy P w K mg base 1 "Kept" "lets_now" 1 ii)(kR:iy P w K mg base 1 "Kept" "rooms_now" 1 gP)(lN:iy P w K mg base 1 "Kept" "tree_now" 1 ig)(Kt:bQ P w K mg base 3 "_law_lets" 2 Ce)(zq:bQ P w K mg base 2 "_law_run" 2 xo)(rO:bQ P w K mg base 40 "_law_same" 2 (j9 40)):c6 P w K mg base (iJ P w) 41 f fd M' (iY K mg 4 qv):=
 bR (k:=40) F D1 rfl fun fC A outer s H E hr=>(av (iK (im B.range (aa aB ar)) (sG 4 D1) (av (sS 5 D1 (bB ib (bB cE (ae 3) (ae 4)) aB)) (av (cH (zK (Dx (cv (jd hr) (ae 5) aB) (zJ (kG (hU (bx rO hr #[0] (aa (qS kR hr #[0] (ae 0)) (aa (gg kZ B.tuple fw (aa (bx zq hr #[0] (aa (ae 1) (aa (ae 2) ar))) ar)) ar)))))))) (aH (bh ou)) bO) (av (cH (zK (Dx (cv (jd hr) (ae 5) aB) (zJ (kG (hU (bx rO hr #[0] (aa (qS lM hr #[0] (ae 0)) (aa (bx Kt hr #[0] (aa (ae 1) (aa (ae 2) ar))) ar)))))))) (aH (bh ou)) bO) (aH (cH (zK (Dx (cv (jd hr) (ae 5) aB) (zJ (kG (hU (bx rO hr #[0] (aa (qS lN hr #[0] (ae 0)) (aa (ae 2) ar)))))))) (aH (bh ou)) bO)))))) (aH (bh ou)))
def Nv:FS:=(aM (bd 2 (eC .non)) (aM (HP (bd 2 (b7 2 ij (ah (ag 0) (ah (ag 1) aD)))) rH 3 (bd 2 (fJ (ah (eC (.str [114,101,102,117,115,101,100])) (ah (wS gs (ag 3)) (ah (wS jD (ag 3)) (ah (wS iM (ag 3)) (ah (wS fL (ag 3)) (ah (wS xi (ag 3)) aD))))))))) (cQ (ag 2))))
def Cj:List W->List au->R W:=c8 4 Nv
theorem Qi(F:iW K "_law_refused" "_law_refused" Jd f fd)(B:Bl mg)(C:Cls K mg)(rN:bQ P w K mg base 11 "_law_doing" 2 ij):c6 P w K mg base (iJ P w) 12 f fd Na (iY K mg 2 Cj):=
 bR (k:=11) F xh rfl fun fC A outer s H E hr=>(av (sS 2 xh p_) (av (O0 (i:=3) C.catch_TrunkError xh.nd rfl (Or.inl rfl) (fun _ _=>(aH (sS 2 xh (bx rN hr #[0] (aa (ae 0) (aa (ae 1) ar)))))) (fun _=>(aH (sS 2 xh (dX (aa eZ (aa (So B.isinstance B.ValueError LR C.isi_ValueError (ae 3)) (aa (C.isi_NoPlace.elim fun _ h=>HW B.isinstance h.1 h.2 (ae 3)) (aa (C.isi_TooGreat.elim fun _ h=>HW B.isinstance h.1 h.2 (ae 3)) (aa (C.isi_NothingDone.elim fun _ h=>HW B.isinstance h.1 h.2 (ae 3)) (aa (C.isi_t0.elim fun _ h=>h.elim fun _ h=>h.elim fun _ h=>h.elim fun _ h=>h.elim fun _ h=>h.elim fun _ h=>O7 B.isinstance (.cons h.1 rfl #[3] (.cons h.2.1 rfl #[3] (.cons h.2.2.1 rfl #[3] (.cons h.2.2.2.1 rfl #[3] (.cons h.2.2.2.2.1 rfl #[3] (.cons h.2.2.2.2.2.1 rfl #[3] .nil)))))) h.2.2.2.2.2.2 (ao rfl) (ae 3)) ar))))))))))) (aH (bh (ae 2)))))
def Nw:FS:=(aM (oz (eO (e2 Kz (ag 3) (ag 4))) (aM (bd 5 (fJ (ah (eC (.str [98,97,99,107])) aD))) (aM (bd 6 (e2 lD (ag 3) (eI 1))) (aM (gz (eO (e2 Ls (ag 3) (ag 4))) (aM (bd 5 (fJ (ah (eC (.str [97,103,97,105,110])) aD))) (bd 6 (e2 cN (ag 3) (eI 1)))) bW) (aM (gz (F8 (eO (iB (b7 2 ij (ah (ag 0) (ah (ag 5) aD))))) (A6 (eO (b7 4 qv (ah (ag 0) (ah (ag 1) (ah (e2 bu (ag 2) (ag 6)) (ah (ag 6) aD)))))))) (cQ (eC (.bl false))) bW) (bd 3 (ag 6))))))) (cQ (eC (.bl true))))
def vw:List W->List au->R W:=c8 7 Nw
theorem Qj(F:iW K "_law_walked" "_law_walked" Je f fd) (rN:bQ P w K mg base 11 "_law_doing" 2 ij)(rM:bQ P w K mg base 41 "_law_stands" 4 qv):c6 P w K mg base (iJ P w) 42 f fd Nb (iY K mg 5 vw):=
 bR (k:=41) F uU rfl fun fC A outer s H E hr=>(av (wH (cv (OU hr) (ae 3) (ae 4)) (av (sS 5 uU (dX (aa eZ ar))) (av (sS 6 uU (bB jZ (ae 3) aB)) (av (cH (cv w_lt (ae 3) (ae 4)) (av (sS 5 uU (dX (aa eZ ar))) (aH (sS 6 uU (bB cE (ae 3) aB)))) bO) (av (cH (zK (yM (jr (bx rN hr #[0] (aa (ae 0) (aa (ae 5) ar)))) (uz (kG (hU (bx rM hr #[0] (aa (ae 0) (aa (ae 1) (aa (be (ae 2) (ae 6)) (aa (ae 6) ar)))))))))) (aH (bh ou)) bO) (aH (sS 3 uU (ae 6)))))))) (aH (bh ou)))
def Nx:FS:=(aM (bd 4 (fJ (ah (eC (.str [114,101,102,117,115,101,100])) (ah (eC (.bl true)) (ah (eC (.bl false)) (ah (eC (.bl false)) (ah (eC (.bl true)) (ah (eC (.bl false)) aD)))))))) (cQ (zL (b7 2 (j9 40) (ah (b7 2 Cj (ah (ag 0) (ah (ag 3) aD))) (ah (ag 4) aD))) (b7 4 qv (ah (ag 0) (ah (ag 1) (ah (ag 2) (ah (eI 1) aD))))))))
def xp:List W->List au->R W:=c8 5 Nx
theorem Ql(F:iW K "_law_none_left" "_law_none_left" Jf f fd) (Kc:bQ P w K mg base 12 "_law_refused" 2 Cj)(rO:bQ P w K mg base 40 "_law_same" 2 (j9 40))(rM:bQ P w K mg base 41 "_law_stands" 4 qv):c6 P w K mg base (iJ P w) 42 f fd Nc (iY K mg 4 xp):=
 bR (k:=41) F Jg rfl fun fC A outer s H E hr=>(av (sS 4 Jg (dX (aa eZ (aa ou (aa ou (aa ou (aa ou (aa ou ar)))))))) (aH (bh (yN (bx rO hr #[0] (aa (bx Kc hr #[0] (aa (ae 0) (aa (ae 3) ar))) (aa (ae 4) ar))) (Bq (bx rM hr #[0] (aa (ae 0) (aa (ae 1) (aa (ae 2) (aa aB ar))))))))))
def Ny:FS:=(aM (wF (b7 1 Ci (ah (ag 0) aD)) (HG 3 (gq (kH 1) (gq (kH 2) (gq (kH 3) rq))))) (aM (bd 4 (BE "Kept" 3 fY (ah (ag 1) (ah (ag 2) aD)))) (aM (bd 5 (BE "Kept" 3 fY (ah (ag 1) (ah (ag 2) aD)))) (aM (bd 6 (l6 (ah (ag 2) aD))) (aM (bd 7 (bJ Gb (ah (eI 58) (ah (bJ DA (ah (eI 3) (ah (e2 lD (bJ dG (ah (ag 0) aD)) (eI 5)) aD))) aD)))) (aM (mS (dP (ah (ag 7) aD)) (kH 8) (aM (bd 9 (b7 5 rK (ah (ag 0) (ah (ag 8) (ah (eI 8) (ah (e2 bu (ag 6) (r_ (eI 1))) (ah (ag 3) aD))))))) (aM (bd 10 (b7 2 qu (ah (e2 bu (ag 6) (r_ (eI 1))) (ah (ag 9) aD)))) (gz (eO (e2 Gf (bJ dG (ah (ag 10) aD)) (eI 100))) (aM (dm (b7 2 ij (ah (ag 4) (ah (ag 9) aD)))) (dm (oE cu (ag 6) (ah (ag 10) aD)))) bW)))) (aM (dm (ie "Kept" "whole" 2 gk (ag 5) (ah (e2 bu (ag 6) (r_ (eI 1))) aD))) (aM (bd 11 (e2 lD (e2 lD (bJ dG (ah (ag 6) aD)) (eI 1)) (e2 iX (b7 3 tU (ah (b7 2 mw (ah (ag 0) (ah (eI 1) aD))) (ah (eI 0) (ah (eI 600011) aD)))) (bJ dG (ah (ag 6) aD))))) (aM (bd 12 (e2 cN (ag 11) (e2 iX (b7 3 tU (ah (b7 2 mw (ah (ag 0) (ah (eI 2) aD))) (ah (eI 0) (ah (eI 700001) aD)))) (e2 lD (bJ dG (ah (ag 6) aD)) (ag 11))))) (aM (gz (A6 (eO (b7 5 vw (ah (ag 4) (ah (ag 1) (ah (ag 6) (ah (e2 lD (bJ dG (ah (ag 6) aD)) (eI 1)) (ah (ag 11) aD)))))))) (cQ (eC (.bl false))) bW) (aM (gz (A6 (eO (b7 5 vw (ah (ag 4) (ah (ag 1) (ah (ag 6) (ah (ag 11) (ah (ag 12) aD)))))))) (cQ (eC (.bl false))) bW) (aM (bd 9 (b7 5 rK (ah (ag 0) (ah (ag 7) (ah (eI 8) (ah (e2 bu (ag 6) (ag 12)) (ah (ag 3) aD))))))) (aM (bd 10 (b7 2 qu (ah (e2 bu (ag 6) (ag 12)) (ah (ag 9) aD)))) (aM (gz (eO (e2 F' (bJ dG (ah (ag 10) aD)) (eI 100))) (aM (bd 9 (fJ (ah (eC (.str [119,104,111,108,101])) (ah (e2 bu (ag 6) (eI 0)) aD)))) (bd 10 (e2 bu (ag 6) (eI 0)))) bW) (aM (dm (b7 2 ij (ah (ag 4) (ah (ag 9) aD)))) (aM (bd 6 (e2 cN (rk (ag 6) gM (eW (e2 cN (ag 12) (eI 1)))) (l6 (ah (ag 10) aD)))) (aM (gz (A6 (eO (b7 4 xp (ah (ag 4) (ah (ag 1) (ah (ag 10) (ah (fJ (ah (eC (.str [97,103,97,105,110])) aD)) aD))))))) (cQ (eC (.bl false))) bW) (aM (gz (F8 (A6 (eO (b7 5 vw (ah (ag 4) (ah (ag 1) (ah (ag 6) (ah (e2 cN (ag 12) (eI 1)) (ah (eI 0) aD)))))))) (A6 (eO (b7 4 xp (ah (ag 4) (ah (ag 1) (ah (ag 2) (ah (fJ (ah (eC (.str [98,97,99,107])) aD)) aD)))))))) (cQ (eC (.bl false))) bW) (aM (gz (F8 (A6 (eO (b7 5 vw (ah (ag 4) (ah (ag 1) (ah (ag 6) (ah (eI 0) (ah (e2 cN (ag 12) (eI 1)) aD)))))))) (A6 (eO (b7 4 xp (ah (ag 4) (ah (ag 1) (ah (ag 10) (ah (fJ (ah (eC (.str [97,103,97,105,110])) aD)) aD)))))))) (cQ (eC (.bl false))) bW) (aM (dm (ie "Kept" "back" 1 gl (ag 5) aD)) (cQ (zL (b7 4 qv (ah (ag 5) (ah (ag 1) (ah (ag 2) (ah (eI 1) aD))))) (b7 4 qv (ah (ag 4) (ah (ag 1) (ah (ag 10) (ah (eI 2) aD)))))))))))))))))))))))))))
def f_q45:List W->List au->R W:=c8 13 Ny
theorem Qm(F:iW K "law" "law" tM f fd)(B:Bl mg)(jt:LN P w K mg base 4 "Kept" 3 fY)(jQ:iy P w K mg base 8 "Kept" "back" 1 gl)(i8:iy P w K mg base 9 "Kept" "whole" 2 gk)(n6:bQ P w K mg base 1 "_law_cell" 2 mw)(Fs:bQ P w K mg base 4 "_law_changed" 2 qu)(rN:bQ P w K mg base 11 "_law_doing" 2 ij)(xQ:bQ P w K mg base 1 "_law_mixed" 3 tU)(CJ:bQ P w K mg base 42 "_law_none_left" 4 xp)(Ft:bQ P w K mg base 3 "_law_planned" 5 rK)(rM:bQ P w K mg base 41 "_law_stands" 4 qv)(Ki:bQ P w K mg base 4 "_law_start" 1 Ci)(zk:bQ P w K mg base 42 "_law_walked" 5 vw):c6 P w K mg base (iJ P w) 43 f fd Jh (iY K mg 1 f_q45):=
 bR (k:=42) F iz rfl fun fC A outer s H E hr=>(av (DC (bx Ki hr #[0] (aa (ae 0) ar)) (oy rfl (d7 (sG 1 iz) (d7 (sG 2 iz) (d7 (sG 3 iz) l_))))) (av (sS 4 iz (H9 jt hr #[0] (aa (ae 1) (aa (ae 2) ar)))) (av (sS 5 iz (H9 jt hr #[0] (aa (ae 1) (aa (ae 2) ar)))) (av (sS 6 iz (jK (aa (ae 2) ar))) (av (sS 7 iz (bS Sd B.min boot_min (aa aB (aa (bS Sc B.max boot_max (aa aB (aa (bB jZ (bS dO B.len bK (aa (ae 0) ar)) aB) ar))) ar)))) (av (iK (im B.range (aa (ae 7) ar)) (sG 8 iz) (av (sS 9 iz (bx Ft hr #[0] (aa (ae 0) (aa (ae 8) (aa aB (aa (be (ae 6) (wL aB)) (aa (ae 3) ar))))))) (av (sS 10 iz (bx Fs hr #[0] (aa (be (ae 6) (wL aB)) (aa (ae 9) ar)))) (aH (cH (cv Sk (bS dO B.len bK (aa (ae 10) ar)) aB) (av (cI (bx rN hr #[0] (aa (ae 4) (aa (ae 9) ar)))) (aH (cI (nP PySem.F.slot_list_append PySem.F.type_list_append dq (ae 6) (aa (ae 10) ar))))) bO))))) (av (cI (kI i8 hr #[0] (ae 5) (aa (be (ae 6) (wL aB)) ar))) (av (sS 11 iz (bB jZ (bB jZ (bS dO B.len bK (aa (ae 6) ar)) aB) (bB ib (bx xQ hr #[0] (aa (bx n6 hr #[0] (aa (ae 0) (aa aB ar))) (aa aB (aa aB ar)))) (bS dO B.len bK (aa (ae 6) ar))))) (av (sS 12 iz (bB cE (ae 11) (bB ib (bx xQ hr #[0] (aa (bx n6 hr #[0] (aa (ae 0) (aa aB ar))) (aa aB (aa aB ar)))) (bB jZ (bS dO B.len bK (aa (ae 6) ar)) (ae 11))))) (av (cH (kG (hU (bx zk hr #[0] (aa (ae 4) (aa (ae 1) (aa (ae 6) (aa (bB jZ (bS dO B.len bK (aa (ae 6) ar)) aB) (aa (ae 11) ar)))))))) (aH (bh ou)) bO) (av (cH (kG (hU (bx zk hr #[0] (aa (ae 4) (aa (ae 1) (aa (ae 6) (aa (ae 11) (aa (ae 12) ar)))))))) (aH (bh ou)) bO) (av (sS 9 iz (bx Ft hr #[0] (aa (ae 0) (aa (ae 7) (aa aB (aa (be (ae 6) (ae 12)) (aa (ae 3) ar))))))) (av (sS 10 iz (bx Fs hr #[0] (aa (be (ae 6) (ae 12)) (aa (ae 9) ar)))) (av (cH (cv x5 (bS dO B.len bK (aa (ae 10) ar)) aB) (av (sS 9 iz (dX (aa eZ (aa (be (ae 6) aB) ar)))) (aH (sS 10 iz (be (ae 6) aB)))) bO) (av (cI (bx rN hr #[0] (aa (ae 4) (aa (ae 9) ar)))) (av (sS 6 iz (bB cE (l9 (ae 6) e_ (dr (bB cE (ae 12) aB))) (jK (aa (ae 10) ar)))) (av (cH (kG (hU (bx CJ hr #[0] (aa (ae 4) (aa (ae 1) (aa (ae 10) (aa (dX (aa eZ ar)) ar))))))) (aH (bh ou)) bO) (av (cH (zK (yM (kG (hU (bx zk hr #[0] (aa (ae 4) (aa (ae 1) (aa (ae 6) (aa (bB cE (ae 12) aB) (aa aB ar)))))))) (uz (kG (hU (bx CJ hr #[0] (aa (ae 4) (aa (ae 1) (aa (ae 2) (aa (dX (aa eZ ar)) ar)))))))))) (aH (bh ou)) bO) (av (cH (zK (yM (kG (hU (bx zk hr #[0] (aa (ae 4) (aa (ae 1) (aa (ae 6) (aa aB (aa (bB cE (ae 12) aB) ar)))))))) (uz (kG (hU (bx CJ hr #[0] (aa (ae 4) (aa (ae 1) (aa (ae 10) (aa (dX (aa eZ ar)) ar)))))))))) (aH (bh ou)) bO) (av (cI (qS jQ hr #[0] (ae 5))) (aH (bh (yN (bx rM hr #[0] (aa (ae 5) (aa (ae 1) (aa (ae 2) (aa aB ar))))) (Bq (bx rM hr #[0] (aa (ae 4) (aa (ae 1) (aa (ae 10) (aa aB ar)))))))))))))))))))))))))))))
end
abbrev lO(n:Nat):Option W:=some (.loc n)
abbrev iO(q:Int):Option W:=some (.int q)
theorem Qn(ns:List α)(hl:0<ns.length)(k:Int):∃c∈ns,uu ns (k%((ns.length:Nat):Int))=some c:=by
 have h0:0<=k%((ns.length:Nat):Int):=jA _ #[0]
 have h1:k%((ns.length:Nat):Int)<ns.length:=mO _ #[0]
 obtain⟨m,hm⟩:=Int.eq_ofNat_of_zero_le h0
 rw[hm]at h1 ⊢
 have h2:m<ns.length:=by omega
 exact⟨ns[m],dR _,fW (by simp[h2])⟩
theorem oO(h:st[n]?=some (.ro (ns.map W.int)))(k:Int):∃c,mw [.loc n,.int k] st=.ok (.int c) st:=by
 by_cases hn:ns=[]
 ·subst hn
  refine⟨0,?_⟩
  apply qT;apply sf;apply dg
  ·(repeat' (first|with_reducible exact oG (tz h)|walk_at "ev1"))
  ·(walk_at "evs")
 ·have hl:0<ns.length:=List.length_pos_iff.mpr hn
  obtain⟨c,hc,e⟩:=Qn (ns.map W.int) (by simpa using hl) k
  obtain⟨c,_,rfl⟩:=c7.mp hc
  refine⟨c,?_⟩
  apply qT;apply cZ
  ·apply cz
   ·(repeat' (first|with_reducible exact oG (tz h)|walk_at "ev1"))
    rw[bp,aE];omega
   ·(walk_at "evs")
  ·(repeat' (first|with_reducible exact oG (tz h)|with_reducible exact jN (tz h) e|walk_at "ev1"))
   rw[aE];omega
theorem xq(c k s:Int)(hk:-(2^64)<k/\k<2^64)(st:List au):∃r,0<=r/\tU [.int c,.int k,.int s] st=.ok (.int r) st:=by
 have big:∀q:Int,0<=q%2147483647/\q%2147483647<2147483647:=fun q=>⟨jA _ #[3],mO _ #[3]⟩
 refine⟨(((c+7*k*k+13*k+s)*69621%2147483647*((c+7*k*k+13*k+s)*69621%2147483647/1009+3)+31*k+s)%2147483629*48271)%1000000007,jA _ #[3],?_⟩
 apply qT;apply cZ
 ·(walk_at "evs")<;>first|exact .inl #[3]|exact .inr #[3]|exact .inr hk
 ·(walk_at "evs")<;>first|exact .inl #[3]|exact .inr #[3]|exact .inl (by have:=big ((c+7*k*k+13*k+s)*69621);omega)
theorem qw(c s:Int)(m:Nat)(hm:m<=1000)(st:List au):∃ds:List Int,ds.length=m/\(∀d∈ds,0<=d)/\mx [.int c,.int m,.int s] st=.ok #[5] (st++[.lst (ds.map W.int)]):=by
 suffices hh:k6 (A7 fun w bg=>∃j x,w=.loc (st.length+j)/\bg=st++x/\j=0/\∃ds:List Int,x=[.lst (ds.map W.int)]/\ds.length=m/\∀d∈ds,0<=d) (Ni ([W.int c,.int m,.int s].map some++List.replicate (6-3) none) st) by
  obtain⟨j,x,⟨rfl,ds,rfl,h1,h2⟩,e⟩:=vU hh
  exact⟨ds,h1,h2,e⟩
 apply az
 ·(walk_at "evs")
 apply az
 ·(walk_at "evs")
 have main:∀r0:Int,k6 (A7 fun w bg=>∃j x,w=.loc (st.length+j)/\bg=st++x/\j=0/\∃ds:List Int,x=[.lst (ds.map W.int)]/\ds.length=m/\∀d∈ds,0<=d)
   (aM (mS (dP (ah (ag 1) aD)) (kH 5) (gz (eO (e2 F' (ag 4) (eI 0))) (aM (dm (oE cu (ag 3) (ah (e2 iX (ag 4) (eI 64)) aD))) (bd 4 (e2 vi (ag 4) (eI 64)))) (dm (oE cu (ag 3) (ah (b7 3 tU (ah (ag 0) (ah (ag 5) (ah (ag 2) aD)))) aD))))) (cQ (ag 3))
   [some (.int c),some (.int m),some (.int s),some #[5],some (.int r0),none] (st++[.lst []])):=by
  intro r0
  refine gC (fun i ρ bg=>∃(r:Int) (o:Option W) (ds:List Int),ρ=[some (.int c),some (.int m),some (.int s),some #[5],some (.int r),o]/\bg=st++[.lst (ds.map W.int)]/\ds.length=i/\∀d∈ds,0<=d) (j8 (by(walk_at "evs");rfl) #[0])
   ⟨r0,none,[],rfl,rfl,rfl,by simp⟩ (fun _ _ _ _=>trivial) ?_ ?_
  ·rintro i w ρ bg hw ⟨r,o,ds,rfl,rfl,hd,h⟩
   obtain⟨hi,rfl⟩:=kJ hw
   refine⟨_,rfl,?_⟩
   have iE:(st++[au.lst (ds.map W.int)])[st.length]?=some (.lst (ds.map W.int)):=by rw[dQ];rfl
   have hsh:(ds.map W.int).length<nO:=by rw[aE,hd];show i<1000000;omega
   by_cases hr:0<r
   ·apply vp
    ·(walk_at "evs");simpa using hr
    apply az
    ·(repeat' (first|with_reducible exact d8 iE|with_reducible exact pG iE hsh|walk_at "ev1"))
    rw[fX]
    apply dh
    ·(walk_at "evs")
    ·refine⟨_,_,rfl,r/64,_,ds++[r%64],rfl,by simp,by simp[hd],fun d hd'=>?_⟩
     rcases aV.mp hd' with hd'|hd'
     ·exact h d hd'
     ·rw[aZ.mp hd'];exact jA _ #[3]
   ·obtain⟨q,hq,e⟩:=xq c (0+i) s #[0] (st++[au.lst (ds.map W.int)])
    apply m7
    ·(walk_at "evs");simpa using hr
    apply dh
    ·(repeat' (first|with_reducible exact d8 iE|with_reducible exact pG iE hsh|with_reducible exact e|walk_at "ev1"))
    ·refine⟨_,_,rfl,r,_,ds++[q],rfl,by rw[fX];simp,by simp[hd],fun d hd'=>?_⟩
     rcases aV.mp hd' with hd'|hd'
     ·exact h d hd'
     ·rw[aZ.mp hd'];exact hq
  ·rintro ρ bg ⟨r,o,ds,rfl,rfl,hd,h⟩
   apply bP
   ·(walk_at "evs")
   ·exact⟨_,_,rfl,0,_,rfl,rfl,rfl,ds,rfl,by rw[hd];simpa using fK 0 m,h⟩
 by_cases hc:(10:Int)^18<=c
 ·apply az
  ·apply dg
   ·(walk_at "evs")<;>simpa using hc
   ·(walk_at "evs")
  ·exact main c
 ·apply az
  ·apply cz
   ·(walk_at "evs")<;>simpa using hc
   ·(walk_at "evs")
  ·exact main 0
abbrev LL:List Nat:=[65,66,67,68,69,70,71,72,73,74,75,76,77,78,79,80,81,82,83,84,85,86,87,88,89,90,97,98,99,100,101,102,103,104,105,106,107,108,109,110,111,112,113,114,115,116,117,118,119,120,121,122]
theorem LS(c s:Int)(m:Nat)(hm:m<=52)(st:List au):∃l:List Nat,l.length=m/\l.Nodup/\(∀d∈l,d∈LL)/\y9 [.int c,.int m,.int s] st=.ok (.str l) st:=by
 suffices hh:k6 (A7 fun w bg=>(∃x,bg=st++x)/\undWs st.length [w]=true/\∃l:List Nat,w=.str l/\l.length=m/\l.Nodup/\∀d∈l,d∈LL) (Nj ([W.int c,.int m,.int s].map some++List.replicate (7-3) none) st) by
  obtain⟨w,⟨l,rfl,h1,h2,h3⟩,e⟩:=tD hh
  exact⟨l,h1,h2,h3,e⟩
 obtain⟨ds,h1,h2,e⟩:=qw c s m #[0] st
 apply az
 ·(walk_at "evs")
 apply az
 ·(walk_at "evs")
 have iE:lstOf (st++[au.lst (ds.map W.int)]) st.length=some (ds.map W.int):=bX (by rw[dQ];rfl)
 refine gC (fun i ρ bg=>∃(r f:List Nat) (o o2:Option W),ρ=[iO c,iO m,iO s,some (.str r),some (.str f),o,o2]/\bg=st++[.lst (ds.map W.int)]/\f.length=i/\r.length+i=52/\(f++r).Perm LL) (zY (by(repeat' (first|with_reducible exact e|walk_at "ev1"))) iE)
  ⟨LL,[],none,none,rfl,rfl,rfl,rfl,.refl _⟩ (fun i ρ bg h=>?_) ?_ ?_
 ·obtain⟨r,f,o,o2,rfl,rfl,_⟩:=h
  exact iE
 ·rintro i w ρ bg hw ⟨r,f,o,o2,rfl,rfl,hf,hr,hfl⟩
  obtain⟨d,hd,rfl⟩:∃d,ds[i]?=some d/\w=.int d:=by
   simp only[aG,fD]at hw
   obtain⟨d,h1,rfl⟩:=hw
   exact⟨d,h1,rfl⟩
  have hi:i<m:=by rw[<- h1];exact(ax.mp hd).1
  obtain⟨q,hq,eq⟩:=hW (q:=d) (n:=r.length) #[0]
  have hL:r.length<=nO:=by show _<=1000000;omega
  have hLf:f.length<=nO:=by show _<=1000000;omega
  have hat:uu r (d%(r.length:Int))=some r[q]:=by rw[eq];exact fW (by simp[hq])
  refine⟨_,rfl,?_⟩
  apply az
  ·(repeat' (first|with_reducible exact zW hL|walk_at "ev1"))
   show 0<(r.length:Int);omega
  apply az
  ·have ha:f.length+[r[q]].length<=nO:=by show _+1<=1000000;omega
   (repeat' (first|with_reducible exact Ib hL hat|with_reducible exact DN ha|walk_at "ev1"))
  apply dh
  ·(repeat' (first|with_reducible exact Ic hL|walk_at "ev1"))
   rw[eq,m8 #[0],show((q:Int)+1)=((q+1:Nat):Int)from rfl,tF #[0],aF,cf]
   show _<=1000000;omega
  ·refine⟨_,_,rfl,_,_,_,_,rfl,rfl,by simp[hf],?_,?_⟩
   ·rw[eq,m8 #[0],show((q:Int)+1)=((q+1:Nat):Int)from rfl,tF #[0],ai,aF,cf]
    omega
   ·rw[eq,m8 #[0],show((q:Int)+1)=((q+1:Nat):Int)from rfl,tF #[0]]
    refine List.Perm.trans ?_ hfl
    rw[al]
    refine pX f ?_
    have e:r=r.take q++r[q]::r.drop (q+1):=by rw[<- dD hq,List.take_append_drop]
    have e2:(r[q]::(r.take q++r.drop (q+1))).Perm r:=(List.perm_middle.symm).trans (by rw[<- e])
    exact e2
 ·rintro ρ bg ⟨r,f,o,o2,rfl,rfl,hf,hr,hfl⟩
  apply bP
  ·(walk_at "evs")
  ·exact⟨_,_,rfl,⟨_,rfl⟩,rfl,f,rfl,by rw[hf];simpa using h1,(ni.mp (hfl.nodup_iff.mpr #[3])).1,fun d hd=>hfl.mem_iff.mp (bA _ hd)⟩
structure Pl where
 b:Nat
 m:List Nat
def Pl.w(p:Pl):W:=.tup [.int p.b,.str p.m]
def b_(t:List Pl):W:=.tup (t.map Pl.w)
inductive St(n:Nat):List Nat->Nat->List Nat->Nat->Option Nat×Option Nat->Prop
 |z {S:List Nat}:St n S 0 (1::S) 1 (none,none)
 |l {a:Nat} {S:List Nat}:St n (a::S) 1 ((1+a)::S) (1+a) (some (n-1),none)
 |r {a:Nat} {S:List Nat}:St n (a::S) 2 ((1+a)::S) (1+a) (none,some (n-1))
 |b {c a:Nat} {S:List Nat}:St n (c::a::S) 3 ((1+c+a)::S) (1+c+a) (some (n-1-c),some (n-1))
inductive Gr:List Pl->List Nat->List Nat->List #[8]->Prop
 |nil:Gr [] [] [] []
 |snoc {ps:List Pl} {S S' sz:List Nat} {lk:List (Option Nat×Option Nat)} {b k:Nat} {m:List Nat} {x:Option Nat×Option Nat}:Gr ps S sz lk->St ps.length S b S' k x->Gr (ps++[⟨b,m⟩]) S' (sz++[k]) (lk++[x])
def At(sz:List Nat):List Nat->Nat->Prop
 |[],n=>n=0
 |a::S,n=>sz[n-1]?=some a/\a<=n/\1<=a/\At sz S (n-a)
theorem At.app{sz x:List Nat}:∀{S:List Nat} {n:Nat},n<=sz.length->At sz S n->At (sz++x) S n
 |[],_,_,h=>h
 |a::S,n,hn,⟨h1,h2,h3,h4⟩=>⟨by rw[aR (by omega)];exact h1,h2,h3,At.app (by omega) h4⟩
theorem St.at'{sz S':List Nat}{b:Nat}{x:Option Nat×Option Nat}(h:St n S b S' k x)(hn:sz.length=n)(ha:At sz S n):At (sz++[k]) S' (n+1):=by
 have hk:(sz++[k])[n+1-1]?=some k:=by rw[Nat.add_sub_cancel,<- hn];simp
 cases h with
 |z=>exact⟨hk,by omega,by omega,by rw[Nat.add_sub_cancel];exact ha.app (by omega)⟩
 |@l a S=>exact⟨hk,by have:=ha.2.1;omega,by omega,by rw[show n+1-(1+a)=n-a by omega];exact ha.2.2.2.app (by omega)⟩
 |@r a S=>exact⟨hk,by have:=ha.2.1;omega,by omega,by rw[show n+1-(1+a)=n-a by omega];exact ha.2.2.2.app (by omega)⟩
 |@b c a S=>exact⟨hk,by have:=ha.2.1;have:=ha.2.2.2.2.1;omega,by omega,by rw[show n+1-(1+c+a)=n-c-a by omega];exact ha.2.2.2.2.2.2.app (by omega)⟩
theorem Gr.ok{ps:List Pl}{sz:List Nat}{lk:List #[8]}(h:Gr ps S sz lk):sz.length=ps.length/\lk.length=ps.length/\At sz S ps.length:=by
 induction h with
 |nil=>exact⟨rfl,rfl,rfl⟩
 |snoc _ hs ih=>
  obtain⟨h1,h2,h3⟩:=ih
  exact⟨by simp[h1],by simp[h2],by rw[ai];exact hs.at' h1 h3⟩
theorem Gr.step{ps:List Pl}{sz:List Nat}{lk:List #[8]}(h:Gr ps S sz lk):∀i,i<ps.length->∃S1 S2 p k x,Gr (ps.take i) S1 (sz.take i) (lk.take i)/\ps[i]?=some p/\sz[i]?=some k/\lk[i]?=some x/\St i S1 p.b S2 k x/\Gr (ps.take (i+1)) S2 (sz.take (i+1)) (lk.take (i+1)):=by
 induction h with
 |nil=>intro i hi;simp at hi
 |@snoc ps S S' sz lk b k m x hg hs ih=>
  intro i hi
  obtain⟨l1,l2,_⟩:=hg.ok
  by_cases e:i=ps.length
  ·subst e
   refine⟨S,S',⟨b,m⟩,k,x,?_,by simp,by rw[<- l1];simp,by rw[<- l2];simp,hs,?_⟩
   ·rw[gY,<- l1,gY]
    rw[l1,<- l2,gY];exact hg
   ·rw[bj #[15],bj (by simp[l1]),bj (by simp[l2])]
    exact .snoc hg hs
  ·have hi':i<ps.length:=by simp at hi;omega
   obtain⟨S1,S2,p,k1,x1,g1,q1,q2,q3,hs1,g2⟩:=ih i hi'
   refine⟨S1,S2,p,k1,x1,?_,by rw[aR hi'];exact q1,by rw[aR #[0]];exact q2,by rw[aR #[0]];exact q3,hs1,?_⟩
   ·rw[b9 #[0],b9 #[0],b9 #[0]];exact g1
   ·rw[b9 #[0],b9 #[0],b9 #[0]];exact g2
theorem Gr.cut{ps:List Pl}{sz:List Nat}{lk:List #[8]}(h:Gr ps S sz lk)(hi:i<ps.length):∃(p:Pl) (L R:Nat),ps[i]?=some p/\sz[i]?=some (1+L+R)/\L+R<=i/\p.b<=3/\(0<L↔p.b%2=1)/\(0<R↔2<=p.b)/\(2<=p.b->1<=i/\sz[i-1]?=some R):=by
 obtain⟨S1,S2,p,k,x,g1,q1,q2,q3,hs,_⟩:=h.step i hi
 obtain⟨l1,l2,ha⟩:=g1.ok
 have gB:(ps.take i).length=i:=by rw[aF];omega
 rw[gB]at ha
 obtain⟨b,m⟩:=p
 have get:∀j a,1<=i->j=i-1->(sz.take i)[j]?=some a->sz[j]?=some a:=fun j a hi1 hj e=>by
  rw[cw #[0]]at e;exact e
 cases hs with
 |z=>exact⟨⟨0,m⟩,0,0,q1,q2,by omega,by simp,by simp,by simp,by simp⟩
 |@l a S=>
  have ha1:(sz.take i)[i-1]?=some a:=ha.1
  have ha2:a<=i:=ha.2.1
  have ha3:1<=a:=ha.2.2.1
  exact⟨⟨1,m⟩,a,0,q1,q2,by omega,by simp,by simp;omega,by simp,by simp⟩
 |@r a S=>
  have ha1:(sz.take i)[i-1]?=some a:=ha.1
  have ha2:a<=i:=ha.2.1
  have ha3:1<=a:=ha.2.2.1
  exact⟨⟨2,m⟩,0,a,q1,by rw[q2],by omega,by simp,by simp,by simp;omega,fun _=>⟨by omega,get _ _ #[0] rfl ha1⟩⟩
 |@b c a S=>
  have ha1:(sz.take i)[i-1]?=some c:=ha.1
  have ha2:c<=i:=ha.2.1
  have ha3:1<=c:=ha.2.2.1
  have hb2:a<=i-c:=ha.2.2.2.2.1
  have hb3:1<=a:=ha.2.2.2.2.2.1
  exact⟨⟨3,m⟩,a,c,q1,by rw[q2];congr 1<;>omega,by omega,by simp,by simp;omega,by simp;omega,fun _=>⟨by omega,get _ _ #[0] rfl ha1⟩⟩
theorem Tz{b:Nat}(h:b<=3)(st:List au):GN false (.int b) (.tup [.int 1,.int 3]) st=.ok (.bl (decide (b%2=1))) st:=by
 obtain rfl|rfl|rfl|rfl:b=0\/b=1\/b=2\/b=3:=by omega
 all_goals rfl
theorem TB{b:Nat}(h:b<=3)(st:List au):GN false (.int b) (.tup [.int 2,.int 3]) st=.ok (.bl (decide (2<=b))) st:=by
 obtain rfl|rfl|rfl|rfl:b=0\/b=1\/b=2\/b=3:=by omega
 all_goals rfl
theorem LU{p:Pl}(h:p.b<=3)(st:List au):Aq [p.w] st=.ok (.bl (decide (p.b%2=1))) st:=by
 have:=Tz h st
 have i0:bu p.w (.int 0) st=.ok (.int p.b) st:=rfl
 apply fg
 apply bP
 ·(walk_at "evs")
 ·exact⟨_,_,rfl,rfl,rfl⟩
theorem Ck{p:Pl}(h:p.b<=3)(st:List au):xj [p.w] st=.ok (.bl (decide (2<=p.b))) st:=by
 have:=TB h st
 have i0:bu p.w (.int 0) st=.ok (.int p.b) st:=rfl
 apply fg
 apply bP
 ·(walk_at "evs")
 ·exact⟨_,_,rfl,rfl,rfl⟩
def oW:Option Nat->W
 |none=>.non
 |some k=>.int k
def jE(x:Option Nat×Option Nat):W:=.tup [oW x.1,oW x.2]
def jV:List Nat->Nat->List Nat
 |[],_=>[]
 |a::S,n=>(n-1)::jV S (n-a)
theorem i7:∀(S:List Nat) (n:Nat),(jV S n).length=S.length
 |[],_=>rfl
 |a::S,n=>by simp[jV,i7 S]
theorem At.le{sz:List Nat}:∀{S:List Nat} {n:Nat},At sz S n->S.length<=n
 |[],_,_=>bY _
 |a::S,n,⟨_,h2,h3,h4⟩=>by have:=At.le h4;simp;omega
theorem St.det{S1 S2:List Nat}{b k1 k2:Nat}{x1 x2:Option Nat×Option Nat}(h1:St n S b S1 k1 x1)(h2:St n S b S2 k2 x2):S1=S2/\k1=k2/\x1=x2:=by
 cases h1<;>cases h2<;>exact⟨rfl,rfl,rfl⟩
theorem Gr.det{ps:List Pl}{sz:List Nat}{lk:List #[8]}(h:Gr ps S sz lk):∀{UH:List Pl} {S' VB:List Nat} {Q_:List #[8]},Gr UH S' VB Q_->ps=UH->S=S':=by
 induction h with
 |nil=>
  intro UH S' VB Q_ h' e
  cases h' with
  |nil=>rfl
  |snoc _ _=>simp at e
 |snoc hg hs ih=>
  intro UH S' VB Q_ h' e
  cases h' with
  |nil=>simp at e
  |snoc hg' hs'=>
   have e2:=List.append_inj' e rfl
   have:=ih hg' e2.1
   subst this
   have e3:Pl.mk _ _=Pl.mk _ _:=List.head_eq_of_cons_eq e2.2
   injection e3 with eb em
   subst eb
   rw[<- e2.1]at hs'
   exact(hs.det hs').1
def cY(l:List Nat):List W:=l.map fun k:Nat=>W.int k
section
variable{ps:List Pl}{sz:List Nat}{lk:List #[8]}
theorem tV(h:Gr ps S sz lk)(hn:ps.length<=1000)(st:List au):xk [b_ ps] st=.ok (.tup (lk.map jE)) st:=by
 obtain⟨l1,l2,_⟩:=h.ok
 have hu:∀(l:List #[8]) (n:Nat),undWs n (l.map jE)=true:=by
  intro l n
  induction l with
  |nil=>rfl
  |cons x r ih=>
   obtain⟨a,b⟩:=x
   simp only[bq,undWs,ih,dL,jE,W.und]
   cases a<;>cases b<;>rfl
 refine fq (N:=7) (ws:=[b_ ps]) (body:=Tb) ?_ (by simp[undWs,W.und,hu])
 apply az
 ·(walk_at "evs")
 apply az
 ·(walk_at "evs")
 rw[show(st++[au.lst []]).length=st.length+1 by simp,show st++[au.lst []]++[au.lst []]=st++[au.lst [],au.lst []] by simp]
 refine gC (fun i ρ bg=>∃(S1:List Nat) (o3 o4 o5 o6:Option W),ρ=[some (b_ ps),some #[5],some (.loc (st.length+1)),o3,o4,o5,o6]/\bg=st++[.lst ((lk.take i).map jE),.lst (cY (jV S1 i).reverse)]/\Gr (ps.take i) S1 (sz.take i) (lk.take i)/\i<=ps.length) (k:=(m5 (ps.map Pl.w),none))
  (by show r9 (ah (ag 0) aD) _ _=_;unfold r9;rfl) ⟨[],none,none,none,none,rfl,rfl,.nil,bY _⟩ (fun _ _ _ _=>trivial) ?_ ?_
 ·rintro i w ρ bg hw ⟨S1,o3,o4,o5,o6,rfl,rfl,hg,hi⟩
  obtain⟨y,hy,rfl⟩:=uH hw
  have hip:i<ps.length:=by have:=(ax.mp hy).1;simpa using this
  obtain⟨S1',S2,p,k,x,g1,q1,q2,q3,hs,g2⟩:=h.step i hip
  rw[aG,q1]at hy
  cases hy
  refine⟨_,rfl,?_⟩
  have hS:=hg.det g1 rfl
  subst hS
  obtain⟨lz,ll,ha⟩:=g1.ok
  have hti:(ps.take i).length=i:=by rw[aF];omega
  rw[hti]at ha lz ll
  have hSl:=ha.le
  obtain⟨p',L,R,q1',q2',_,hb3,hL,hR,_⟩:=h.cut hip
  rw[q1]at q1';cases q1'
  have hlk:lk.take (i+1)=lk.take i++[x]:=by rw[km,q3];rfl
  have hrt:=fun st=>Ck (p:=p) hb3 st
  have hlf:=fun st=>LU (p:=p) hb3 st
  have pop:∀(A:List W) (B:List Nat) (q:Nat),qZ (.loc (st.length+1)) [] (st++[.lst A,.lst (cY (q::B).reverse)])=.ok (.int q) (st++[.lst A,.lst (cY B.reverse)]):=fun A B q=>by
   have hc:(st++[au.lst A,.lst (cY (q::B).reverse)])[st.length+1]?=some (.lst (cY B.reverse++[.int q])):=by rw[iC];simp[cY]
   rw[BI hc,nR];rfl
  have isl:∀(A:List W) (B:List W),ms (st++[.lst A,.lst B]) (.loc (st.length+1))=true:=fun A B=>d8 (by rw[iC];rfl)
  have isl0:∀(A:List W) (B:List W),ms (st++[.lst A,.lst B]) #[5]=true:=fun A B=>d8 (by rw[dQ];rfl)
  have app:∀(A:List W) (B:List Nat) (q:Nat),B.length<1000->cu (.loc (st.length+1)) [.int q] (st++[.lst A,.lst (cY B.reverse)])=.ok .non (st++[.lst A,.lst (cY (q::B).reverse)]):=fun A B q hB=>by
   have hc:(st++[au.lst A,.lst (cY B.reverse)])[st.length+1]?=some (.lst (cY B.reverse)):=by rw[iC];rfl
   rw[pG hc (by simp[cY];show _<1000000;omega),nR]
   simp[cY]
  have app0:∀(B:List W) (w:W),cu #[5] [w] (st++[.lst ((lk.take i).map jE),.lst B])=.ok .non (st++[.lst ((lk.take i).map jE++[w]),.lst B]):=fun B w=>by
   have hc:(st++[au.lst ((lk.take i).map jE),.lst B])[st.length]?=some (.lst ((lk.take i).map jE)):=by rw[dQ];rfl
   rw[pG hc (by simp;show _<1000000;omega),fX];rfl
  have kQ:∀(o3 o4 o5 o6:Option W) (B:List Nat),B=jV S2 (i+1)->KB (fun ρ bg=>∃(S1:List Nat) (o3 o4 o5 o6:Option W),ρ=[some (b_ ps),some #[5],some (.loc (st.length+1)),o3,o4,o5,o6]/\bg=st++[.lst ((lk.take (i+1)).map jE),.lst (cY (jV S1 (i+1)).reverse)]/\Gr (ps.take (i+1)) S1 (sz.take (i+1)) (lk.take (i+1))/\i+1<=ps.length)
    (.nx [some (b_ ps),some #[5],some (.loc (st.length+1)),o3,o4,o5,o6] (st++[.lst ((lk.take i).map jE++[jE x]),.lst (cY B.reverse)])):=by
   rintro o3 o4 o5 o6 B rfl
   exact⟨_,_,rfl,S2,_,_,_,_,rfl,by rw[hlk];simp,g2,by omega⟩
  obtain⟨b,m⟩:=p
  have hiS:∀T:List Nat,T.length<=i->(jV T i).length<1000:=fun T hT=>by rw[i7];omega
  cases hs with
  |@z=>
   have hr:xj [(Pl.mk 0 m).w]=fun st=>.ok (.bl false) st:=funext hrt
   have hl:Aq [(Pl.mk 0 m).w]=fun st=>.ok (.bl false) st:=funext hlf
   have a1:=app ((lk.take i).map jE) (jV S1 i) i (hiS _ hSl)
   have a2:=app0 (cY (i::jV S1 i).reverse) (.tup [.non,.non])
   apply az
   ·apply bb
    apply tt
    ·(repeat' (first|with_reducible exact mP hr _|walk_at "ev1"))
    ·(walk_at "evs")
   apply az
   ·apply bb
    apply tt
    ·(repeat' (first|with_reducible exact mP hl _|walk_at "ev1"))
    ·(walk_at "evs")
   apply az
   ·(repeat' (first|with_reducible exact isl _ _|walk_at "ev1"))
   apply dh
   ·(repeat' (first|with_reducible exact isl0 _ _|walk_at "ev1"))
   ·exact kQ _ _ _ _ (i::jV S1 i) rfl
  |@l a S=>
   have hr:xj [(Pl.mk 1 m).w]=fun st=>.ok (.bl false) st:=funext hrt
   have hl:Aq [(Pl.mk 1 m).w]=fun st=>.ok (.bl true) st:=funext hlf
   have hSl':S.length<=i:=by simp at hSl;omega
   have p1:=pop ((lk.take i).map jE) (jV S (i-a)) (i-1)
   have a1:=app ((lk.take i).map jE) (jV S (i-a)) i (by rw[i7];omega)
   have a2:=app0 (cY (i::jV S (i-a)).reverse) (.tup [.int (i-1:Nat),.non])
   apply az
   ·apply bb
    apply tt
    ·(repeat' (first|with_reducible exact mP hr _|walk_at "ev1"))
    ·(walk_at "evs")
   apply az
   ·apply bb
    apply tq
    ·(repeat' (first|with_reducible exact mP hl _|walk_at "ev1"))
    ·exact jU kv (isl _ _) aQ p1
   apply az
   ·(repeat' (first|with_reducible exact isl _ _|walk_at "ev1"))
   apply dh
   ·(repeat' (first|with_reducible exact isl0 _ _|walk_at "ev1"))
   ·exact kQ _ _ _ _ (i::jV S (i-a)) (by simp only[jV];congr 1;congr 1;omega)
  |@r a S=>
   have hr:xj [(Pl.mk 2 m).w]=fun st=>.ok (.bl true) st:=funext hrt
   have hl:Aq [(Pl.mk 2 m).w]=fun st=>.ok (.bl false) st:=funext fun st=>(hlf st).trans (by rw[show decide ((Pl.mk 2 m).b%2=1)=false from by simp])
   have hSl':S.length<=i:=by simp at hSl;omega
   have p1:=pop ((lk.take i).map jE) (jV S (i-a)) (i-1)
   have a1:=app ((lk.take i).map jE) (jV S (i-a)) i (by rw[i7];omega)
   have a2:=app0 (cY (i::jV S (i-a)).reverse) (.tup [.non,.int (i-1:Nat)])
   apply az
   ·apply bb
    apply tq
    ·(repeat' (first|with_reducible exact mP hr _|walk_at "ev1"))
    ·exact jU kv (isl _ _) aQ p1
   apply az
   ·apply bb
    apply tt
    ·(repeat' (first|with_reducible exact mP hl _|walk_at "ev1"))
    ·(walk_at "evs")
   apply az
   ·(repeat' (first|with_reducible exact isl _ _|walk_at "ev1"))
   apply dh
   ·(repeat' (first|with_reducible exact isl0 _ _|walk_at "ev1"))
   ·exact kQ _ _ _ _ (i::jV S (i-a)) (by simp only[jV];congr 1;congr 1;omega)
  |@b c a S=>
   have hr:xj [(Pl.mk 3 m).w]=fun st=>.ok (.bl true) st:=funext hrt
   have hl:Aq [(Pl.mk 3 m).w]=fun st=>.ok (.bl true) st:=funext fun st=>(hlf st).trans (by rw[show decide ((Pl.mk 3 m).b%2=1)=true from by simp])
   have hSl':S.length<=i:=by simp at hSl;omega
   have hca:(i-c-1)=(i-1-c):=by omega
   have p1:=pop ((lk.take i).map jE) ((i-1-c)::jV S (i-c-a)) (i-1)
   have p2:=pop ((lk.take i).map jE) (jV S (i-c-a)) (i-1-c)
   have a1:=app ((lk.take i).map jE) (jV S (i-c-a)) i (by rw[i7];omega)
   have a2:=app0 (cY (i::jV S (i-c-a)).reverse) (.tup [.int (i-1-c:Nat),.int (i-1:Nat)])
   have ht:jV (c::a::S) i=(i-1)::(i-1-c)::jV S (i-c-a):=by simp only[jV,hca]
   rw[ht]
   apply az
   ·apply bb
    apply tq
    ·(repeat' (first|with_reducible exact mP hr _|walk_at "ev1"))
    ·exact jU kv (isl _ _) aQ p1
   apply az
   ·apply bb
    apply tq
    ·(repeat' (first|with_reducible exact mP hl _|walk_at "ev1"))
    ·exact jU kv (isl _ _) aQ p2
   apply az
   ·(repeat' (first|with_reducible exact isl _ _|walk_at "ev1"))
   apply dh
   ·(repeat' (first|with_reducible exact isl0 _ _|walk_at "ev1"))
   ·exact kQ _ _ _ _ (i::jV S (i-c-a)) (by simp only[jV];congr 1;congr 1;omega)
 ·rintro ρ bg ⟨S1,o3,o4,o5,o6,rfl,rfl,hg,hi⟩
  have gB:(m5 (ps.map Pl.w)).length=ps.length:=by simp[m5]
  have hc:(st++[au.lst ((lk.take (m5 (ps.map Pl.w),(none:Option (Nat×List W))).1.length).map jE),.lst (cY (jV S1 (m5 (ps.map Pl.w),(none:Option (Nat×List W))).1.length).reverse)])[st.length]?=some (.lst (lk.map jE)):=by
   rw[dQ]
   show some (au.lst ((lk.take (m5 (ps.map Pl.w)).length).map jE))=_
   rw[gB,bj #[0]]
  apply bP
  ·(repeat' (first|with_reducible exact oH (bX hc)|walk_at "ev1"))
  ·exact⟨_,_,rfl,rfl,_,rfl⟩
end
theorem my(t:List Pl)(n:Nat):(b_ t).und n=true:=by
 unfold b_ W.und
 induction t with
 |nil=>rfl
 |cons x r ih=>simp only[bq,undWs,ih,dL];simp[Pl.w,W.und,undWs]
theorem gQ(a:List Pl)(st:List au):dG [b_ a] st=.ok (.int a.length) st:=by
 unfold b_
 rw[DO,aE]
theorem tW{a:List Pl}{p:Pl}(h:a[q]?=some p)(st:List au):bu (b_ a) (.int q) st=.ok p.w st:=nT (fW (by simp[h]))
theorem D4(p:Pl)(st:List au):bu p.w (.int 1) st=.ok (.str p.m) st:=rfl
theorem Qo(p:Pl)(st:List au):bu p.w (.int 0) st=.ok (.int p.b) st:=rfl
section
variable{ps:List Pl}{sz:List Nat}{lk:List #[8]}
theorem Gq(h:Gr ps S sz lk)(hn:ps.length<=1000)(st:List au):∃x,(∃A,x=[au.lst A,.lst (lk.map jE)])/\Cc [b_ ps] st=.ok (.loc (st.length+1)) (st++x):=by
 obtain⟨l1,l2,_⟩:=h.ok
 suffices hh:k6 (A7 fun w bg=>∃j x,w=.loc (st.length+j)/\bg=st++x/\j=1/\∃A,x=[au.lst A,.lst (lk.map jE)]) (Nm ([b_ ps].map some++List.replicate (6-1) none) st) by
  obtain⟨j,x,⟨rfl,h1⟩,e⟩:=vU hh
  exact⟨x,h1,e⟩
 apply az
 ·(walk_at "evs")
 apply az
 ·(walk_at "evs")
 rw[show(st++[au.lst []]).length=st.length+1 by simp,show st++[au.lst []]++[au.lst []]=st++[au.lst [],au.lst []] by simp]
 refine gC (fun i ρ bg=>∃(S1:List Nat) (o3 o4 o5:Option W),ρ=[some (b_ ps),some #[5],some (.loc (st.length+1)),o3,o4,o5]/\bg=st++[.lst (cY (jV S1 i).reverse),.lst ((lk.take i).map jE)]/\Gr (ps.take i) S1 (sz.take i) (lk.take i)/\i<=ps.length)
  (j8 (q:=(ps.length:Int)) (st1:=st++[au.lst [],au.lst []]) (am (cq kn (gQ ps _)) aQ) #[0]) ⟨[],none,none,none,rfl,rfl,.nil,bY _⟩ (fun _ _ _ _=>trivial) ?_ ?_
 ·rintro i w ρ bg hw ⟨S1,o3,o4,o5,rfl,rfl,hg,hi⟩
  obtain⟨hip,rfl⟩:=kJ hw
  rw[ce]at hip
  obtain⟨S1',S2,p,k,x,g1,q1,q2,q3,hs,g2⟩:=h.step i hip
  refine⟨_,rfl,?_⟩
  have hS:=hg.det g1 rfl
  subst hS
  obtain⟨lz,ll,ha⟩:=g1.ok
  have hti:(ps.take i).length=i:=by rw[aF];omega
  rw[hti]at ha lz ll
  have hSl:=ha.le
  have hlk:lk.take (i+1)=lk.take i++[x]:=by rw[km,q3];rfl
  have it:∀s:List au,bu (b_ ps) (.int (0+(i:Int))) s=.ok p.w s:=fun s=>by rw[uh];exact tW q1 s
  have pop:∀(A:List W) (B:List Nat) (q:Nat),qZ #[5] [] (st++[.lst (cY (q::B).reverse),.lst A])=.ok (.int q) (st++[.lst (cY B.reverse),.lst A]):=fun A B q=>by
   have hc:(st++[au.lst (cY (q::B).reverse),.lst A])[st.length]?=some (.lst (cY B.reverse++[.int q])):=by rw[dQ];simp[cY]
   rw[BI hc,fX];rfl
  have isl:∀(A:List W) (B:List W),ms (st++[.lst A,.lst B]) (.loc (st.length+1))=true:=fun A B=>d8 (by rw[iC];rfl)
  have isl0:∀(A:List W) (B:List W),ms (st++[.lst A,.lst B]) #[5]=true:=fun A B=>d8 (by rw[dQ];rfl)
  have app:∀(A:List W) (B:List Nat),B.length<1001->cu #[5] [.int (0+(i:Int))] (st++[.lst (cY B.reverse),.lst A])=.ok .non (st++[.lst (cY (i::B).reverse),.lst A]):=fun A B hB=>by
   have hc:(st++[au.lst (cY B.reverse),.lst A])[st.length]?=some (.lst (cY B.reverse)):=by rw[dQ];rfl
   rw[pG hc (by simp[cY];show _<1000000;omega),fX]
   simp[cY]
  have app1:∀(B:List W) (w:W),cu (.loc (st.length+1)) [w] (st++[.lst B,.lst ((lk.take i).map jE)])=.ok .non (st++[.lst B,.lst ((lk.take i).map jE++[w])]):=fun B w=>by
   have hc:(st++[au.lst B,.lst ((lk.take i).map jE)])[st.length+1]?=some (.lst ((lk.take i).map jE)):=by rw[iC];rfl
   rw[pG hc (by simp;show _<1000000;omega),nR];rfl
  have T1:∀(k:Bool) (ρ:cV) (s:List au),decide ((2:Int)<=(p.b:Int))=k->ρ[0]?=some (some (b_ ps))->ρ[3]?=some (some (.int (0+(i:Int))))->eO (e2 OT (e2 bu (e2 bu (ag 0) (ag 3)) (eI 0)) (eI 2)) ρ s=.ok k s:=fun k ρ s e h0 h3=>aY (bv (bv (bv (kz h0) (kz h3) (it s)) bI (Qo p s)) bI (BH e))
  have T2:∀(k:Bool) (ρ:cV) (s:List au),(((p.b:Int)%2)==1)=k->ρ[0]?=some (some (b_ ps))->ρ[3]?=some (some (.int (0+(i:Int))))->eO (e2 ku (e2 iX (e2 bu (e2 bu (ag 0) (ag 3)) (eI 0)) (eI 2)) (eI 1)) ρ s=.ok k s:=fun k ρ s e h0 h3=>aY (bv (bv (bv (bv (kz h0) (kz h3) (it s)) bI (Qo p s)) bI (jm #[3])) bI (gj e))
  have kQ:∀(o3 o4 o5:Option W) (B:List Nat),i::B=jV S2 (i+1)->KB (fun ρ bg=>∃(S1:List Nat) (o3 o4 o5:Option W),ρ=[some (b_ ps),some #[5],some (.loc (st.length+1)),o3,o4,o5]/\bg=st++[.lst (cY (jV S1 (i+1)).reverse),.lst ((lk.take (i+1)).map jE)]/\Gr (ps.take (i+1)) S1 (sz.take (i+1)) (lk.take (i+1))/\i+1<=ps.length)
    (.nx [some (b_ ps),some #[5],some (.loc (st.length+1)),o3,o4,o5] (st++[.lst (cY (i::B).reverse),.lst ((lk.take i).map jE++[jE x])])):=by
   rintro o3 o4 o5 B e
   exact⟨_,_,rfl,S2,_,_,_,rfl,by rw[hlk,e];simp,g2,by omega⟩
  have put:∀(lw u8:W) (o3:Option W) (B:List Nat),o3=some (.int (0+(i:Int)))->B.length<1001->jE x=.tup [lw,u8]->i::B=jV S2 (i+1) ->
    k6 (KB (fun ρ bg=>∃(S1:List Nat) (o3 o4 o5:Option W),ρ=[some (b_ ps),some #[5],some (.loc (st.length+1)),o3,o4,o5]/\bg=st++[.lst (cY (jV S1 (i+1)).reverse),.lst ((lk.take (i+1)).map jE)]/\Gr (ps.take (i+1)) S1 (sz.take (i+1)) (lk.take (i+1))/\i+1<=ps.length))
     (aM (dm (oE cu (ag 2) (ah (fJ (ah (ag 4) (ah (ag 5) aD))) aD))) (dm (oE cu (ag 1) (ah (ag 3) aD))) [some (b_ ps),some #[5],some (.loc (st.length+1)),o3,some lw,some u8] (st++[.lst (cY B.reverse),.lst ((lk.take i).map jE)])):=by
   intro lw u8 o3 B e3 hB hx hT
   subst e3
   have a1:=app1 (cY B.reverse) (.tup [lw,u8])
   have a2:=app ((lk.take i).map jE++[.tup [lw,u8]]) B hB
   have ff:=kQ (some (.int (0+(i:Int)))) (some lw) (some u8) B hT
   rw[hx]at ff
   apply az
   ·exact dU (jU kv (isl _ _) (am (eQ (am kv kn) (ao rfl)) aQ) a1)
   apply dh
   ·exact dU (jU kv (isl0 _ _) kn a2)
   ·exact ff
  apply az
  ·exact bb bI
  apply az
  ·exact bb bI
  obtain⟨b,m⟩:=p
  cases hs with
  |@z=>
   apply bC
   ·exact T1 false _ _ rfl rfl rfl
   apply bV
   apply bC
   ·exact T2 false _ _ rfl rfl rfl
   apply bV
   exact put _ _ _ (jV S1 i) rfl (by rw[i7];omega) rfl rfl
  |@l a S=>
   apply bC
   ·exact T1 false _ _ rfl rfl rfl
   apply bV
   apply az
   ·exact dg (T2 true _ _ rfl rfl rfl) (bb (jU kv (isl0 _ _) aQ (pop _ (jV S (i-a)) (i-1))))
   exact put _ _ _ (jV S (i-a)) rfl (by rw[i7];simp at hSl;omega) rfl (by simp only[jV];congr 1;congr 1;omega)
  |@r a S=>
   apply az
   ·exact dg (T1 true _ _ rfl rfl rfl) (bb (jU kv (isl0 _ _) aQ (pop _ (jV S (i-a)) (i-1))))
   apply bC
   ·exact T2 false _ _ (by show((2:Int)%2==1)=false;decide) rfl rfl
   apply bV
   exact put _ _ _ (jV S (i-a)) rfl (by rw[i7];simp at hSl;omega) rfl (by simp only[jV];congr 1;congr 1;omega)
  |@b c a S=>
   apply az
   ·exact dg (T1 true _ _ rfl rfl rfl) (bb (jU kv (isl0 _ _) aQ (pop _ (jV (a::S) (i-c)) (i-1))))
   apply az
   ·exact dg (T2 true _ _ (by show((3:Int)%2==1)=true;decide) rfl rfl) (bb (jU kv (isl0 _ _) aQ (pop _ (jV S (i-c-a)) (i-c-1))))
   exact put _ _ _ (jV S (i-c-a)) rfl (by rw[i7];simp at hSl;omega) (by show W.tup [.int ((i-1-c:Nat):Int),_]=_;rw[show i-1-c=i-c-1 by omega];rfl) (by simp only[jV];congr 1;congr 1;omega)
 ·rintro ρ bg ⟨S1,o3,o4,o5,rfl,rfl,hg,hi⟩
  rw[show(gN 0 (ps.length:Int).toNat,(none:Option (Nat×List W))).fst.length=lk.length by rw[l2];simp[fK],cJ]
  apply bP
  ·(walk_at "evs")
  ·exact⟨_,_,rfl,1,_,rfl,rfl,rfl,_,rfl⟩
end
theorem tX{s:List au}{p:Nat}{c:au}(h:st <+: s)(hp:st.length<=p):st <+: s.set p c:=by
 obtain⟨x,rfl⟩:=h
 rw[show p=st.length+(p-st.length) by omega,nR]
 exact a_ _ _
theorem Aw{s y:List au}(h:st <+: s):st <+: s++y:=h.trans (a_ _ _)
theorem pre_get{s:List au}{c:au}(h:st <+: s)(e:st[i]?=some c):s[i]?=some c:=by
 obtain⟨x,rfl⟩:=h
 exact dI e
theorem fv{s:List au}{p:Nat}{c d:au}(h:s[p]?=some d):(s.set p c)[p]?=some c:=by
 rw[b8 (ax.mp h).1]
theorem cP{s:List au}{p:Nat}{c:au}(h:p≠q):(s.set p c)[q]?=s[q]?:=cL h
theorem d_{s:List au}{p:Nat}{c:au}(h:s[p]?=some c):p<s.length:=(ax.mp h).1
theorem dF{s:List au}{c:au}:(s++[c])[s.length]?=some c:=by rw[dQ];rfl
def Ax(l:List Int):List W:=l.map W.int
theorem vX{s:List au}{p:Nat}{ds:List Int}{d:Int}(h:s[p]?=some (.lst (Ax ds)))(e:ds[i]?=some d):bu (.loc p) (.int i) s=.ok (.int d) s:=jN (bX h) (fW (by rw[Ax,aG,e];rfl))
theorem Jo(h:lstOf st n=some (ls.map W.str))(hl:ls.length<64):lE [.loc n] st=.ok #[5] (st++[.lst ((jM ls).map W.str)]):=by
 show qQ [.loc n] st=_
 unfold qQ
 simp only[h,eY,yS]
 rw[aK hl]
theorem xr{a b:List (List Nat)}(h:a.Perm b):(a.map List.length).sum=(b.map List.length).sum:=by
 induction h with
 |nil=>rfl
 |cons x _ ih=>simp only[bq,rW,ih]
 |swap x y l=>simp only[bq,rW];omega
 |trans _ _ ih1 ih2=>rw[ih1,ih2]
theorem tY(l:List Nat):(((l.map fun c=>[c])).map List.length).sum=l.length:=by
 induction l with
 |nil=>rfl
 |cons a r ih=>simp only[bq,rW,bZ,ih,List.length_nil];omega
def D5(l:List Nat):List Nat:=mq [] (jM (l.map fun c=>[c]))
theorem Fb(l:List Nat):(D5 l).length=l.length:=by
 unfold D5;rw[nN,List.length_flatten,xr (hV _),tY]
theorem Jp(l:List Nat):(D5 l).Perm l:=by
 unfold D5;rw[nN]
 have h:(jM (l.map fun c=>[c])).flatten.Perm (l.map fun c=>[c]).flatten:=(hV _).flatten
 refine h.trans (.of_eq ?_)
 induction l with
 |nil=>rfl
 |cons a r ih=>
  have ih':=ih ((hV _).flatten)
  simp only[bq,nj,ih',List.cons_append,eJ]
theorem Fc{fe:FE}{s1:List au}(h:fe ρ st=.ok (.loc n) s1)(hc:lstOf s1 n=some ((l.map fun c=>[c]).map W.str))(hl:l.length<64) :
  KA pF (eC (.str [])) (ah (bJ lE (ah fe aD)) aD) ρ st=.ok (.str (D5 l)) (s1++[.lst ((jM (l.map fun c=>[c])).map W.str)]):=by
 have hs:=Jo hc (by simpa using hl)
 have hcell2:lstOf (s1++[au.lst ((jM (l.map fun c=>[c])).map W.str)]) s1.length=some ((jM (l.map fun c=>[c])).map W.str):=bX dF
 have hj:=DP (sep:=[]) hcell2 (by rw[xr (hV _),tY];show _<=1000000;simp;omega)
 exact LO bI rfl (am (cq (am h aQ) hs) aQ) hj
section
variable{fs:FA}
theorem LV(V:β->W)(Pb:Nat->β->Prop)(hr:fs ρ st=.ok [.int n] st)(hn:n<=100000)(h:∀i:Nat,i<n->∃b,Pb i b/\el ((uG cap ρ).set 0 (some (.int i))) st=.ok (V b) st) :
  ∃r:List β,r.length=n/\(∀i b,r[i]?=some b->Pb i b)/\k_ cap (dP fs) (kH 0) x8 el ρ st=.ok #[5] (st++[.lst (r.map V)]):=by
 let f:Fin n->β:=fun i=>Classical.choose (h i i.2)
 have hf:∀i:Fin n,Pb i (f i)/\el ((uG cap ρ).set 0 (some (.int (i:Nat)))) st=.ok (V (f i)) st:=fun i=>Classical.choose_spec (h i i.2)
 let Y:W->W:=fun w=>match w with
  |.int z=>if hz:z.toNat<n then V (f ⟨z.toNat,hz⟩)else .non
  |_=>.non
 have ir:dP fs ρ st=.ok (gN 0 n,none) st:=by
  have:=j8 hr #[0]
  rw[ce]at this
  exact this
 have hc:=E9 (fi:=dP fs) (f:=kH 0) (el:=el) (cap:=cap) (ρ:=ρ) Y ir (by rw[fK];show _<=1000000;omega) trivial fun w hw=>by
  obtain⟨i,hi,rfl⟩:=y0 hw
  refine⟨_,rfl,?_⟩
  rw[show((0:Int)+(i:Int))=(i:Int) by omega]
  show _=R.ok (if hz:(i:Int).toNat<n then V (f ⟨(i:Int).toNat,hz⟩)else .non) st
  rw[dif_pos (show(i:Int).toNat<n by omega)]
  exact(hf ⟨i,hi⟩).2
 refine⟨List.ofFn f,by simp,fun i b hb=>?_,?_⟩
 ·obtain⟨h1,h2⟩:=ax.mp hb
  rw[List.getElem_ofFn]at h2
  rw[<- h2]
  exact(hf ⟨i,by simpa using h1⟩).1
 ·rw[hc]
  have e:(gN 0 n).map Y=(List.ofFn f).map V:=by
   refine List.ext_getElem (by simp[fK]) fun i h1 h2=>?_
   have hi:i<n:=by simpa[fK]using h1
   rw[om,om,List.getElem_ofFn]
   unfold gN
   rw[om,List.getElem_range,show((0:Int)+(i:Int))=(i:Int) by omega]
   show(if hz:(i:Int).toNat<n then V (f ⟨(i:Int).toNat,hz⟩)else .non)=_
   rw[dif_pos (show(i:Int).toNat<n by omega)]
  rw[e]
theorem Jq(V:β->W)(Pb:Nat->β->Prop)(hr:fs ρ st=.ok [.int n] st)(hn:n<=100000)(h:∀i:Nat,i<n->∃b,Pb i b/\el ((uG cap ρ).set 0 (some (.int i))) st=.ok (V b) st) :
  ∃r:List β,r.length=n/\(∀i b,r[i]?=some b->Pb i b)/\bJ je (ah (k_ cap (dP fs) (kH 0) x8 el) aD) ρ st=.ok (.tup (r.map V)) (st++[.lst (r.map V)]):=by
 obtain⟨r,h1,h2,e⟩:=LV (cap:=cap) (el:=el) V Pb hr hn h
 exact⟨r,h1,h2,cq (am e aQ) (oH (bX dF))⟩
end
structure Mc where
 nm:List Nat
 gd:List Bool
 tb:List (List (List Nat))
def gA(r:List Nat):W:=.tup (r.map fun k=>W.int (k:Nat))
def yl(t:List (List Nat)):W:=.tup (t.map gA)
def Mc.w(M:Mc):W:=.tup [.str M.nm,.tup (M.gd.map W.bl),.tup (M.tb.map yl)]
def V4(n:Nat)(t:List (List Nat)):Prop:=t.length=n/\∀r∈t,r.length=n/\∀k∈r,k<n
structure m9(M:Mc)(n:Nat):Prop where
 gd:M.gd.length=n
 tb:M.tb.length=2^M.nm.length
 t:∀t∈M.tb,V4 n t
theorem vY(r:List Nat)(n:Nat):(gA r).und n=true:=by
 unfold gA W.und
 induction r with
 |nil=>rfl
 |cons x r ih=>simp only[bq,undWs,ih,dL];rfl
theorem LW(t:List (List Nat))(n:Nat):(yl t).und n=true:=by
 unfold yl W.und
 induction t with
 |nil=>rfl
 |cons x r ih=>simp only[bq,undWs,ih,dL];exact vY x n
theorem Jr(t:List (List (List Nat)))(n:Nat):undWs n (t.map yl)=true:=by
 induction t with
 |nil=>rfl
 |cons x r ih=>simp only[bq,undWs,ih,dL];exact LW x n
theorem LX(t:List Bool)(n:Nat):undWs n (t.map W.bl)=true:=by
 induction t with
 |nil=>rfl
 |cons x r ih=>simp only[bq,undWs,ih,dL];rfl
theorem Js(M:Mc)(n:Nat):M.w.und n=true:=by
 unfold Mc.w
 simp[W.und,undWs,Jr,LX]
theorem Hj{c:Nat}(h:c<=100):Bs (.int 1) (.int c) st=.ok (.int ((2^c:Nat):Int)) st:=by
 have:=jm (C:=fun i j=>0<=j/\j<=1000000/\i.natAbs<2^64) (f:=fun i j=>i*2^j.toNat) (p:=1) (q:=(c:Int)) (st:=st) ⟨by omega,by omega,by decide⟩
 rw[show Bs (.int 1) (.int c) st=_ from this]
 simp
theorem qx{s:List au}{p:Nat}{y:W}(h:s[p]?=some (.lst ws))(hl:ws.length<1000000):cu (.loc p) [y] s=.ok .non (s.set p (.lst (ws++[y]))):=pG h hl
theorem Qp(h:q<n):EI n (q:Int)=some q:=by
 unfold EI
 rw[aK #[0],aK #[0]];simp
theorem D6{s:List au}{p q:Nat}{v:W}(h:s[p]?=some (.lst ws))(hq:q<ws.length):rC (.loc p) (.int q) v s=some (s.set p (.lst (ws.set q v))):=Pg h (Qp hq)
theorem Qq{s:List au}:yO [.tup ws] s=.ok (.loc s.length) (s++[.lst ws]):=rfl
def nW(l:List Nat):List W:=l.map fun k=>W.int (k:Nat)
theorem Nz{s:List au}{p:Nat}(h:s[p]?=some (.lst (nW l)))(e:l[i]?=some k):bu (.loc p) (.int i) s=.ok (.int k) s:=jN (bX h) (fW (by rw[nW,aG,e];rfl))
theorem Jt{s:List au}(e:l[i]?=some k):bu (gA l) (.int i) s=.ok (.int k) s:=nT (fW (by rw[aG,e];rfl))
theorem Ju{s:List au}{t:List (List Nat)}{r:List Nat}(e:t[i]?=some r):bu (yl t) (.int i) s=.ok (gA r) s:=nT (fW (by rw[aG,e];rfl))
theorem za{f:FG}{ρ':cV}{w:W}(h:fe ρ st=.ok w st1)(h2:f w ρ=some ρ'):wF fe f ρ st=.nx ρ' st1:=by
 unfold wF;rw[h];simp only[R.stmt_ok];rw[h2]
theorem Jv{c:Nat}:GN false (.str [c]) (.str l) st=.ok (.bl (decide (c∈l))) st:=rfl
theorem Ay{st1:List au}(h:fe ρ st=.ok (.str l) st1):ic fe ρ st=.ok (jf l,none) st1:=by unfold ic;rw[h];rfl
theorem Cm{w:W}(h:(jf l)[i]?=some w):∃c,l[i]?=some c/\w=.str [c]:=by
 simp only[jf,aG,fD]at h
 obtain⟨c,h1,rfl⟩:=h
 exact⟨c,h1,rfl⟩
theorem u3(l:List Nat):(jf l).length=l.length:=by simp[jf]
theorem mi{l:List α}{c:α}(h:l[i]?=some c):l.take (i+1)=l.take i++[c]:=by
 rw[List.take_succ,h];rfl
def lK(m:List Nat)(l:List Nat):Nat:=l.foldl (fun a c=>2*a+if c∈m then 1 else 0) 0
theorem zb(m l:List Nat)(c:Nat):lK m (l++[c])=2*lK m l+if c∈m then 1 else 0:=by unfold lK;rw[List.foldl_append];rfl
theorem Fd(m:List Nat)(l:List Nat):lK m l<2^l.length:=by
 have key:∀(l:List Nat) (a k:Nat),a<2^k->l.foldl (fun a c=>2*a+if c∈m then 1 else 0) a<2^(k+l.length):=by
  intro l
  induction l with
  |nil=>intro a k h;simpa using h
  |cons c r ih=>
   intro a k h
   have:=ih (2*a+if c∈m then 1 else 0) (k+1) (by rw[Nat.pow_succ];split<;>omega)
   rw[List.foldl_cons,bZ,show k+(r.length+1)=k+1+r.length by omega];exact this
 have:=key l 0 0 #[15]
 simpa[lK]using this
theorem Gs(names m:List Nat)(st:List au):Jj [.str names,.str m] st=.ok (.int (lK m names:Nat)) st:=by
 refine fq (N:=4) (ws:=[.str names,.str m]) (body:=S7) ?_ rfl
 apply az
 ·(walk_at "evs")
 refine gC (fun i ρ s=>∃o3:Option W,ρ=[some (.str names),some (.str m),some (.int (lK m (names.take i):Nat)),o3]/\s=st) (Ay (st1:=st) kv) ⟨none,rfl,rfl⟩ (fun _ _ _ _=>trivial) ?_ ?_
 ·rintro i w ρ s hw ⟨o3,rfl,rfl⟩
  obtain⟨c,hc,rfl⟩:=Cm hw
  refine⟨_,rfl,?_⟩
  have e:=zb m (names.take i) c
  rw[<- mi hc]at e
  apply az
  ·exact bb (bv kv bI (sg (.inr #[3])))
  by_cases h:c∈m
  ·have t1:decide (c∈m)=true:=bF h
   rw[aK h]at e
   apply vp
   ·exact aY (bv kv kv (by rw[Jv,t1]))
   apply dh
   ·exact bb (bv kv bI dM)
   ·exact⟨_,_,rfl,_,by rw[e,gc,jz,pz];rfl,rfl⟩
  ·have t1:decide (c∈m)=false:=a7 h
   rw[aU h]at e
   apply m7
   ·exact aY (bv kv kv (by rw[Jv,t1]))
   apply dh
   ·exact c9
   ·exact⟨_,_,rfl,_,by rw[e,gc,jz,pz];rfl,rfl⟩
 ·rintro ρ s ⟨o3,rfl,rfl⟩
  apply bP
  ·(walk_at "evs")
  ·exact⟨_,_,rfl,by rw[show(jf names,(none:Option (Nat×List W))).fst.length=names.length from u3 names,cJ],[],by simp⟩
theorem D7(names m:List Nat)(st:List au):y_ [.str names,.str m] st=.ok (.int (lK m names:Nat)) st:=by
 refine fq (N:=4) (ws:=[.str names,.str m]) (body:=No) ?_ rfl
 apply az
 ·(walk_at "evs")
 refine gC (fun i ρ s=>∃o3:Option W,ρ=[some (.str names),some (.str m),some (.int (lK m (names.take i):Nat)),o3]/\s=st) (Ay (st1:=st) kv) ⟨none,rfl,rfl⟩ (fun _ _ _ _=>trivial) ?_ ?_
 ·rintro i w ρ s hw ⟨o3,rfl,rfl⟩
  obtain⟨c,hc,rfl⟩:=Cm hw
  refine⟨_,rfl,?_⟩
  have e:=zb m (names.take i) c
  rw[<- mi hc]at e
  have bi:Gd [.bl (decide (c∈m))] s=.ok (.int ((if c∈m then 1 else 0:Nat):Int)) s:=by
   by_cases h:c∈m
   ·rw[bF h,aK h];rfl
   ·rw[a7 h,aU h];rfl
  apply dh
  ·exact bb (bv (bv bI kv (sg (.inl #[3]))) (cq (am (bv kv kv Jv) aQ) bi) dM)
  ·exact⟨_,_,rfl,_,by rw[e,gc,jz];rfl,rfl⟩
 ·rintro ρ s ⟨o3,rfl,rfl⟩
  apply bP
  ·(walk_at "evs")
  ·exact⟨_,_,rfl,by rw[show(jf names,(none:Option (Nat×List W))).fst.length=names.length from u3 names,cJ],[],by simp⟩
def Az(r:List Nat):Option Nat->Nat
 |none=>0
 |some k=>r.getD k 0
def vZ(M:Mc)(r:List Nat)(m:List Nat)(x:Option Nat×Option Nat):Nat:=((M.tb.getD (lK m M.nm) []).getD (Az r x.1) []).getD (Az r x.2) 0
def Gu(M:Mc):List Pl->List #[8]->List Nat->List Nat
 |p::ps,x::xs,r=>Gu M ps xs (r++[vZ M r p.m x])
 |_,_,r=>r
def Jw(n:Nat)(x:Option Nat×Option Nat):Prop:=(∀k,x.1=some k->k<n)/\∀k,x.2=some k->k<n
theorem Cn(r:List Nat)(o:Option Nat)(p:Nat)(st:List au)(hc:st[p]?=some (.lst (nW r)))(ho:∀k,o=some k->k<r.length):y7 [.loc p,oW o] st=.ok (.int (Az r o:Nat)) st:=by
 cases o with
 |none=>
  apply fg
  apply bP
  ·exact tq (aY (BG kv rfl)) bI
  ·exact⟨_,_,rfl,rfl,rfl⟩
 |some k=>
  have hk:=ho k rfl
  have e:r[k]?=some (r.getD k 0):=by rw[aI,aj hk];rfl
  apply fg
  apply bP
  ·exact tt (aY (BG kv rfl)) (bv kv kv (Nz hc e))
  ·exact⟨_,_,rfl,rfl,rfl⟩
theorem Gr.lk{ps:List Pl}{sz:List Nat}{lk:List #[8]}(h:Gr ps S sz lk){x:Option Nat×Option Nat}(hx:lk[i]?=some x):Jw i x:=by
 obtain⟨_,l2,_⟩:=h.ok
 have hi:i<ps.length:=by have:=(ax.mp hx).1;omega
 obtain⟨S1,S2,p,k,x',g1,q1,q2,q3,hs,g2⟩:=h.step i hi
 rw[hx]at q3;cases q3
 obtain⟨_,_,ha⟩:=g1.ok
 rw[show(ps.take i).length=i by rw[aF];omega]at ha
 obtain⟨b,m⟩:=p
 cases hs with
 |z=>exact⟨fun k e=>by simp at e,fun k e=>by simp at e⟩
 |@l a S=>have:=ha.2.1;have:=ha.2.2.1;exact⟨fun k e=>by simp at e;omega,fun k e=>by simp at e⟩
 |@r a S=>have:=ha.2.1;have:=ha.2.2.1;exact⟨fun k e=>by simp at e,fun k e=>by simp at e;omega⟩
 |@b c a S=>have:=ha.2.1;have:=ha.2.2.1;exact⟨fun k e=>by simp at e;omega,fun k e=>by simp at e;omega⟩
theorem Co(M:Mc)(p:Pl)(x:Option Nat×Option Nat):∀(ps:List Pl) (lk:List #[8]) (r:List Nat),ps.length=lk.length->Gu M (ps++[p]) (lk++[x]) r=Gu M ps lk r++[vZ M (Gu M ps lk r) p.m x]
 |[],[],r,_=>rfl
 |q::ps,y::lk,r,h=>by
  show Gu M (ps++[p]) (lk++[x]) _=_
  rw[Co M p x ps lk _ (by simpa using h)];rfl
 |[],_::_,_,h=>by simp at h
 |_::_,[],_,h=>by simp at h
def gu(M:Mc)(ps:List Pl)(lk:List #[8]):List Nat:=Gu M ps lk []
theorem Jx{r:List Nat}{o:Option Nat}(hn:1<=n)(hr:∀k∈r,k<n)(ho:∀k,o=some k->k<r.length):Az r o<n:=by
 cases o with
 |none=>exact hn
 |some k=>
  have hk:=ho k rfl
  have e:r[k]?=some (r.getD k 0):=by rw[aI,aj hk];rfl
  exact hr _ (cy e)
theorem D8{M:Mc}{r:List Nat}{m:List Nat}{x:Option Nat×Option Nat}(hM:m9 M n)(hn:1<=n)(hr:∀k∈r,k<n)(hx:Jw r.length x) :
  ∃t q,M.tb[lK m M.nm]?=some t/\t[Az r x.1]?=some q/\q[Az r x.2]?=some (vZ M r m x)/\vZ M r m x<n:=by
 have h1:lK m M.nm<M.tb.length:=by rw[hM.tb];exact Fd m M.nm
 have e1:M.tb[lK m M.nm]?=some (M.tb.getD (lK m M.nm) []):=by rw[aI,aj h1];rfl
 obtain⟨t1,t2⟩:=hM.t _ (cy e1)
 have h2:Az r x.1<(M.tb.getD (lK m M.nm) []).length:=by rw[t1];exact Jx hn hr hx.1
 have e2:(M.tb.getD (lK m M.nm) [])[Az r x.1]?=some ((M.tb.getD (lK m M.nm) []).getD (Az r x.1) []):=by rw[aI (l:=M.tb.getD (lK m M.nm) []),aj h2];rfl
 obtain⟨t3,t4⟩:=t2 _ (cy e2)
 have h3:Az r x.2<((M.tb.getD (lK m M.nm) []).getD (Az r x.1) []).length:=by rw[t3];exact Jx hn hr hx.2
 have e3:((M.tb.getD (lK m M.nm) []).getD (Az r x.1) [])[Az r x.2]?=some (vZ M r m x):=by unfold vZ;rw[aI (l:=(M.tb.getD (lK m M.nm) []).getD (Az r x.1) []),aj h3];rfl
 exact⟨_,_,e1,e2,e3,t4 _ (cy e3)⟩
theorem Jy{M:Mc}{t:List (List Nat)}(h:M.tb[k]?=some t)(st:List au):bu (.tup (M.tb.map yl)) (.int k) st=.ok (yl t) st:=nT (fW (by rw[aG,h];rfl))
theorem NA{M:Mc}{r:List Nat}{m:List Nat}{x:Option Nat×Option Nat}{p:Nat}(hM:m9 M n)(hn:1<=n)(hr:∀k∈r,k<n)(hx:Jw r.length x)(st:List au)(hc:st[p]?=some (.lst (nW r))) :
  tN [M.w,.str m,jE x,.loc p] st=.ok (.int (vZ M r m x:Nat)) st:=by
 obtain⟨t,q,e1,e2,e3,_⟩:=D8 (m:=m) hM hn hr hx
 have g0:bu M.w (.int 0) st=.ok (.str M.nm) st:=rfl
 have g2:bu M.w (.int 2) st=.ok (.tup (M.tb.map yl)) st:=rfl
 have x0:bu (jE x) (.int 0) st=.ok (oW x.1) st:=rfl
 have x1:bu (jE x) (.int 1) st=.ok (oW x.2) st:=rfl
 have lt:=Gs M.nm m st
 have b1:=Cn r x.1 p st hc hx.1
 have b2:=Cn r x.2 p st hc hx.2
 apply fg
 apply az
 ·exact bb (bv (bv kv bI g2) (bU (am (bv kv bI g0) kn) lt rfl) (Jy e1 st))
 apply bP
 ·exact bv (bv kv (bU (am kv (am (bv kv bI x0) aQ)) b1 rfl) (Ju e2)) (bU (am kv (am (bv kv bI x1) aQ)) b2 rfl) (Jt e3)
 ·exact⟨_,_,rfl,rfl,rfl⟩
section
variable{ps:List Pl}{sz:List Nat}{lk:List #[8]}{M:Mc}
theorem oP(h:Gr ps S sz lk){p:Pl}{x:Option Nat×Option Nat}(hp:ps[i]?=some p)(hx:lk[i]?=some x):gu M (ps.take (i+1)) (lk.take (i+1))=gu M (ps.take i) (lk.take i)++[vZ M (gu M (ps.take i) (lk.take i)) p.m x]:=by
 obtain⟨_,l2,_⟩:=h.ok
 unfold gu
 rw[mi hp,mi hx,Co M p x _ _ _ (by rw[aF,aF,l2])]
theorem oQ(h:Gr ps S sz lk)(hM:m9 M n)(hn:1<=n):∀i,i<=ps.length->(gu M (ps.take i) (lk.take i)).length=i/\∀k∈gu M (ps.take i) (lk.take i),k<n:=by
 obtain⟨_,l2,_⟩:=h.ok
 intro i
 induction i with
 |zero=>intro _;exact⟨rfl,by simp[gu,Gu]⟩
 |succ i ih=>
  intro hi
  obtain⟨h1,h2⟩:=ih #[0]
  obtain⟨p,hp⟩:∃p,ps[i]?=some p:=⟨_,aj #[0]⟩
  obtain⟨x,hx⟩:∃x,lk[i]?=some x:=⟨_,aj #[0]⟩
  obtain⟨_,_,_,_,_,e⟩:=D8 (m:=p.m) hM hn h2 (by rw[h1];exact h.lk hx)
  rw[oP h hp hx]
  refine⟨by simp[h1],fun k hk=>?_⟩
  rcases aV.mp hk with z|z
  ·exact h2 k z
  ·simp at z;subst z;exact e
theorem Qr{a b:List W}{w:W}(h:(se a b)[i]?=some w):∃x y,a[i]?=some x/\b[i]?=some y/\w=.tup [x,y]:=wV h
theorem TC{fs:FA}{st1:List au}{xs ys:List W}(h:fs ρ st=.ok [.tup xs,.tup ys] st1):zT fs ρ st=.ok (se xs ys,none) st1:=by unfold zT;rw[h];rfl
theorem Jz(h:Gr ps S sz lk)(hl:ps.length<=900)(hM:m9 M n)(hn:1<=n)(st:List au):pK [M.w,b_ ps] st=.ok (gA (gu M ps lk)) st:=by
 obtain⟨_,l2,_⟩:=h.ok
 have lo:=tV h #[0] (st++[au.lst []])
 refine fq (N:=5) (ws:=[M.w,b_ ps]) (body:=Nh) ?_ (by simp only[undWs,dL];exact vY _ _)
 apply az
 ·(walk_at "evs")
 refine gC (fun i ρ s=>∃(o3 o4:Option W),ρ=[some M.w,some (b_ ps),some #[5],o3,o4]/\st <+: s/\s[st.length]?=some (.lst (nW (gu M (ps.take i) (lk.take i))))/\i<=ps.length) (k:=(se (ps.map Pl.w) (lk.map jE),none))
  (TC (st1:=st++[au.lst []]) (am kv (am (bU kn lo rfl) aQ))) ⟨none,none,rfl,a_ _ _,dF,bY _⟩ (fun _ _ _ _=>trivial) ?_ ?_
 ·rintro i w ρ s hw ⟨o3,o4,rfl,hp,hc,hi⟩
  obtain⟨a,b,ha,hb,rfl⟩:=Qr hw
  have hip:i<ps.length:=by have:=(ax.mp ha).1;simpa using this
  obtain⟨p,AV⟩:∃p,ps[i]?=some p:=⟨_,aj hip⟩
  obtain⟨x,hx⟩:∃x,lk[i]?=some x:=⟨_,aj #[0]⟩
  rw[aG,AV]at ha;cases ha
  rw[aG,hx]at hb;cases hb
  refine⟨_,rfl,?_⟩
  obtain⟨r1,r2⟩:=oQ (M:=M) h hM hn i hi
  have ra:=NA (m:=p.m) hM hn r2 (by rw[r1];exact h.lk hx) s hc
  have ap:=qx (y:=.int (vZ M (gu M (ps.take i) (lk.take i)) p.m x:Nat)) hc (by simp[nW];omega)
  apply dh
  ·exact dU (jU kv (d8 hc) (am (bU (am kv (am (bv kv bI (D4 p s)) (am kv kn))) ra rfl) aQ) ap)
  ·refine⟨_,_,rfl,_,_,rfl,tX hp (aA _),?_,by omega⟩
   rw[fv hc,oP h AV hx];simp[nW]
 ·rintro ρ s ⟨o3,o4,rfl,⟨x,rfl⟩,hc,hi⟩
  rw[show(se (ps.map Pl.w) (lk.map jE),(none:Option (Nat×List W))).fst.length=ps.length by rw[wW];simp[l2],cJ,show ps.length=lk.length by omega,cJ]at hc
  apply bP
  ·exact cq kn (oH (bX hc))
  ·exact⟨_,_,rfl,rfl,x,rfl⟩
end
theorem Cp(l:List Nat)(k:Nat)(st:List au):j9 (k+1) [.str l,.str l] st=.ok (.bl true) st:=by
 refine fq (N:=3) (ws:=[.str l,.str l]) (body:=B' (j9 k)) ?_ rfl
 (walk_at "go")
 apply bP
 ·apply qU
  ·(walk_at "evs")
  ·(walk_at "evs")
 ·exact⟨_,_,rfl,by simp,[],by simp⟩
theorem tZ{k:Nat}(hl:ws.length<=1000)(h:∀w∈ws,j9 k [w,w] st=.ok (.bl true) st):j9 (k+1) [.tup ws,.tup ws] st=.ok (.bl true) st:=by
 refine fq (N:=3) (ws:=[.tup ws,.tup ws]) (body:=B' (j9 k)) ?_ rfl
 apply eR
 ·(walk_at "evs")
 apply uL
 apply bC
 ·apply m6
  ·(walk_at "evs")
  ·(walk_at "evs")
   simp
 apply bV
 apply uL
 refine gC (fun i ρ bg=>∃o,ρ=[some (.tup ws),some (.tup ws),o]/\bg=st) (j8 (by(walk_at "evs")) #[0]) ⟨none,rfl,rfl⟩ (fun _ _ _ _=>trivial) ?_ ?_
 ·rintro i w ρ bg hw ⟨o,rfl,rfl⟩
  obtain⟨hi,rfl⟩:=kJ hw
  refine⟨_,rfl,?_⟩
  have hi':i<ws.length:=by simpa using hi
  have hat:bu (.tup ws) (.int (0+(i:Int))) bg=.ok ws[i] bg:=nT (by rw[uh];exact fW (by simp[hi']))
  have hs:=h ws[i] (dR _)
  apply m7
  ·(walk_at "evs")
  apply dh
  ·(walk_at "evs")
  ·exact⟨_,_,rfl,_,rfl,rfl⟩
 ·rintro ρ bg ⟨o,rfl,rfl⟩
  apply eG
  ·(walk_at "evs")
  ·exact⟨_,_,rfl,rfl,[],by simp⟩
theorem zc(b:Bool)(k:Nat)(st:List au):j9 (k+1) [.bl b,.bl b] st=.ok (.bl true) st:=by
 have hb:ku (.bl b) (.bl b) st=.ok (.bl true) st:=Sy #[15]
 refine fq (N:=3) (ws:=[.bl b,.bl b]) (body:=B' (j9 k)) ?_ rfl
 apply bC
 ·(walk_at "evs")
 apply bV
 apply bC
 ·(walk_at "evs")
 apply bV
 apply eR
 ·(walk_at "evs")
 apply eG
 ·apply qU
  ·(walk_at "evs")
  ·(walk_at "evs")
 ·exact⟨_,_,rfl,rfl,[],by simp⟩
theorem Cq(z:Int)(k:Nat)(st:List au):j9 (k+1) [.int z,.int z] st=.ok (.bl true) st:=by
 have hb:ku (.int z) (.int z) st=.ok (.bl true) st:=gj #[15]
 refine fq (N:=3) (ws:=[.int z,.int z]) (body:=B' (j9 k)) ?_ rfl
 apply bC
 ·(walk_at "evs")
 apply bV
 apply bC
 ·(walk_at "evs")
 apply bV
 apply bC
 ·(walk_at "evs")
 apply bV
 apply eR
 ·(walk_at "evs")
 apply eG
 ·apply qU
  ·(walk_at "evs")
  ·apply qU
   ·(walk_at "evs")
   ·(walk_at "evs")
 ·exact⟨_,_,rfl,by simp,[],by simp⟩
def Sm(w:W):Prop:=∀st,j9 40 [w,w] st=.ok (.bl true) st
theorem TD(b:Bool):Sm (.bl b):=fun st=>zc b 39 st
theorem Qs(r:List Nat)(h:r.length<=1000):Sm (gA r):=fun st=>tZ (k:=39) (by simpa using h) fun w hw=>by
 obtain⟨z,_,rfl⟩:=c7.mp hw
 exact Cq _ _ _
section
variable{ps:List Pl}{sz:List Nat}{lk:List #[8]}{M:Mc}
theorem Cr{r:List Nat}{o:Option Nat}(h:∀j,o=some j->j<k):Az (r.take k) o=Az r o:=by
 cases o with
 |none=>rfl
 |some j=>show(r.take k).getD j 0=r.getD j 0;rw[aI,aI,cw (h j rfl)]
theorem zd(h:Gr ps S sz lk)(hM:m9 M n)(hn:1<=n):∀i,i<=ps.length->(gu M ps lk).take i=gu M (ps.take i) (lk.take i):=by
 obtain⟨_,l2,_⟩:=h.ok
 have key:∀d i,i+d=ps.length->(gu M ps lk).take i=gu M (ps.take i) (lk.take i):=by
  intro d
  induction d with
  |zero=>
   intro i hi
   have e1:ps.take i=ps:=bj #[0]
   have e2:lk.take i=lk:=bj #[0]
   have hg:=(oQ (M:=M) h hM hn i #[0]).1
   rw[e1,e2]at hg ⊢
   exact bj #[0]
  |succ d ih=>
   intro i hi
   have e:=ih (i+1) #[0]
   obtain⟨p,hp⟩:∃p,ps[i]?=some p:=⟨_,aj #[0]⟩
   obtain⟨x,hx⟩:∃x,lk[i]?=some x:=⟨_,aj #[0]⟩
   rw[oP h hp hx]at e
   have hg:=(oQ (M:=M) h hM hn i #[0]).1
   have e2:=ik (List.take i) e
   rw[mQ,gb #[0],b9 #[0]]at e2
   rw[e2];exact bj #[0]
 intro i hi
 exact key (ps.length-i) i #[0]
theorem nY(h:Gr ps S sz lk)(hM:m9 M n)(hn:1<=n):(gu M ps lk).length=ps.length/\∀k∈gu M ps lk,k<n:=by
 obtain⟨_,l2,_⟩:=h.ok
 have:=oQ (M:=M) h hM hn ps.length (aA _)
 rw[cJ,show ps.length=lk.length by omega,cJ]at this
 exact⟨by rw[this.1];omega,this.2⟩
theorem JA(h:Gr ps S sz lk)(hM:m9 M n)(hn:1<=n){i:Nat}{p:Pl}{x:Option Nat×Option Nat}(hp:ps[i]?=some p)(hx:lk[i]?=some x):(gu M ps lk)[i]?=some (vZ M (gu M ps lk) p.m x):=by
 have hi:i<ps.length:=(ax.mp hp).1
 have e:=zd (M:=M) h hM hn (i+1) #[0]
 rw[oP h hp hx,<- zd (M:=M) h hM hn i #[0]]at e
 have Q_:=h.lk hx
 have e3:vZ M ((gu M ps lk).take i) p.m x=vZ M (gu M ps lk) p.m x:=by unfold vZ;rw[Cr Q_.1,Cr Q_.2]
 rw[e3]at e
 have hl:=(nY (M:=M) h hM hn).1
 have:=ik (fun l=>l[i]?) e
 simp only[cw (show i<i+1 by omega)]at this
 rw[this,aS (by rw[aF];omega),aF,show i-min i (gu M ps lk).length=0 by omega];rfl
def Ct(M:Mc)(ps:List Pl)(lk:List #[8]):Nat:=(gu M ps lk).getD (ps.length-1) 0
def LY(M:Mc)(ps:List Pl)(lk:List #[8]):Bool:=M.gd.getD (if 0<ps.length then Ct M ps lk else 0) false
theorem UD(h:Gr ps S sz lk)(hM:m9 M n)(hn:1<=n)(h0:0<ps.length)(st:List au):bu (gA (gu M ps lk)) (.int (-1)) st=.ok (.int (Ct M ps lk:Nat)) st:=by
 have hl:=(nY (M:=M) h hM hn).1
 refine nT ?_
 rw[show(-1:Int)=-((0:Nat)+1:Int) by rfl]
 refine wY ?_
 rw[fT (by rw[aE];omega),aE,aG,hl,show ps.length-1-0=ps.length-1 by omega,aj #[0]]
 show some (W.int _)=some (W.int _)
 unfold Ct
 rw[aI,aj #[0]];rfl
theorem JB(hM:m9 M n){k:Nat}(hk:k<n)(st:List au):bu (.tup (M.gd.map W.bl)) (.int k) st=.ok (.bl (M.gd.getD k false)) st:=
 nT (fW (by rw[aG,aj (by rw[hM.gd];exact hk),aI,aj (by rw[hM.gd];exact hk)];rfl))
theorem Qt(h:Gr ps S sz lk)(hM:m9 M n)(hn:1<=n):(if 0<ps.length then Ct M ps lk else 0)<n:=by
 split
 ·rename_i h0
  obtain⟨hl,hr⟩:=nY (M:=M) h hM hn
  unfold Ct
  rw[aI,aj #[0]]
  exact hr _ (dR _)
 ·exact hn
end
section
variable{ps:List Pl}{sz:List Nat}{lk:List #[8]}
theorem Qu{fs:FA}(h:fs ρ st=.ok [.tup ws] st1):r9 fs ρ st=.ok (m5 ws,none) st1:=by unfold r9;rw[h];rfl
end
section
variable{ps:List Pl}{sz:List Nat}{lk:List #[8]}
theorem Fe(ps:List Pl)(hn:ps.length<=1000)(hρ:ρ[0]?=some (some (b_ ps)))(st:List au):k_ [none] (ic (ag 0)) (kH 0) x8 (eC .non) ρ st=.ok #[5] (st++[.lst ((List.replicate ps.length none).map oW)]):=by
 have:=E9 (cap:=[none]) (f:=kH 0) (el:=eC .non) (ρ:=ρ) (st:=st) (fun _=>.non) (zX (fe:=ag 0) (ws:=ps.map Pl.w) (st1:=st) (kz hρ)) (by rw[aE];show _<=1000000;omega) trivial fun w _=>⟨_,rfl,bI⟩
 rw[this,List.map_replicate,cn]
 congr 4
 exact List.map_const' ..
def Up(lk:List #[8])(f:Option Nat×Option Nat->Option Nat)(i:Nat)(l:List (Option Nat)):Prop:=
 (∀p u:Nat,l[p]?=some (some u)->∃x,lk[u]?=some x/\f x=some p)/\∀u x p,u<i->lk[u]?=some x->f x=some p->∃v,l[p]?=some (some v)
theorem Up.zero:Up lk f 0 (List.replicate k none):=⟨fun p u e=>by
 rw[jR]at e
 split at e<;>simp at e,fun u x p h=>absurd h #[0]⟩
theorem Up.skip{l:List (Option Nat)}{x:Option Nat×Option Nat}(h:Up lk f i l)(hx:lk[i]?=some x)(hf:f x=none):Up lk f (i+1) l:=⟨h.1,fun u y p hu hy hp=>by
 by_cases e:u=i
 ·subst e;rw[hx]at hy;cases hy;rw[hf]at hp;cases hp
 ·exact h.2 u y p #[0] hy hp⟩
theorem Up.put{l:List (Option Nat)}{x:Option Nat×Option Nat}(h:Up lk f i l)(hx:lk[i]?=some x)(hf:f x=some q)(hq:q<l.length):Up lk f (i+1) (l.set q (some i)):=⟨fun p u e=>by
 by_cases z:q=p
 ·subst z
  rw[b8 hq]at e
  cases e;exact⟨x,hx,hf⟩
 ·rw[cL z]at e;exact h.1 p u e,fun u y p hu hy hp=>by
 by_cases z:q=p
 ·subst z;exact⟨i,b8 hq⟩
 ·rw[cL z]
  by_cases e:u=i
  ·subst e;rw[hx]at hy;cases hy;rw[hf]at hp;exact absurd (bf hp) z
  ·exact h.2 u y p #[0] hy hp⟩
theorem Qw(h:Gr ps S sz lk)(hn:ps.length<=900)(st:List au):∃(A B:List (Option Nat)) (x:List au),A.length=ps.length/\B.length=ps.length/\Up lk Prod.fst ps.length A/\Up lk Prod.snd ps.length B/\(st++x)[st.length]?=some (.lst (A.map oW))/\(st++x)[st.length+1]?=some (.lst (B.map oW))/\Jk [b_ ps] st=.ok (.tup [.loc st.length,.loc (st.length+1)]) (st++x):=by
 obtain⟨l1,l2,_⟩:=h.ok
 suffices hh:k6 (A7 fun w bg=>w=.tup [.loc st.length,.loc (st.length+1)]/\st <+: bg/\∃(A B:List (Option Nat)),A.length=ps.length/\B.length=ps.length/\Up lk Prod.fst ps.length A/\Up lk Prod.snd ps.length B/\bg[st.length]?=some (.lst (A.map oW))/\bg[st.length+1]?=some (.lst (B.map oW))) (PK ([b_ ps].map some++List.replicate (5-1) none) st) by
  obtain⟨w,s',e,rfl,⟨x,rfl⟩,A,B,a1,a2,a3,a4,a5,a6⟩:=hh
  refine⟨A,B,x,a1,a2,a3,a4,a5,a6,?_⟩
  have:=js (N:=5) (body:=PK) (ws:=[b_ ps]) e
  rw[yY (by simp[undWs,W.und])]at this
  exact this
 have eA:=Fe ps #[0] (ρ:=[some (b_ ps),none,none,none,none]) rfl st
 apply az
 ·exact za eA rfl
 generalize hA0:List.replicate ps.length (none:Option Nat)=A0 at *
 have eB:=Fe ps #[0] (ρ:=[some (b_ ps),lO st.length,none,none,none]) rfl (st++[.lst (A0.map oW)])
 rw[hA0]at eB
 apply az
 ·exact za eB rfl
 rw[show(st++[au.lst (A0.map oW)]).length=st.length+1 by simp]
 have lA0:A0.length=ps.length:=by rw[<- hA0];simp
 have uA:∀f,Up lk f 0 A0:=fun f=>by rw[<- hA0];exact Up.zero
 have hlk:=tV h #[0] (st++[au.lst (A0.map oW)]++[.lst (A0.map oW)])
 refine gC (fun i ρ s=>∃(o3 o4:Option W) (A B:List (Option Nat)),ρ=[some (b_ ps),lO st.length,lO (st.length+1),o3,o4]/\st <+: s/\A.length=ps.length/\B.length=ps.length/\s[st.length]?=some (.lst (A.map oW))/\s[st.length+1]?=some (.lst (B.map oW))/\Up lk Prod.fst i A/\Up lk Prod.snd i B) (k:=(m5 (lk.map jE),none))
  (st1:=st++[au.lst (A0.map oW)]++[.lst (A0.map oW)]) (Qu (am (bU kn hlk rfl) aQ)) ⟨none,none,A0,A0,rfl,Aw (Aw (aq _)),lA0,lA0,dI dF,by rw[show st.length+1=(st++[au.lst (A0.map oW)]).length by simp];exact dF,uA _,uA _⟩ (fun _ _ _ _=>trivial) ?_ ?_
 ·rintro i w ρ s hw ⟨o3,o4,A,B,rfl,hp,hA,hB,cA,cB,uA,uB⟩
  obtain⟨y,hy,rfl⟩:=uH hw
  rw[aG]at hy
  obtain⟨x,hx,rfl⟩:=fD.mp hy
  obtain⟨k1,k2⟩:=h.lk hx
  have hi:i<ps.length:=by have:=(ax.mp hx).1;omega
  refine⟨_,rfl,?_⟩
  obtain⟨a,b⟩:=x
  have last:∀(s:List au) (A:List (Option Nat)),st <+: s->A.length=ps.length->s[st.length]?=some (.lst (A.map oW))->s[st.length+1]?=some (.lst (B.map oW))->Up lk Prod.fst (i+1) A->k6 (KB fun ρ s=>∃(o3 o4:Option W) (A B:List (Option Nat)),ρ=[some (b_ ps),lO st.length,lO (st.length+1),o3,o4]/\st <+: s/\A.length=ps.length/\B.length=ps.length/\s[st.length]?=some (.lst (A.map oW))/\s[st.length+1]?=some (.lst (B.map oW))/\Up lk Prod.fst (i+1) A/\Up lk Prod.snd (i+1) B)
    (gz (eO (iB (e2 bu (ag 4) (eI 1)))) (Bw (ag 2) (e2 bu (ag 4) (eI 1)) (ag 3) rC) bW [some (b_ ps),lO st.length,lO (st.length+1),iO (i:Nat),some (jE (a,b))] s):=by
   intro s A hp hA cA cB uA
   cases b with
   |none=>
    apply m7
    ·exact aY (fA kx rfl)
    ·exact⟨_,_,rfl,_,_,A,B,rfl,hp,hA,hB,cA,cB,uA,uB.skip hx rfl⟩
   |some q=>
    have:=k2 q rfl
    apply vp
    ·exact aY (fA kx rfl)
    apply dh
    ·exact E7 kv kv kx (D6 (q:=q) cB (by rw[aE];omega))
    ·exact⟨_,_,rfl,_,_,A,B.set q (some i),rfl,tX hp #[0],hA,by rw[pN];exact hB,by rw[cP #[0]];exact cA,by rw[fv cB,ui];rfl,uA,uB.put hx rfl #[0]⟩
  cases a with
  |none=>
   apply bC
   ·exact aY (fA kx rfl)
   apply bV
   exact last s A hp hA cA cB (uA.skip hx rfl)
  |some q=>
   have:=k1 q rfl
   apply az
   ·exact dg (aY (fA kx rfl)) (E7 kv kv kx (D6 (q:=q) cA (by rw[aE];omega)))
   exact last _ (A.set q (some i)) (tX hp (aA _)) (by rw[pN];exact hA) (by rw[fv cA,ui];rfl) (by rw[cP #[0]];exact cB) (uA.put hx rfl #[0])
 ·rintro ρ s ⟨o3,o4,A,B,rfl,hp,hA,hB,cA,cB,uA,uB⟩
  rw[show(m5 (lk.map jE),(none:Option (Nat×List W))).fst.length=ps.length by rw[yU,aE,l2]]at uA uB
  apply bP
  ·exact eQ (am kv kn) (ao rfl)
  ·exact⟨_,_,rfl,rfl,hp,A,B,hA,hB,uA,uB,cA,cB⟩
end
theorem Gv(l:List α)(d:α)(f:α->β):(List.range l.length).map (fun i=>f (l.getD i d))=l.map f:=by
 refine iI fun i=>?_
 rw[aG,aG]
 by_cases h:i<l.length
 ·rw[gH h,aj h]
  show some (f (l.getD i d))=_
  rw[aI,aj h];rfl
 ·rw[bD (by simpa using h),bD #[0]];rfl
theorem lc{l:List α}(d:α)(h:i<l.length):l[i]?=some (l.getD i d):=by
 rw[aI,aj h];rfl
theorem St.ex{n b:Nat}{S:List Nat}(hb:b<=3)(h:(b+1)/2<=S.length):∃S' k x,St n S b S' k x/\S'.length+(b+1)/2=S.length+1:=by
 obtain rfl|rfl|rfl|rfl:b=0\/b=1\/b=2\/b=3:=by omega
 ·exact⟨_,_,_,.z,by simp⟩
 ·match S,h with
  |a::S,_=>exact⟨_,_,_,.l,by simp⟩
 ·match S,h with
  |a::S,_=>exact⟨_,_,_,.r,by simp⟩
 ·match S,h with
  |c::a::S,_=>exact⟨_,_,_,.b,by simp⟩
  |[_],hz=>simp at hz
  |[],hz=>simp at hz
def ze(d:Int)(i:Nat):Bool:=Builtin.bitAnd (d/2^i) 1==1
def qy(pool:List Nat)(d:Int):List Nat:=((List.range pool.length).filter (ze d)).map fun i=>pool.getD i 0
theorem oR(pool:List Nat)(d:Int):(qy pool d).Sublist pool:=by
 unfold qy
 have:((List.range pool.length).map fun i=>pool.getD i 0)=pool:=by
  have:=Gv pool 0 (fun x=>x)
  rw[List.map_id']at this;exact this
 conv=>rhs;rw[<- this]
 exact List.Sublist.map _ List.filter_sublist
def AA:W->Nat
 |.int i=>i.toNat
 |_=>0
theorem Gw(pool:List Nat)(hp:pool.length<=50)(d:Int)(st:List au):Cb [.str pool,.int d] st=.ok (.str (D5 (qy pool d))) st:=by
 have hL:pool.length<=nO:=by show _<=1000000;omega
 have hc:=DR (fi:=dP (ah (bJ dG (ah (ag 0) aD)) aD)) (f:=kH 0) (t:=eO (e2 ku (e2 HA (e2 OR (ag 2) (ag 0)) (eI 1)) (eI 1))) (el:=e2 bu (ag 1) (ag 0)) (cap:=[none,some 0,some 1]) (ρ:=[some (.str pool),iO d]) (st:=st) (st1:=st) (ws:=gN 0 pool.length) (ck:=none) (fun w=>ze d (AA w)) (fun w=>.str [pool.getD (AA w) 0])
   (by
    have:=j8 (fs:=ah (bJ dG (ah (ag 0) aD)) aD) (ρ:=[some (.str pool),iO d]) (st:=st) (st1:=st) (q:=(pool.length:Int)) (am (cq kn (zW hL)) aQ) #[0]
    rw[ce]at this
    exact this) (by rw[fK];show _<=1000000;omega) trivial fun w hw=>by
   obtain⟨i,hi,rfl⟩:=y0 hw
   refine⟨[iO (0+(i:Int)),some (.str pool),iO d],rfl,?_,fun _=>?_⟩
   ·have h0:(0:Int)<=0+(i:Int):=by omega
    have hk:(Builtin.bitAnd (d/2^(0+(i:Int)).toNat) 1==1)=ze d (AA (.int (0+(i:Int)))):=rfl
    exact aY (bv (bv (bv kv kv (jm h0)) bI (jm trivial)) bI (gj hk))
   ·refine bv kv kv ?_
    rw[show((0:Int)+(i:Int))=(i:Int) by omega]
    have e2:uu pool (i:Int)=some (pool.getD i 0):=fW (lc 0 hi)
    rw[Ib hL e2]
    simp[AA]
 have e:((gN 0 pool.length).filter fun w=>ze d (AA w)).map (fun w=>W.str [pool.getD (AA w) 0])=((qy pool d).map fun c=>[c]).map W.str:=by
  unfold gN qy
  rw[List.filter_map,cn,cn,cn]
  have e1:((fun w=>ze d (AA w))∘fun k:Nat=>W.int (0+(k:Int)))=ze d:=by funext k;simp[AA]
  rw[e1]
  refine fx fun k _=>?_
  simp[AA]
 rw[e]at hc
 have hl:(qy pool d).length<=50:=aN (oR pool d).length_le hp
 refine fq (N:=2) (ws:=[.str pool,.int d]) (body:=Nk) ?_ rfl
 apply bP
 ·exact Fc hc (bX dF) #[0]
 ·exact⟨_,_,rfl,rfl,_,by rw[al]⟩
theorem zf(l:List Nat):mq [] (l.map fun c=>[c])=l:=by
 rw[nN]
 induction l with
 |nil=>rfl
 |cons a r ih=>simp only[bq,nj,ih];rfl
theorem u4(h:l.Nodup):D5 l=g9 l:=by
 have hp:(g9 l).Perm l:=(List.perm_ext_iff_of_nodup ((j6 l).imp fun h=>a9 h) h).mpr fun d=>jL
 have e:jM (l.map fun c=>[c])=(g9 l).map fun c=>[c]:=by
  refine vT (wN _) ?_ ((hV _).trans (hp.map _).symm)
  refine List.pairwise_map.mpr ((j6 l).imp fun{a b} h=>?_)
  intro z
  rcases List.cons_lt_cons_iff.mp z with y|⟨y,_⟩<;>omega
 unfold D5
 rw[e,zf]
def Gx(pool m:List Nat):Prop:=m.length<=50/\(∀d∈m,d∈pool)/\(pool.Nodup->m.Pairwise (· < ·))
theorem TF(hp:pool.length<=50)(d:Int):Gx pool (D5 (qy pool d)):=
 ⟨by rw[Fb];exact aN (oR pool d).length_le hp,fun c hc=>(oR pool d).subset ((Jp _).mem_iff.mp hc),fun h=>by rw[u4 ((oR pool d).nodup h)];exact j6 _⟩
theorem Qx{f:cV->List au->R Bool}{a b:List au}(h1:f ρ st=.ok false a)(h2:f ρ st=.ok true b):False:=by
 rw[h1]at h2;cases h2
theorem Ff{nd:Nat}{ds:List Int}{pool:List Nat}(hd:st[nd]?=some (.lst (Ax ds)))(Q8:ds.length<=100)(hp:pool.length<=50) :
  ∃ps S sz lk,Gr ps S sz lk/\S.length<=1/\ps.length<=2*ds.length/\(∀p∈ps,Gx pool p.m)/\xn [.loc nd,.str pool] st=.ok (b_ ps) st:=by
 suffices hh:k6 (A7 fun w bg=>(∃x,bg=st++x)/\undWs st.length [w]=true/\∃ps S sz lk,w=b_ ps/\Gr ps S sz lk/\S.length<=1/\ps.length<=2*ds.length/\∀p∈ps,Gx pool p.m) (Nl ([W.loc nd,.str pool].map some++List.replicate (6-2) none) st) by
  obtain⟨w,⟨ps,S,sz,lk,rfl,h1,h2,h3,h4⟩,e⟩:=tD hh
  exact⟨ps,S,sz,lk,h1,h2,h3,h4,e⟩
 apply az
 ·(walk_at "evs")
 apply az
 ·(walk_at "evs")
 have iE:∀A:List W,lstOf (st++[au.lst A]) nd=some (Ax ds):=fun A=>bX (dI hd)
 refine gC (fun i ρ bg=>∃(ps:List Pl) (S sz:List Nat) (lk:List #[8]) (o5 o6:Option W),ρ=[lO nd,some (.str pool),lO st.length,iO S.length,o5,o6]/\bg=st++[.lst (ps.map Pl.w)]/\Gr ps S sz lk/\ps.length=i/\∀p∈ps,Gx pool p.m) (zY (st1:=st++[au.lst []]) (by(walk_at "evs")) (iE []))
  ⟨[],[],[],[],none,none,rfl,rfl,.nil,rfl,by simp⟩ (fun i ρ bg h=>?_) ?_ ?_
 ·obtain⟨ps,S,sz,lk,o5,o6,rfl,rfl,_⟩:=h
  exact iE _
 ·rintro i w ρ bg hw ⟨ps,S,sz,lk,o5,o6,rfl,rfl,hg,ml,hpm⟩
  obtain⟨d,hdd,rfl⟩:∃d,ds[i]?=some d/\w=.int d:=by
   simp only[Ax,aG,fD]at hw
   obtain⟨d,h1,rfl⟩:=hw
   exact⟨d,h1,rfl⟩
  have hi:i<ds.length:=(ax.mp hdd).1
  refine⟨_,rfl,?_⟩
  have hc:(st++[au.lst (ps.map Pl.w)])[st.length]?=some (.lst (ps.map Pl.w)):=dF
  obtain⟨b0,hb0,eb0⟩:=hW (q:=d) (n:=4) #[0]
  have eb0:d%4=(b0:Int):=eb0
  apply az
  ·exact bb (bv kv bI (jm #[3]))
  rw[eb0]
  refine vW (fun ρ bg=>∃b:Nat,b<=3/\(b+1)/2<=S.length/\ρ=[lO nd,some (.str pool),lO st.length,iO S.length,iO d,iO b]/\bg=st++[.lst (ps.map Pl.w)]) ?_ ?_
  ·by_cases h1:S.length<(b0+1)/2
   ·have t1:decide ((S.length:Int)<((b0:Int)+1)/2)=true:=bF #[0]
    apply vp
    ·exact aY (bv (bv (bv kv bI dM) bI (jm #[3])) kv (lW t1))
    apply dh
    ·(walk_at "evs")
    ·exact⟨_,_,rfl,0,by omega,by omega,rfl,rfl⟩
   ·have t1:decide ((S.length:Int)<((b0:Int)+1)/2)=false:=a7 #[0]
    apply m7
    ·exact aY (bv (bv (bv kv bI dM) bI (jm #[3])) kv (lW t1))
    apply dh
    ·exact c9
    ·exact⟨_,_,rfl,b0,by omega,by omega,rfl,rfl⟩
  rintro ρ bg ⟨b2,hb2,u7,rfl,rfl⟩
  obtain⟨S',k,x,oZ,hlen'⟩:=St.ex (n:=ps.length) hb2 u7
  have em:=Gw pool hp (d/4%16) (st++[au.lst (ps.map Pl.w)])
  have hmk:=TF hp (d/4%16)
  generalize D5 (qy pool (d/4%16))=m at em hmk
  have ap:=pG (y:=(Pl.mk b2 m).w) hc (by rw[aE];show _<1000000;omega)
  rw[fX]at ap
  have ap:cu #[5] [.tup [.int b2,.str m]] (st++[au.lst (ps.map Pl.w)])=_:=ap
  apply az
  ·exact dU (jU kv (d8 hc) (am (eQ (am kv (am (bU (am kv (am (bv (bv kv bI (jm #[3])) bI (jm #[3])) aQ)) em rfl) aQ)) (ao rfl)) aQ) ap)
  apply dh
  ·exact bb (bv (bv kv bI dM) (bv (bv kv bI dM) bI (jm #[3])) (jm trivial))
  ·refine⟨_,_,rfl,ps++[⟨b2,m⟩],S',sz++[k],lk++[x],iO d,iO b2,?_,by simp,.snoc hg oZ,by simp[ml],?_⟩
   ·show[_,_,_,iO ((S.length:Int)+1-((b2:Int)+1)/2),_,_]=_
    rw[show(S.length:Int)+1-((b2:Int)+1)/2=(S'.length:Int) by omega]
   ·intro p hp'
    rcases aV.mp hp' with z|z
    ·exact hpm p z
    ·simp at z;subst z;exact hmk
 ·rintro ρ bg ⟨ps,S,sz,lk,o5,o6,rfl,rfl,hg,ml,hpm⟩
  rw[show(Ax ds,some (nd,Ax ds)).fst.length=ds.length by simp[Ax]]at ml
  have hSle:=hg.ok.2.2.le
  refine yZ (fun n ρ bg=>∃(ps:List Pl) (S sz:List Nat) (lk:List #[8]),ρ=[lO nd,some (.str pool),lO st.length,iO S.length,o5,o6]/\bg=st++[.lst (ps.map Pl.w)]/\Gr ps S sz lk/\ps.length+S.length<=2*ds.length/\(∀p∈ps,Gx pool p.m)/\S.length=n) S.length ⟨ps,S,sz,lk,rfl,rfl,hg,by omega,hpm,rfl⟩ ?_ ?_
  ·rintro n ρ bg ⟨ps,S,sz,lk,rfl,rfl,hg,ml,hpm,rfl⟩
   by_cases h1:1<S.length
   ·refine .inr ?_
    have t1:decide ((1:Int)<(S.length:Int))=true:=bF #[0]
    constructor
    ·exact aY (bv kv bI (lW t1))
    obtain⟨S',k,x,oZ,hlen'⟩:=St.ex (n:=ps.length) (b:=3) (S:=S) #[0] #[0]
    have hc:(st++[au.lst (ps.map Pl.w)])[st.length]?=some (.lst (ps.map Pl.w)):=dF
    have hS2:=hg.ok.2.2.le
    obtain⟨p,AV⟩:∃p,ps[S.length-1]?=some p:=⟨_,aj #[0]⟩
    have ix:bu #[5] (.int ((S.length:Int)-1)) (st++[au.lst (ps.map Pl.w)])=.ok p.w (st++[au.lst (ps.map Pl.w)]):=by
     rw[show(S.length:Int)-1=((S.length-1:Nat):Int) by omega]
     exact jN (bX hc) (fW (by rw[aG,AV];rfl))
    have hmk:=hpm p (cy AV)
    have ap:=pG (y:=(Pl.mk 3 p.m).w) hc (by rw[aE];show _<1000000;omega)
    rw[fX]at ap
    have ap:cu #[5] [.tup [.int 3,.str p.m]] (st++[au.lst (ps.map Pl.w)])=_:=ap
    apply az
    ·exact dU (jU kv (d8 hc) (am (eQ (am bI (am (bv (bv kv (bv kv bI (jm trivial)) ix) bI (D4 p _)) aQ)) (ao rfl)) aQ) ap)
    apply dh
    ·exact bb (bv kv bI (jm trivial))
    ·refine⟨_,_,rfl,S'.length,by omega,ps++[⟨3,p.m⟩],S',sz++[k],lk++[x],?_,by simp,.snoc hg oZ,by simp;omega,?_,rfl⟩
     ·show[_,_,_,iO ((S.length:Int)-1),_,_]=_
      rw[show(S.length:Int)-1=(S'.length:Int) by omega]
     ·intro q hq
      rcases aV.mp hq with z|z
      ·exact hpm q z
      ·simp at z;subst z;exact hmk
   ·refine .inl ?_
    have t1:decide ((1:Int)<(S.length:Int))=false:=a7 #[0]
    exact aY (bv kv bI (lW t1))
  ·rintro n ρ bg ⟨ps,S,sz,lk,rfl,rfl,hg,ml,hpm,rfl⟩ hno
   have hc:(st++[au.lst (ps.map Pl.w)])[st.length]?=some (.lst (ps.map Pl.w)):=dF
   have hS1:S.length<=1:=by
    rcases Nat.lt_or_ge 1 S.length with h1|h1
    ·have t1:decide ((1:Int)<(S.length:Int))=true:=bF #[0]
     exact(Qx hno (aY (bv kv bI (lW t1)))).elim
    ·exact h1
   apply bP
   ·exact cq kn (oH (bX hc))
   ·exact⟨_,_,rfl,⟨_,rfl⟩,by simp only[undWs,dL];exact my ps _,ps,S,sz,lk,rfl,hg,hS1,by omega,hpm⟩
theorem JC{l:List Nat}(hl:l.length<4000)(h:∀c∈l,c∈LL)(st:List au):Ji [.str l] st=.ok (.str (g9 l)) st:=by
 have hs:(g9 l).length<64:=by
  have:(g9 l).length<=LL.length:=nu ((j6 l).imp fun h=>a9 h) fun c hc=>h c (jL.mp hc)
  have e:LL.length=52:=by decide
  omega
 have e1:s_ (ag 0) [some (.str l)] st=.ok #[5] (st++[.lst (jf (g9 l))]):=by
  unfold s_
  rw[kz (w:=.str l) rfl]
  simp only[R.bind_ok,wP,eY]
  rw[aK ⟨hl,hs⟩]
 have hj:=DP (sep:=[]) (ls:=(g9 l).map fun c=>[c]) (st:=st++[.lst (jf (g9 l))]) (n:=st.length) (bX (by rw[dF];unfold jf;rw[cn];rfl)) (by
  rw[tY];show _<=1000000;simp;omega)
 rw[zf]at hj
 exact fq (bP (LO bI rfl (am e1 aQ) hj) ⟨_,_,rfl,rfl,_,rfl⟩) rfl
section
variable{ps:List Pl}{sz:List Nat}{lk:List #[8]}
theorem JD(l:List Nat)(n:Nat):undWs n (cY l)=true:=by
 unfold cY
 induction l with
 |nil=>rfl
 |cons x r ih=>simp[undWs,W.und,ih]
theorem zg{st:List au}{z:List Nat}{a:Nat}(x:List au)(h:z[q]?=some a):bu #[5] (.int q) (st++.lst (cY z)::x)=.ok (.int a) (st++.lst (cY z)::x):=
 jN (bX (by rw[dQ];rfl)) (fW (by unfold cY;rw[aG,h];rfl))
theorem JE{st:List au}{z:List Nat}(q:Nat)(hz:z.length<1000):cu #[5] [.int q] (st++[.lst (cY z)])=.ok .non (st++[.lst (cY (z++[q]))]):=by
 have hc:(st++[au.lst (cY z)])[st.length]?=some (.lst (cY z)):=by rw[dQ];rfl
 rw[pG hc (by simp[cY];show _<1000000;omega),fX]
 simp[cY]
theorem V5{l:List α}{x:α}(h:l[i]?=some x):l.take (i+1)=l.take i++[x]:=by rw[km,h];rfl
theorem Cu(h:Gr ps S sz lk)(hn:ps.length<=900)(st:List au):D2 [b_ ps] st=.ok (.tup (cY sz)) st:=by
 obtain⟨l1,l2,_⟩:=h.ok
 refine fq (N:=5) (ws:=[b_ ps]) (body:=Tf) ?_ (by simp[undWs,W.und,JD])
 apply az
 ·(walk_at "evs")
 have hlk:=tV h #[0] (st++[au.lst []])
 refine gC (fun i ρ bg=>∃(o2 o3 o4:Option W),ρ=[some (b_ ps),some #[5],o2,o3,o4]/\bg=st++[.lst (cY (sz.take i))]) (k:=(lk.map jE,none))
  (zX (st1:=st++[au.lst []]) (by(walk_at "evs"))) ⟨none,none,none,rfl,rfl⟩ (fun _ _ _ _=>trivial) ?_ ?_
 ·rintro i w ρ bg hw ⟨o2,o3,o4,rfl,rfl⟩
  have hip:i<ps.length:=by have:=(ax.mp hw).1;simp at this;omega
  obtain⟨S1,S2,p,k,x,g1,q1,q2,q3,hs,g2⟩:=h.step i hip
  rw[show(lk.map jE,(none:Option (Nat×List W))).1=lk.map jE from rfl,aG,q3]at hw
  cases hw
  obtain⟨lz,ll,ha⟩:=g1.ok
  have hti:(ps.take i).length=i:=by rw[aF];omega
  rw[hti]at ha lz
  have isl:ms #[16] #[5]=true:=d8 (by rw[dQ];rfl)
  have ap:=JE (st:=st) (z:=sz.take i) k #[0]
  rw[<- V5 q2]at ap
  obtain⟨b,m⟩:=p
  cases hs with
  |z=>
   rw[show((1:Nat):Int)=1 from rfl]at ap
   refine⟨_,rfl,?_⟩
   apply az
   ·(walk_at "evs")
   apply bC
   ·(walk_at "evs")
   apply bV
   apply bC
   ·(walk_at "evs")
   apply bV
   apply dh
   ·(walk_at "evs")
   ·exact⟨_,_,rfl,_,_,_,rfl,rfl⟩
  |@l a S=>
   rw[show((1+a:Nat):Int)=1+(a:Int) by omega]at ap
   have x1:bu #[5] (oW ((some (i-1),none):Option Nat×Option Nat).fst) #[16]=.ok (.int a) #[16]:=zg (st:=st) [] ha.1
   refine⟨_,rfl,?_⟩
   apply az
   ·(walk_at "evs")
   apply az
   ·apply dg
    ·(walk_at "evs")
    ·(walk_at "evs")
   apply bC
   ·(walk_at "evs")
   apply bV
   apply dh
   ·(walk_at "evs")
   ·exact⟨_,_,rfl,_,_,_,rfl,rfl⟩
  |@r a S=>
   rw[show((1+a:Nat):Int)=1+(a:Int) by omega]at ap
   have x1:bu #[5] (oW ((none,some (i-1)):Option Nat×Option Nat).snd) #[16]=.ok (.int a) #[16]:=zg (st:=st) [] ha.1
   refine⟨_,rfl,?_⟩
   apply az
   ·(walk_at "evs")
   apply bC
   ·(walk_at "evs")
   apply bV
   apply az
   ·apply dg
    ·(walk_at "evs")
    ·(walk_at "evs")
   apply dh
   ·(walk_at "evs")
   ·exact⟨_,_,rfl,_,_,_,rfl,rfl⟩
  |@b c a S=>
   have x1:bu #[5] (oW ((some (i-1-c),some (i-1)):Option Nat×Option Nat).snd) #[16]=.ok (.int c) #[16]:=zg (st:=st) [] ha.1
   have x2:=zg (st:=st) [] ha.2.2.2.1
   rw[show i-c-1=i-1-c by omega]at x2
   have x2:bu #[5] (oW ((some (i-1-c),some (i-1)):Option Nat×Option Nat).fst) #[16]=.ok (.int a) #[16]:=x2
   rw[show((1+c+a:Nat):Int)=1+(a:Int)+(c:Int) by omega]at ap
   refine⟨_,rfl,?_⟩
   apply az
   ·(walk_at "evs")
   apply az
   ·apply dg
    ·(walk_at "evs")
    ·(walk_at "evs")
   apply az
   ·apply dg
    ·(walk_at "evs")
    ·(walk_at "evs")
   apply dh
   ·(walk_at "evs")
   ·exact⟨_,_,rfl,_,_,_,rfl,rfl⟩
 ·rintro ρ bg ⟨o2,o3,o4,rfl,rfl⟩
  have hc:(st++[au.lst (cY (sz.take (lk.map jE,(none:Option (Nat×List W))).1.length))])[st.length]?=some (.lst (cY sz)):=by
   rw[dQ]
   show some (au.lst (cY (sz.take (lk.map jE).length)))=_
   rw[bj (by simp;omega)]
  apply bP
  ·(repeat' (first|with_reducible exact oH (bX hc)|walk_at "ev1"))
  ·exact⟨_,_,rfl,rfl,_,rfl⟩
end
structure JF(ps:List Pl)(sz:List Nat)(q:Nat)(p:Pl)(L R:Nat):Prop where
 hp:ps[q]?=some p
 hz:sz[q]?=some (1+L+R)
 le:L+R<=q
 b3:p.b<=3
 hL:0<L↔p.b%2=1
 hR:0<R↔2<=p.b
 hr:2<=p.b->1<=q/\sz[q-1]?=some R
theorem JF.lt{ps:List Pl}{sz:List Nat}{p:Pl}{R:Nat}(c:JF ps sz q p L R):q<ps.length:=(ax.mp c.hp).1
theorem j_(a b:List Pl)(h:(a++b).length<=100000)(st:List au):cN (b_ a) (b_ b) st=.ok (b_ (a++b)) st:=by
 unfold b_
 rw[Ij (by rw[<- bG,aE];show _<=1000000;omega),<- bG]
theorem NB{z:List Nat}{a:Nat}(h:z[q]?=some a)(st:List au):bu (.tup (cY z)) (.int q) st=.ok (.int a) st:=nT (fW (by unfold cY;rw[aG,h];rfl))
theorem xu{a:List Pl}{q:Nat}(h:q<=a.length)(st:List au):wE (b_ a) none (some (q:Int)) st=.ok (b_ (a.take q)) st:=by
 unfold b_;rw[BJ,m8 (by simpa using h),nI]
theorem xw{a:List Pl}{q:Nat}(h:q<=a.length)(st:List au):wE (b_ a) (some (q:Int)) none st=.ok (b_ (a.drop q)) st:=by
 unfold b_;rw[BJ,tF (by simpa using h),nJ]
theorem D9{a:List Pl}{i j:Nat}(hj:j<=a.length)(hi:i<=j)(st:List au):wE (b_ a) (some (i:Int)) (some (j:Int)) st=.ok (b_ ((a.drop i).take (j-i))) st:=by
 unfold b_;rw[BJ,Ik (by simpa using hj) hi,nI,nJ]
section
variable{ps:List Pl}{sz:List Nat}{lk:List #[8]}{p:Pl}{R:Nat}
theorem xy(h:q<ps.length)(st:List au):Ar [b_ ps,.int q] st=.ok .non st:=by
 have d1:decide ((q:Int)<0)=false:=a7 #[0]
 have d2:decide ((ps.length:Int)<=(q:Int))=false:=a7 #[0]
 have hl:=gQ ps st
 refine BK (N:=2) (ws:=[b_ ps,.int q]) (body:=Th) ?_
 apply m7
 ·apply m6
  ·(walk_at "evs")
  ·(walk_at "evs")
 apply dh
 ·(walk_at "evs")
 ·exact⟨_,_,rfl,[],by simp⟩
theorem JG(h:n<=100)(st:List au):y6 [.int n] st=.ok .non st:=by
 have d1:decide ((100:Int)<(n:Int))=false:=a7 #[0]
 refine BK (N:=1) (ws:=[.int n]) (body:=Jl) ?_
 simp only[Jl,nD]
 apply m7
 ·(walk_at "evs")
 apply dh
 ·(walk_at "evs")
 ·exact⟨_,_,rfl,[],by simp⟩
theorem LZ(h:Gr ps S sz lk)(hn:ps.length<=900)(c:JF ps sz q p L R)(st:List au):B1 [b_ ps,.int q] st=.ok (b_ ((ps.drop (q-L-R)).take (1+L+R))) st:=by
 have hq:=c.lt
 have ml:=c.le
 have h1:=xy hq st
 have h2:=Cu h hn st
 have h3:=NB c.hz st
 have h4:=D9 (a:=ps) (i:=q-L-R) (j:=q+1) #[0] #[0] st
 rw[show q+1-(q-L-R)=1+L+R by omega,show((q-L-R:Nat):Int)=(q:Int)+1-((1+L+R:Nat):Int) by omega,show((q+1:Nat):Int)=(q:Int)+1 from rfl]at h4
 refine fq (N:=2) (ws:=[b_ ps,.int q]) (body:=Nd) ?_ (by simp[undWs,my])
 apply az
 ·(walk_at "evs")
 apply bP
 ·apply ny
  ·(walk_at "evs")
  ·(walk_at "evs")
  ·(walk_at "evs")
  ·exact h4
 ·exact⟨_,_,rfl,rfl,[],by simp⟩
theorem JH(h:Gr ps S sz lk)(hn:ps.length<=900)(c:JF ps sz q p L R)(st:List au):rJ [b_ ps,.int q] st=.ok (.tup [b_ ((ps.drop (q-L-R)).take L),b_ ((ps.drop (q-R)).take R)]) st:=by
 have hq:=c.lt
 have ml:=c.le
 have h1:=LZ h hn c st
 have h2:=Cu h hn st
 have h3:=tW c.hp st
 have h4:=Ck c.b3 st
 have hl:wE (b_ ((ps.drop (q-L-R)).take (1+L+R))) none (some (-1)) st=.ok (b_ ((ps.drop (q-L-R)).take (L+R))) st:=by
  unfold b_
  rw[BJ,Il,<- List.map_dropLast,pZ,aF,cf,mQ,show min (min (1+L+R) (ps.length-(q-L-R))-1) (1+L+R)=L+R by omega]
 have hbl:((ps.drop (q-L-R)).take (L+R)).length=L+R:=by rw[aF,cf];omega
 have h5:=gQ ((ps.drop (q-L-R)).take (L+R)) st
 rw[hbl]at h5
 have h6:=xu (a:=(ps.drop (q-L-R)).take (L+R)) (q:=L) #[0] st
 have h7:=xw (a:=(ps.drop (q-L-R)).take (L+R)) (q:=L) #[0] st
 rw[mQ,gb #[0]]at h6
 rw[List.drop_take,List.drop_drop,show q-L-R+L=q-R by omega,show L+R-L=R by omega]at h7
 have eL:((L+R:Nat):Int)-(R:Int)=(L:Int):=by omega
 refine fq (N:=5) (ws:=[b_ ps,.int q]) (body:=Nf) ?_ (by simp[undWs,W.und,my])
 apply az
 ·apply bb
  apply ny
  ·(walk_at "evs")
  ·(walk_at "evs")
  ·apply nv
   apply vo
   (walk_at "evs")
  ·exact hl
 apply az
 ·(walk_at "evs")
 refine vW (fun ρ bg=>ρ=[some (b_ ps),some (.int q),some (b_ ((ps.drop (q-L-R)).take (L+R))),some (.int R),none]/\bg=st) ?_ ?_
 ·by_cases hb:2<=p.b
  ·rw[bF hb]at h4
   obtain⟨hq1,hz1⟩:=c.hr hb
   have h8:=NB hz1 st
   rw[show((q-1:Nat):Int)=(q:Int)-1 by omega]at h8
   apply vp
   ·(walk_at "evs")
   apply dh
   ·(walk_at "evs")
   ·exact⟨_,_,rfl,rfl,rfl⟩
  ·rw[a7 hb]at h4
   have hR0:R=0:=by have:=c.hR;omega
   apply m7
   ·(walk_at "evs")
   apply dh
   ·(walk_at "evs")
   ·exact⟨_,_,rfl,by subst hR0;rfl,rfl⟩
 ·rintro ρ bg ⟨rfl,rfl⟩
  apply az
  ·(walk_at "evs")
  rw[eL]
  apply bP
  ·apply eQ
   ·apply am
    ·apply ny
     ·(walk_at "evs")
     ·(walk_at "evs")
     ·(walk_at "evs")
     ·exact h6
    ·apply am
     ·apply ny
      ·(walk_at "evs")
      ·(walk_at "evs")
      ·(walk_at "evs")
      ·exact h7
     ·(walk_at "evs")
   ·(walk_at "evs")
  ·exact⟨_,_,rfl,rfl,[],by simp⟩
end
def qV(l:List Pl):Nat:=if 0<l.length then 1 else 0
theorem JI(a b:List Pl)(m:List Nat)(h:a.length+b.length<=5000)(st:List au):B3 [b_ a,b_ b,.str m] st=.ok (b_ (a++b++[⟨qV a+2*qV b,m⟩])) st:=by
 have h1:=gQ a st
 have h2:=gQ b st
 have h3:=j_ a b (by simp;omega) st
 have h4:=j_ (a++b) [⟨qV a+2*qV b,m⟩] (by simp;omega) st
 refine fq (N:=4) (ws:=[b_ a,b_ b,.str m]) (body:=Ng) ?_ (by simp[undWs,my])
 apply az
 ·(walk_at "evs")
 refine vW (fun ρ bg=>ρ=[some (b_ a),some (b_ b),some (.str m),some (.int (qV a:Nat))]/\bg=st) ?_ ?_
 ·by_cases ha:0<a.length
  ·have d:decide ((0:Int)<(a.length:Int))=true:=bF #[0]
   apply vp
   ·(walk_at "evs")
   apply dh
   ·(walk_at "evs")
   ·exact⟨_,_,rfl,by simp only[qV,aK ha];rfl,rfl⟩
  ·have d:decide ((0:Int)<(a.length:Int))=false:=a7 #[0]
   apply m7
   ·(walk_at "evs")
   apply dh
   ·(walk_at "evs")
   ·exact⟨_,_,rfl,by simp only[qV,aU ha];rfl,rfl⟩
 rintro ρ bg ⟨rfl,rfl⟩
 refine vW (fun ρ st''=>ρ=[some (b_ a),some (b_ b),some (.str m),some (.int (qV a+2*qV b:Nat))]/\st''=bg) ?_ ?_
 ·by_cases hb:0<b.length
  ·have d:decide ((0:Int)<(b.length:Int))=true:=bF #[0]
   apply vp
   ·(walk_at "evs")
   apply dh
   ·(walk_at "evs")
   ·exact⟨_,_,rfl,by simp only[qV,aK hb];rfl,rfl⟩
  ·have d:decide ((0:Int)<(b.length:Int))=false:=a7 #[0]
   apply m7
   ·(walk_at "evs")
   apply dh
   ·(walk_at "evs")
   ·exact⟨_,_,rfl,by simp only[qV,aU hb];rfl,rfl⟩
 rintro ρ st'' ⟨rfl,rfl⟩
 have h5:cN (b_ (a++b)) (.tup [.tup [.int (qV a+2*qV b:Nat),.str m]]) st''=.ok (b_ (a++b++[⟨qV a+2*qV b,m⟩])) st'':=h4
 apply bP
 ·(walk_at "evs")
 ·exact⟨_,_,rfl,rfl,[],by simp⟩
def D_(ps:List Pl)(q L R:Nat):List Pl:=(ps.drop (q-L-R)).take L
def D'(ps:List Pl)(q R:Nat):List Pl:=(ps.drop (q-R)).take R
def Q5(ps:List Pl)(q L R:Nat)(m:List Nat)(sd:Bool)(oth:List Pl):List Pl:=
 let l:=if sd then oth else D_ ps q L R
 let r:=if sd then D' ps q R else oth
 ps.take (q-L-R)++(l++r++[⟨qV l+2*qV r,m⟩])++ps.drop (q+1)
def vx(sd:Bool):W:=.str (if sd then[108,101,102,116]else[114,105,103,104,116])
section
variable{ps oth:List Pl}{sz:List Nat}{lk:List #[8]}{p:Pl}{R:Nat}
theorem JF.l0(c:JF ps sz q p L R):(D_ ps q L R).length=L:=by have:=c.lt;have:=c.le;unfold D_;rw[aF,cf];omega
theorem JF.l1(c:JF ps sz q p L R):(D' ps q R).length=R:=by have:=c.lt;have:=c.le;unfold D';rw[aF,cf];omega
theorem L0(h:Gr ps S sz lk)(hn:ps.length<=900)(ho:oth.length<=900)(c:JF ps sz q p L R)(sd:Bool)(st:List au){P:RS->Prop}
  (he:∀o4 o5 o6 o7:Option W,k6 P ((aM (dm (b7 1 y6 (ah (bJ dG (ah (ag 8) aD)) aD))) (cQ (ag 8))) [some (b_ ps),some (.int q),some (vx sd),some (b_ oth),o4,o5,o6,o7,some (b_ (Q5 ps q L R p.m sd oth))] st)) :
  k6 P (Jm ([b_ ps,.int q,vx sd,b_ oth].map some++List.replicate (9-4) none) st):=by
 have hq:=c.lt
 have ml:=c.le
 have h0:=c.l0
 have h1:=c.l1
 have a1:=JH h hn c st
 change _=L2.R.ok (W.tup [b_ (D_ ps q L R),b_ (D' ps q R)]) st at a1
 have b0:bu (.tup [b_ (D_ ps q L R),b_ (D' ps q R)]) (.int 0) st=.ok (b_ (D_ ps q L R)) st:=rfl
 have b1:bu (.tup [b_ (D_ ps q L R),b_ (D' ps q R)]) (.int 1) st=.ok (b_ (D' ps q R)) st:=rfl
 have n0:=gQ (D_ ps q L R) st
 have n1:=gQ (D' ps q R) st
 rw[h0]at n0
 rw[h1]at n1
 have i1:=tW c.hp st
 have i2:=D4 p st
 have s1:=xu (a:=ps) (q:=q-L-R) #[0] st
 rw[show((q-L-R:Nat):Int)=(q:Int)-(L:Int)-(R:Int) by omega]at s1
 have s2:=xw (a:=ps) (q:=q+1) #[0] st
 rw[show((q+1:Nat):Int)=(q:Int)+1 from rfl]at s2
 cases sd with
 |true=>
  have q1:ku (vx true) (.str [108,101,102,116]) st=.ok (.bl true) st:=rfl
  have q2:ku (vx true) (.str [114,105,103,104,116]) st=.ok (.bl false) st:=rfl
  have t1:=JI oth (D' ps q R) p.m #[0] st
  have t2:=j_ (ps.take (q-L-R)) (oth++D' ps q R++[⟨qV oth+2*qV (D' ps q R),p.m⟩]) (by simp;omega) st
  have t3:=j_ (ps.take (q-L-R)++(oth++D' ps q R++[⟨qV oth+2*qV (D' ps q R),p.m⟩])) (ps.drop (q+1)) (by simp;omega) st
  apply az
  ·(walk_at "evs")
  apply az
  ·apply bb
   apply tq
   ·(walk_at "evs")
   ·(walk_at "evs")
  apply az
  ·apply bb
   apply tt
   ·(walk_at "evs")
   ·(walk_at "evs")
  apply az
  ·(walk_at "evs")
  apply az
  ·(repeat' (first|with_reducible exact s1|with_reducible exact s2|walk_at "ev1"))
  exact he _ _ _ _
 |false=>
  have q1:ku (vx false) (.str [108,101,102,116]) st=.ok (.bl false) st:=rfl
  have q2:ku (vx false) (.str [114,105,103,104,116]) st=.ok (.bl true) st:=rfl
  have t1:=JI (D_ ps q L R) oth p.m #[0] st
  have t2:=j_ (ps.take (q-L-R)) (D_ ps q L R++oth++[⟨qV (D_ ps q L R)+2*qV oth,p.m⟩]) (by simp;omega) st
  have t3:=j_ (ps.take (q-L-R)++(D_ ps q L R++oth++[⟨qV (D_ ps q L R)+2*qV oth,p.m⟩])) (ps.drop (q+1)) (by simp;omega) st
  apply az
  ·(walk_at "evs")
  apply az
  ·apply bb
   apply tt
   ·(walk_at "evs")
   ·(walk_at "evs")
  apply az
  ·apply bb
   apply tq
   ·(walk_at "evs")
   ·(walk_at "evs")
  apply az
  ·(walk_at "evs")
  apply az
  ·(repeat' (first|with_reducible exact s1|with_reducible exact s2|walk_at "ev1"))
  exact he _ _ _ _
theorem Qy(h:Gr ps S sz lk)(hn:ps.length<=900)(ho:oth.length<=900)(c:JF ps sz q p L R)(sd:Bool)(st:List au)(hs:(Q5 ps q L R p.m sd oth).length<=100):B4 [b_ ps,.int q,vx sd,b_ oth] st=.ok (b_ (Q5 ps q L R p.m sd oth)) st:=by
 refine fq (N:=9) (ws:=[b_ ps,.int q,vx sd,b_ oth]) (body:=Jm) (L0 h hn ho c sd st fun o4 o5 o6 o7=>?_) (by simp[undWs,my])
 have n:=gQ (Q5 ps q L R p.m sd oth) st
 have z:=JG hs st
 apply az
 ·(walk_at "evs")
 apply bP
 ·(walk_at "evs")
 ·exact⟨_,_,rfl,rfl,[],by simp⟩
end
theorem L1{l:List α}{x d:α}(h:l[i]?=some x):l.getD i d=x:=by rw[aI,h];rfl
section
variable{ps:List Pl}{sz:List Nat}{lk:List #[8]}{M:Mc}
def zh(R:List Nat)(q:Nat):W:=.int ((R.getD q 0:Nat):Int)
theorem Fg(h:Gr ps S sz lk)(hl:ps.length<=900)(hM:m9 M n)(hn:1<=n)(st:List au) :
  ∃x,xo [M.w,b_ ps] st=.ok (.loc (st.length+1)) (st++x)/\x[1]?=some (.lst (nW (gu M ps lk))):=by
 suffices hh:k6 (A7 fun w bg=>∃j x,w=.loc (st.length+j)/\bg=st++x/\j=1/\x[1]?=some (.lst (nW (gu M ps lk)))) (Np ([M.w,b_ ps].map some++List.replicate (8-2) none) st) by
  obtain⟨j,x,⟨rfl,hx⟩,e⟩:=vU hh
  exact⟨x,e,hx⟩
 obtain⟨l1,l2,_⟩:=h.ok
 obtain⟨rl,rlt⟩:=nY (M:=M) h hM hn
 have rat:=fun{i:Nat} {p:Pl} {x:Option Nat×Option Nat}=>JA (M:=M) (i:=i) (p:=p) (x:=x) h hM hn
 generalize gu M ps lk=R at *
 apply az
 ·exact bb (qh aQ (ao rfl))
 apply az
 ·exact bb (qh aQ (ao rfl))
 have l3:(st++[au.lst []]).length=st.length+1:=by simp
 rw[l3]
 refine gC (fun i ρ s=>∃(S1:List Nat) (o4 o5 o6 o7:Option W),ρ=[some M.w,some (b_ ps),some #[5],some (.loc (st.length+1)),o4,o5,o6,o7]/\s=st++[.lst ((jV S1 i).map (zh R)).reverse,.lst (nW (R.take i))]/\Gr (ps.take i) S1 (sz.take i) (lk.take i)/\i<=ps.length)
  (k:=(ps.map Pl.w,none)) (st1:=(st++[au.lst []])++[au.lst []]) (zX kv) ⟨[],none,none,none,none,rfl,by rw[al];rfl,.nil,bY _⟩ (fun _ _ _ _=>trivial) ?_ ?_
 ·rintro i w ρ s hw ⟨S1,o4,o5,o6,o7,rfl,rfl,hg,hi⟩
  have hip:i<ps.length:=by have:=(ax.mp hw).1;simpa using this
  obtain⟨S1',S2,p,k,x,g1,q1,q2,q3,hs,g2⟩:=h.step i hip
  have hw:w=p.w:=by
   simp only at hw
   rw[aG,q1]at hw
   exact(bf hw).symm
  subst hw
  refine⟨_,rfl,?_⟩
  have hS:=hg.det g1 rfl
  subst hS
  obtain⟨lz,ll,ha⟩:=g1.ok
  have hti:(ps.take i).length=i:=by rw[aF];omega
  rw[hti]at ha lz ll
  have hSl:=ha.le
  have hR:=rat q1 q3
  have hlo:Jw R.length x:=⟨fun j e=>by have:=(h.lk q3).1 j e;omega,fun j e=>by have:=(h.lk q3).2 j e;omega⟩
  obtain⟨t,r,f1,f2,f3,_⟩:=D8 (m:=p.m) hM hn rlt hlo
  have hRt:R.take (i+1)=R.take i++[vZ M R p.m x]:=by rw[km,hR];rfl
  have pop:∀(A:List W) (B:List Nat) (q:Nat),qZ #[5] [] (st++[.lst ((q::B).map (zh R)).reverse,.lst A])=.ok (zh R q) (st++[.lst (B.map (zh R)).reverse,.lst A]):=fun A B q=>by
   have hc:(st++[au.lst ((q::B).map (zh R)).reverse,.lst A])[st.length]?=some (.lst ((B.map (zh R)).reverse++[zh R q])):=by rw[dQ];simp
   rw[BI hc,fX];rfl
  have isl0:∀(A:List W) (B:List W),ms (st++[.lst A,.lst B]) #[5]=true:=fun A B=>d8 (by rw[dQ];rfl)
  have T1:∀(k:Bool) (ρ:cV) (s:List au),decide ((2:Int)<=(p.b:Int))=k->ρ[4]?=some (some (.int p.b))->eO (e2 OT (ag 4) (eI 2)) ρ s=.ok k s:=fun k ρ s e h4=>aY (bv (kz h4) bI (BH e))
  have T2:∀(k:Bool) (ρ:cV) (s:List au),(((p.b:Int)%2)==1)=k->ρ[4]?=some (some (.int p.b))->eO (e2 ku (e2 iX (ag 4) (eI 2)) (eI 1)) ρ s=.ok k s:=fun k ρ s e h4=>aY (bv (bv (kz h4) bI (jm #[3])) bI (gj e))
  have put:∀(u v:W) (B:List Nat),u=.int (Az R x.1:Nat)->v=.int (Az R x.2:Nat)->B.length<1001->i::B=jV S2 (i+1) ->
    k6 (KB (fun ρ s=>∃(S1:List Nat) (o4 o5 o6 o7:Option W),ρ=[some M.w,some (b_ ps),some #[5],some (.loc (st.length+1)),o4,o5,o6,o7]/\s=st++[.lst ((jV S1 (i+1)).map (zh R)).reverse,.lst (nW (R.take (i+1)))]/\Gr (ps.take (i+1)) S1 (sz.take (i+1)) (lk.take (i+1))/\i+1<=ps.length))
     (aM (dm (oE cu (ag 2) (ah (e2 bu (e2 bu (e2 bu (e2 bu (ag 0) (eI 2)) (b7 2 y_ (ah (e2 bu (ag 0) (eI 0)) (ah (ag 5) aD)))) (ag 6)) (ag 7)) aD))) (dm (oE cu (ag 3) (ah (e2 bu (ag 2) (r_ (eI 1))) aD)))
      [some M.w,some (b_ ps),some #[5],some (.loc (st.length+1)),some (.int p.b),some (.str p.m),some u,some v] (st++[.lst (B.map (zh R)).reverse,.lst (nW (R.take i))])):=by
   rintro u v B rfl rfl hB hT
   have hc:(st++[au.lst (B.map (zh R)).reverse,.lst (nW (R.take i))])[st.length]?=some (.lst (B.map (zh R)).reverse):=by rw[dQ];rfl
   apply az
   ·exact dU (jU kv (d8 hc) (am (bv (bv (bv kx (bU (am kx kn) (D7 M.nm p.m _) rfl) (Jy f1 _)) kv (Ju f2)) kv (Jt f3)) aQ) (pG hc (by rw[gI,aE];show _<1000000;omega)))
   rw[fX]
   have hc1:(st++[au.lst (B.map (zh R)).reverse,.lst (nW (R.take i))].set 0 (.lst ((B.map (zh R)).reverse++[W.int (vZ M R p.m x:Nat)])))[st.length]?=some (.lst ((B.map (zh R)).reverse++[W.int (vZ M R p.m x:Nat)])):=by rw[dQ];rfl
   have hc2:(st++[au.lst (B.map (zh R)).reverse,.lst (nW (R.take i))].set 0 (.lst ((B.map (zh R)).reverse++[W.int (vZ M R p.m x:Nat)])))[st.length+1]?=some (.lst (nW (R.take i))):=by rw[iC];rfl
   have last:uu ((B.map (zh R)).reverse++[W.int (vZ M R p.m x:Nat)]) (-1)=some (.int (vZ M R p.m x:Nat)):=wY (q:=0) (by rw[gJ];rfl)
   refine dh (dU (jU kv (d8 hc2) (am (bv kv (vo bI) (jN (bX hc1) last)) aQ) (pG hc2 (by simp[nW];show _<1000000;omega)))) ?_
   refine⟨_,_,rfl,S2,_,_,_,_,rfl,?_,g2,by omega⟩
   rw[nR,<- hT,hRt]
   have:zh R i=.int (vZ M R p.m x:Nat):=by unfold zh;rw[L1 hR]
   simp[nW,this]
  apply az
  ·exact bb bI
  apply az
  ·exact bb bI
  obtain⟨b,m⟩:=p
  cases hs with
  |@z=>
   apply bC
   ·exact T1 false _ _ rfl rfl
   apply bV
   apply bC
   ·exact T2 false _ _ rfl rfl
   apply bV
   exact put _ _ (jV S1 i) rfl rfl (by rw[i7];omega) rfl
  |@l a S=>
   apply bC
   ·exact T1 false _ _ rfl rfl
   apply bV
   apply az
   ·exact dg (T2 true _ _ rfl rfl) (bb (jU kv (isl0 _ _) aQ (pop _ (jV S (i-a)) (i-1))))
   exact put _ _ (jV S (i-a)) rfl rfl (by rw[i7];simp at hSl;omega) (by simp only[jV];congr 1;congr 1;omega)
  |@r a S=>
   apply az
   ·exact dg (T1 true _ _ rfl rfl) (bb (jU kv (isl0 _ _) aQ (pop _ (jV S (i-a)) (i-1))))
   apply bC
   ·exact T2 false _ _ (by show((2:Int)%2==1)=false;decide) rfl
   apply bV
   exact put _ _ (jV S (i-a)) rfl rfl (by rw[i7];simp at hSl;omega) (by simp only[jV];congr 1;congr 1;omega)
  |@b c a S=>
   apply az
   ·exact dg (T1 true _ _ rfl rfl) (bb (jU kv (isl0 _ _) aQ (pop _ (jV (a::S) (i-c)) (i-1))))
   apply az
   ·exact dg (T2 true _ _ (by show((3:Int)%2==1)=true;decide) rfl) (bb (jU kv (isl0 _ _) aQ (pop _ (jV S (i-c-a)) (i-c-1))))
   exact put _ _ (jV S (i-c-a)) (by show zh R _=W.int ((R.getD (i-1-c) 0:Nat):Int);rw[show i-1-c=i-c-1 by omega];rfl) rfl (by rw[i7];simp at hSl;omega) (by simp only[jV];congr 1;congr 1;omega)
 ·rintro ρ s ⟨S1,o4,o5,o6,o7,rfl,rfl,hg,hi⟩
  apply bP
  ·exact kz rfl
  ·refine⟨_,_,rfl,1,_,rfl,rfl,rfl,?_⟩
   rw[show(ps.map Pl.w,(none:Option (Nat×List W))).fst.length=R.length by simp[rl],cJ]
   rfl
theorem JJ(h:Gr ps S sz lk)(hl:ps.length<=900)(hM:m9 M n)(hn:1<=n)(st:List au):Ce [M.w,b_ ps] st=.ok (.bl (LY M ps lk)) st:=by
 refine fq (N:=2) (ws:=[M.w,b_ ps]) (body:=Nq) ?_ rfl
 have ll:=gQ ps st
 have tl:=Qt (M:=M) h hM hn
 unfold LY
 by_cases z:0<ps.length
 ·refine bC (aY (bv (cq kn ll) bI (gj (by rw[bp];omega)))) ?_
  refine bV ?_
  rw[aK z]at tl ⊢
  obtain⟨x,e,hx⟩:=Fg h hl hM hn st
  have hx2:(st++x)[st.length+1]?=some (.lst (nW (gu M ps lk))):=by rw[iC];exact hx
  refine bP (bv kx (bv (bU (am kv kn) e rfl) (vo bI) (jN (bX hx2) (wY (q:=0) (x:=.int (Ct M ps lk:Nat)) ?_))) (JB hM tl _)) ⟨_,_,rfl,rfl,_,rfl⟩
  have rl:=(nY (M:=M) h hM hn).1
  unfold nW
  rw[fT (by rw[aE];omega),aE,aG,rl,show ps.length-1-0=ps.length-1 by omega,aj #[0]]
  show some (W.int _)=some (W.int _)
  unfold Ct
  rw[aI,aj #[0]];rfl
 ·rw[aU z]
  refine eR (aY (bv (cq kn ll) bI (gj (by rw[du];omega)))) ?_
  exact eG (bv kx bI (JB (k:=0) hM hn st)) ⟨_,_,rfl,rfl,[],by simp⟩
end
theorem Ea(nm:List Nat)(n i6 dl:Nat)(ds:List Int)(st:List au)(T_:nm.length<=6)(hn:1<=n)(WB:n<=9)(Q7:1<=i6)(WG:i6<=n)(hd:st[dl]?=some (.lst (Ax ds)))(NJ:n+2^nm.length*(n*n)<=ds.length) :
  ∃M:Mc,M.nm=nm/\m9 M n/\Cd [.str nm,.int n,.int i6,.loc dl] st=.ok M.w st:=by
 suffices hh:k6 (A7 fun w bg=>(∃x,bg=st++x)/\undWs st.length [w]=true/\∃M:Mc,w=M.w/\M.nm=nm/\m9 M n) (Nn ([W.str nm,.int n,.int i6,.loc dl].map some++List.replicate (10-4) none) st) by
  obtain⟨w,⟨M,rfl,h1,h2⟩,e⟩:=tD hh
  exact⟨M,h1,h2,e⟩
 have gB:∀s:List au,dG [.str nm] s=.ok (.int nm.length) s:=fun s=>zW (by show _<=1000000;omega)
 have p2:2^nm.length<=64:=Nat.pow_le_pow_right #[0] T_
 obtain⟨N,hN⟩:∃N,N=2^nm.length:=⟨_,rfl⟩
 have sh:∀s:List au,Bs (.int 1) (.int nm.length) s=.ok (.int N) s:=fun s=>by rw[hN];exact Hj #[0]
 rw[<- hN]at p2 NJ
 have hdn:n<=ds.length:=by omega
 obtain⟨gd,hgl,_,eg⟩:=Jq (cap:=[none,some 3]) (ρ:=[some (.str nm),iO n,iO i6,lO dl,none,none,none,none,none,none]) (st:=st) (fs:=ah (ag 1) aD) (n:=n)
  (el:=e2 ku (e2 iX (e2 bu (ag 1) (ag 0)) (eI 2)) (eI 1)) W.bl (fun _ _=>True) kn #[0] fun q hq=>by
   obtain⟨d,hdd⟩:∃d,ds[q]?=some d:=⟨_,aj #[0]⟩
   exact⟨_,trivial,bv (bv (bv kv kv (vX hd hdd)) bI (jm #[3])) bI (gj rfl)⟩
 apply az
 ·exact bb eg
 generalize hs0:st++[au.lst (gd.map W.bl)]=s0
 have hst0:st <+: s0:=by rw[<- hs0];exact a_ _ _
 apply az
 ·(walk_at "evs")
 apply az
 ·(walk_at "evs")
 refine gC (fun i ρ s=>∃(tb:List (List (List Nat))) (a:Nat) (o7 o8 o9:Option W),ρ=[some (.str nm),iO n,iO i6,lO dl,some (.tup (gd.map W.bl)),lO s0.length,iO a,o7,o8,o9]/\s0 <+: s/\s[s0.length]?=some (.lst (tb.map yl))/\tb.length=i/\(∀t∈tb,V4 n t)/\a+(N-i)*(n*n)<=ds.length)
  (j8 (q:=(N:Int)) (st1:=s0++[au.lst []]) (am (bv bI (cq kn (gB _)) (sh _)) aQ) #[0])
  ⟨[],n,none,none,none,rfl,a_ _ _,dF,rfl,by simp,by simpa using NJ⟩ (fun _ _ _ _=>trivial) ?_ ?_
 ·rintro i w ρ s hw ⟨tb,a,o7,o8,o9,rfl,hp,hc,hl,ht,hal⟩
  obtain⟨hi,rfl⟩:=kJ hw
  rw[ce]at hi
  refine⟨_,rfl,?_⟩
  rw[show N-i=(N-(i+1))+1 by omega,Nat.succ_mul]at hal
  apply az
  ·(walk_at "evs")
  refine gC (fun j ρ z=>∃(AM:List (List Nat)) (a:Nat) (o9:Option W),ρ=[some (.str nm),iO n,iO i6,lO dl,some (.tup (gd.map W.bl)),lO s0.length,iO a,iO (0+(i:Int)),lO s.length,o9]/\s <+: z/\z[s.length]?=some (.lst (AM.map gA))/\AM.length=j/\(∀r∈AM,r.length=n/\∀k∈r,k<n)/\a+((N-(i+1))*(n*n)+(n-j)*n)<=ds.length)
   (j8 (q:=(n:Int)) (st1:=s++[au.lst []]) (by(walk_at "evs")) #[0]) ⟨[],a,_,rfl,a_ _ _,dF,rfl,by simp,by simpa using hal⟩ (fun _ _ _ _=>trivial) ?_ ?_
  ·rintro j w ρ z hw ⟨AM,a,o9,rfl,hz,hcz,hrl,hr,hal⟩
   obtain⟨hj,rfl⟩:=kJ hw
   rw[ce]at hj
   refine⟨_,rfl,?_⟩
   rw[show n-j=(n-(j+1))+1 by omega,Nat.succ_mul]at hal
   have pt:(0:Int)<(i6:Int):=by omega
   obtain⟨r,hrn,hrb,er⟩:=Jq (cap:=[none,some 2,some 3,some 6]) (ρ:=[some (.str nm),iO n,iO i6,lO dl,some (.tup (gd.map W.bl)),lO s0.length,iO a,iO (0+(i:Int)),lO s.length,iO (0+(j:Int))]) (st:=z) (fs:=ah (ag 1) aD) (n:=n)
    (el:=e2 iX (e2 bu (ag 2) (e2 cN (ag 3) (ag 0))) (ag 1)) (fun k:Nat=>W.int (k:Nat)) (fun _ k=>k<n) kn #[0] fun q hq=>by
     obtain⟨d,hdd⟩:∃d,ds[a+q]?=some d:=⟨_,aj #[0]⟩
     obtain⟨k,hk,ek⟩:=hW (q:=d) (n:=i6) #[0]
     refine⟨k,by omega,?_⟩
     rw[<- ek]
     exact bv (bv kv (bv kv kv dM) (vX (pre_get (hst0.trans (hp.trans hz)) hd) hdd)) kv (jm pt)
   have ap:=qx (y:=gA r) (pre_get (s:=z++[.lst (r.map fun k:Nat=>W.int k)]) (a_ _ _) hcz) (by rw[aE];omega)
   apply az
   ·exact dU (jU kv (d8 hcz) (am er aQ) ap)
   apply dh
   ·exact bb (bv kv kv dM)
   ·refine⟨_,_,rfl,AM++[r],a+n,_,rfl,tX (Aw hz) (aA _),?_,by simp[hrl],?_,by omega⟩
    ·rw[fv (pre_get (a_ _ _) hcz)];simp
    ·intro x hx
     rcases aV.mp hx with y|y
     ·exact hr x y
     ·simp at y;subst y
      refine⟨hrn,fun k hk=>?_⟩
      obtain⟨q,hq⟩:=List.getElem?_of_mem hk
      exact hrb q k hq
  ·rintro ρ z ⟨AM,a,o9,rfl,hz,hcz,hrl,hr,hal⟩
   have hrl:AM.length=n:=by rw[hrl];simp[fK]
   have hcp:=pre_get hz hc
   have ap:=qx (y:=yl AM) hcp (by rw[aE,hl];omega)
   apply dh
   ·exact dU (jU kv (d8 hcp) (am (cq kn (oH (bX hcz))) aQ) ap)
   ·refine⟨_,_,rfl,tb++[AM],a,_,_,_,rfl,tX (hp.trans hz) (aA _),?_,by simp[hl],?_,by omega⟩
    ·rw[fv hcp];simp
    ·intro x hx
     rcases aV.mp hx with y|y
     ·exact ht x y
     ·simp at y;subst y
      exact⟨hrl,hr⟩
 ·rintro ρ s ⟨tb,a,o7,o8,o9,rfl,hp,hc,hl,ht,hal⟩
  have hl:tb.length=N:=by rw[hl];simp[fK]
  obtain⟨x,rfl⟩:=hst0.trans hp
  apply bP
  ·exact eQ (am kv (am kv (am (cq kn (oH (bX hc))) aQ))) (ao rfl)
  ·exact⟨_,_,rfl,⟨_,rfl⟩,by simp only[undWs,dL];exact Js ⟨nm,gd,tb⟩ _,⟨nm,gd,tb⟩,rfl,rfl,hgl,by rw[hl,hN],ht⟩
inductive MT where
 |nil
 |nd (l r:MT) (m:List Nat)
namespace MT
def one:MT->Nat
 |nil=>0
 |nd _ _ _=>1
def size:MT->Nat
 |nil=>0
 |nd l r _=>l.size+r.size+1
def po:MT->List Pl
 |nil=>[]
 |nd l r m=>l.po++r.po++[⟨l.one+2*r.one,m⟩]
def tp:MT->Nat->Option Nat
 |nil,_=>none
 |nd l r _,o=>some (o+l.size+r.size)
def lkT:MT->Nat->List #[8]
 |nil,_=>[]
 |nd l r _,o=>l.lkT o++r.lkT (o+l.size)++[(l.tp o,r.tp (o+l.size))]
def szT:MT->List Nat
 |nil=>[]
 |nd l r _=>l.szT++r.szT++[l.size+r.size+1]
theorem po_len:∀t:MT,t.po.length=t.size
 |nil=>rfl
 |nd l r m=>by unfold po size;rw[ai,ai,po_len l,po_len r];rfl
theorem sz_len:∀t:MT,t.szT.length=t.size
 |nil=>rfl
 |nd l r m=>by unfold szT size;rw[ai,ai,sz_len l,sz_len r];rfl
theorem lk_len:∀(t:MT) (o:Nat),(t.lkT o).length=t.size
 |nil,_=>rfl
 |nd l r m,o=>by unfold lkT size;rw[ai,ai,lk_len l,lk_len r];rfl
theorem size_nd(l r:MT)(m:List Nat):(nd l r m).size=l.size+r.size+1:=rfl
theorem tp_nd(l r:MT)(m:List Nat)(o:Nat):(nd l r m).tp o=some (o+(nd l r m).size-1):=by
 show some (o+l.size+r.size)=_
 rw[size_nd];congr 1;omega
theorem Vv(l r:MT)(m:List Nat)(o k:Nat):(nd l r m).tp o=some (o+(nd l r m).size+k-1-k):=by
 rw[tp_nd,size_nd];congr 1;omega
def cs(S:List Nat):MT->List Nat
 |nil=>S
 |nd l r m=>(nd l r m).size::S
theorem gr:∀(t:MT) {ps:List Pl} {S sz:List Nat} {lk:List #[8]},Gr ps S sz lk->Gr (ps++t.po) (t.cs S) (sz++t.szT) (lk++t.lkT ps.length)
 |nil,ps,S,sz,lk,h=>by
  show Gr (ps++[]) S (sz++[]) (lk++[])
  rw[a8,a8,a8];exact h
 |nd l r m,ps,S,sz,lk,h=>by
  have h1:=gr l h
  have h2:=gr r h1
  rw[ai,po_len]at h2
  unfold po szT lkT
  rw[<- al,<- al,<- al,<- al,<- al,<- al]
  refine .snoc h2 ?_
  rw[ai,ai,po_len,po_len]
  cases l with
  |nil=>
   cases r with
   |nil=>exact .z
   |nd r1 r2 rm=>
    have:=St.r (n:=ps.length+(nil:MT).size+(nd r1 r2 rm).size) (a:=(nd r1 r2 rm).size) (S:=S)
    have e:(none,(nd r1 r2 rm).tp (ps.length+(nil:MT).size))=((none:Option Nat),some (ps.length+(nil:MT).size+(nd r1 r2 rm).size-1)):=by rw[tp_nd]
    show St _ _ 2 _ _ (none,_)
    rw[e,show(nil:MT).size+(nd r1 r2 rm).size+1=1+(nd r1 r2 rm).size by simp only[size];omega]
    show St _ _ 2 ((nil.size+(nd r1 r2 rm).size+1)::S) _ _
    rw[show(nil:MT).size+(nd r1 r2 rm).size+1=1+(nd r1 r2 rm).size by simp only[size];omega]
    exact this
  |nd l1 l2 lm=>
   cases r with
   |nil=>
    have:=St.l (n:=ps.length+(nd l1 l2 lm).size+(nil:MT).size) (a:=(nd l1 l2 lm).size) (S:=S)
    have e:((nd l1 l2 lm).tp ps.length,(none:Option Nat))=(some (ps.length+(nd l1 l2 lm).size+(nil:MT).size-1),none):=by rw[tp_nd];rfl
    show St _ _ 1 ((_+1)::S) _ (_,none)
    rw[e,show(nd l1 l2 lm).size+(nil:MT).size+1=1+(nd l1 l2 lm).size by simp only[size];omega]
    exact this
   |nd r1 r2 rm=>
    have:=St.b (n:=ps.length+(nd l1 l2 lm).size+(nd r1 r2 rm).size) (c:=(nd r1 r2 rm).size) (a:=(nd l1 l2 lm).size) (S:=S)
    have e:((nd l1 l2 lm).tp ps.length,(nd r1 r2 rm).tp (ps.length+(nd l1 l2 lm).size))=(some (ps.length+(nd l1 l2 lm).size+(nd r1 r2 rm).size-1-(nd r1 r2 rm).size),some (ps.length+(nd l1 l2 lm).size+(nd r1 r2 rm).size-1)):=by rw[tp_nd r1,Vv l1 l2 lm _ (nd r1 r2 rm).size]
    show St _ _ 3 ((_+1)::S) _ _
    rw[e,show(nd l1 l2 lm).size+(nd r1 r2 rm).size+1=1+(nd r1 r2 rm).size+(nd l1 l2 lm).size by omega]
    exact this
theorem gr0(t:MT):Gr t.po (t.cs []) t.szT (t.lkT 0):=by
 have:=gr t Gr.nil
 simpa using this
def Bl:MT->Nat->Nat->Prop
 |nil,_,_=>False
 |nd l r _,q,j=>(q<l.size/\j<l.size/\l.Bl q j)\/(l.size<=q/\q<l.size+r.size/\l.size<=j/\j<l.size+r.size/\r.Bl (q-l.size) (j-l.size))\/(q=l.size+r.size/\j<l.size+r.size)
end MT
end P
namespace P
open PySem L2
def sv(M:Mc)(m:List Nat)(a b:Nat):Nat:=((M.tb.getD (lK m M.nm) []).getD a []).getD b 0
namespace MT
def tR(M:Mc):MT->Nat
 |nil=>0
 |nd l r m=>sv M m (l.tR M) (r.tR M)
def rT(M:Mc):MT->List Nat
 |nil=>[]
 |nd l r m=>l.rT M++r.rT M++[sv M m (l.tR M) (r.tR M)]
theorem rT_len(M:Mc):∀t:MT,(t.rT M).length=t.size
 |nil=>rfl
 |nd l r m=>by unfold rT size;rw[ai,ai,rT_len M l,rT_len M r];rfl
theorem Eb(M:Mc)(u w:List Nat):∀t:MT,Az (u++t.rT M++w) (t.tp u.length)=t.tR M
 |nil=>rfl
 |nd l r m=>by
  show(u++(l.rT M++r.rT M++[_])++w).getD (u.length+l.size+r.size) 0=_
  rw[al,al,al,aI,aS #[0],aS (by rw[rT_len];omega),aS (by rw[rT_len,rT_len];omega),rT_len,rT_len,show u.length+l.size+r.size-u.length-l.size-r.size=0 by omega]
  rfl
theorem stp_tp(M:Mc)(u w:List Nat)(l r:MT)(m:List Nat):vZ M (u++(l.rT M++r.rT M)++w) m (l.tp u.length,r.tp (u.length+l.size))=sv M m (l.tR M) (r.tR M):=by
 unfold vZ sv
 have e1:=Eb M u (r.rT M++w) l
 have e2:=Eb M (u++l.rT M) w r
 rw[ai,rT_len]at e2
 simp only[al]at e1 e2 ⊢
 rw[e1,e2]
theorem AB(M:Mc):∀(a b:List Pl) (la lb:List #[8]) (r:List Nat),a.length=la.length->Gu M (a++b) (la++lb) r=Gu M b lb (Gu M a la r)
 |[],b,[],lb,r,_=>rfl
 |p::a,b,x::la,lb,r,h=>by
  show Gu M (a++b) (la++lb) _=_
  rw[AB M a b la lb _ (by simpa using h)];rfl
theorem Ec(M:Mc):∀(t:MT) (r:List Nat),Gu M t.po (t.lkT r.length) r=r++t.rT M
 |nil,r=>(a8 r).symm
 |nd l r m,u=>by
  show Gu M (l.po++r.po++[_]) (l.lkT u.length++r.lkT (u.length+l.size)++[(l.tp u.length,r.tp (u.length+l.size))]) u=_
  rw[AB M _ _ _ _ _ (by rw[ai,ai,po_len,po_len,lk_len,lk_len]),AB M _ _ _ _ _ (by rw[po_len,lk_len]),Ec M l u]
  have e:=Ec M r (u++l.rT M)
  rw[ai,rT_len]at e
  rw[e]
  show(u++l.rT M++r.rT M)++[vZ M (u++l.rT M++r.rT M) m _]=_
  have e2:=stp_tp M u [] l r m
  rw[a8,<- al]at e2
  rw[e2]
  show _=u++(l.rT M++r.rT M++[_])
  rw[al,al,al]
theorem rooms_po(M:Mc)(t:MT):gu M t.po (t.lkT 0)=t.rT M:=Ec M t []
theorem rT_top(M:Mc)(t:MT)(h:0<t.size):(t.rT M).getD (t.size-1) 0=t.tR M:=by
 have:=Eb M [] [] t
 cases t with
 |nil=>exact absurd h (by decide)
 |nd l r m=>
  rw[eJ,a8,tp_nd]at this
  rw[<- this];show _=List.getD _ _ 0
  congr 1
  show _=0+_-1
  omega
end MT
inductive Fm where
 |lf (r:MT) (m:List Nat)
 |rg (l:MT) (m:List Nat)
def Fm.ap:Fm->MT->MT
 |.lf r m,x=>.nd x r m
 |.rg l m,x=>.nd l x m
def plug:List Fm->MT->MT
 |[],x=>x
 |f::C,x=>plug C (f.ap x)
def pA:List Fm->List Pl
 |[]=>[]
 |.lf _ _::C=>pA C
 |.rg l _::C=>pA C++l.po
def pB:List Fm->List Pl
 |[]=>[]
 |.lf r m::C=>r.po++[⟨1+2*r.one,m⟩]++pB C
 |.rg l m::C=>[⟨l.one+2,m⟩]++pB C
def rA(M:Mc):List Fm->List Nat
 |[]=>[]
 |.lf _ _::C=>rA M C
 |.rg l _::C=>rA M C++l.rT M
def rB(M:Mc):List Fm->Nat->List Nat
 |[],_=>[]
 |.lf r m::C,a=>r.rT M++[sv M m a (r.tR M)]++rB M C (sv M m a (r.tR M))
 |.rg l m::C,a=>[sv M m (l.tR M) a]++rB M C (sv M m (l.tR M) a)
theorem df:∀(C:List Fm) (l r:MT) (m:List Nat),#[1].po=pA C++(MT.nd l r m).po++pB C
 |[],l,r,m=>by show _=[]++_++[];rw[eJ,a8];rfl
 |.lf y w::C,l,r,m=>by
  show(plug C (.nd (.nd l r m) y w)).po=_
  rw[df C]
  show pA C++((MT.nd l r m).po++y.po++[⟨1+2*y.one,w⟩])++pB C=pA C++_++(y.po++[⟨1+2*y.one,w⟩]++pB C)
  simp only[al]
 |.rg y w::C,l,r,m=>by
  show(plug C (.nd y (.nd l r m) w)).po=_
  rw[df C]
  show pA C++(y.po++(MT.nd l r m).po++[⟨y.one+2*1,w⟩])++pB C=(pA C++y.po)++_++([⟨y.one+2,w⟩]++pB C)
  simp only[al]
theorem qW(M:Mc):∀(C:List Fm) (x:MT),(plug C x).rT M=rA M C++x.rT M++rB M C (x.tR M)
 |[],x=>by show _=[]++_++[];rw[eJ,a8];rfl
 |.lf y w::C,x=>by
  show(plug C (.nd x y w)).rT M=_
  rw[qW M C]
  show rA M C++(x.rT M++y.rT M++[_])++rB M C _=rA M C++_++(y.rT M++[_]++rB M C _)
  simp only[al];rfl
 |.rg y w::C,x=>by
  show(plug C (.nd y x w)).rT M=_
  rw[qW M C]
  show rA M C++(y.rT M++x.rT M++[_])++rB M C _=(rA M C++y.rT M)++_++([_]++rB M C _)
  simp only[al];rfl
theorem oS(M:Mc):∀C:List Fm,(rA M C).length=(pA C).length
 |[]=>rfl
 |.lf _ _::C=>oS M C
 |.rg l _::C=>by show(rA M C++l.rT M).length=(pA C++l.po).length;rw[ai,ai,oS M C,MT.rT_len,MT.po_len]
theorem AC:∀(C:List Fm) (x:MT),∃u w,(plug C x).lkT 0=u++x.lkT (pA C).length++w/\u.length=(pA C).length
 |[],x=>⟨[],[],by rw[eJ,a8];rfl,rfl⟩
 |.lf y w::C,x=>by
  obtain⟨u,v,e,h⟩:=AC C (.nd x y w)
  refine⟨u,y.lkT ((pA C).length+x.size)++[(x.tp (pA C).length,y.tp ((pA C).length+x.size))]++v,?_,h⟩
  show(plug C (.nd x y w)).lkT 0=u++x.lkT (pA C).length++_
  rw[e]
  show u++(x.lkT (pA C).length++_++[_])++v=_
  simp only[al]
 |.rg y w::C,x=>by
  obtain⟨u,v,e,h⟩:=AC C (.nd y x w)
  have hl:(pA (.rg y w::C)).length=(pA C).length+y.size:=by show(pA C++y.po).length=_;rw[ai,MT.po_len]
  refine⟨u++y.lkT (pA C).length,[(y.tp (pA C).length,x.tp ((pA C).length+y.size))]++v,?_,by rw[ai,MT.lk_len,h,hl]⟩
  show(plug C (.nd y x w)).lkT 0=_
  rw[e,hl]
  show u++(y.lkT (pA C).length++x.lkT _++[_])++v=_
  simp only[al]
theorem v0:∀(C:List Fm) (x:MT),∃u w,(plug C x).szT=u++x.szT++w/\u.length=(pA C).length
 |[],x=>⟨[],[],by rw[eJ,a8];rfl,rfl⟩
 |.lf y w::C,x=>by
  obtain⟨u,v,e,h⟩:=v0 C (.nd x y w)
  refine⟨u,y.szT++[x.size+y.size+1]++v,?_,h⟩
  show(plug C (.nd x y w)).szT=_
  rw[e]
  show u++(x.szT++y.szT++[_])++v=_
  simp only[al]
 |.rg y w::C,x=>by
  obtain⟨u,v,e,h⟩:=v0 C (.nd y x w)
  refine⟨u++y.szT,[y.size+x.size+1]++v,?_,by rw[ai,MT.sz_len,h];show _=(pA C++y.po).length;rw[ai,MT.po_len]⟩
  show(plug C (.nd y x w)).szT=_
  rw[e]
  show u++(y.szT++x.szT++[_])++v=_
  simp only[al]
theorem u5(f:Fm):∀(C:List Fm) (x:MT),plug (C++[f]) x=f.ap (plug C x)
 |[],x=>rfl
 |g::C,x=>u5 f C (g.ap x)
theorem JK(r:MT)(m:List Nat):∀C:List Fm,pA (C++[.lf r m])=pA C
 |[]=>rfl
 |.lf _ _::C=>JK r m C
 |.rg l _::C=>by show pA (C++[.lf r m])++l.po=pA C++l.po;rw[JK r m C]
theorem JL(l:MT)(m:List Nat):∀C:List Fm,pA (C++[.rg l m])=l.po++pA C
 |[]=>by show[]++l.po=l.po++[];simp
 |.lf _ _::C=>JL l m C
 |.rg y _::C=>by show pA (C++[.rg l m])++y.po=l.po++(pA C++y.po);rw[JL l m C,al]
theorem v3:∀(t:MT) (q:Nat),q<t.size->∃C l r m,t=plug C (.nd l r m)/\q=(pA C).length+l.size+r.size
 |.nil,q,h=>absurd h (by simp[MT.size])
 |.nd l r m,q,h=>by
  rw[MT.size_nd]at h
  by_cases h1:q<l.size
  ·obtain⟨C,a,b,w,e1,e2⟩:=v3 l q h1
   exact⟨C++[.lf r m],a,b,w,by rw[u5,<- e1];rfl,by rw[JK];exact e2⟩
  ·by_cases h2:q<l.size+r.size
   ·obtain⟨C,a,b,w,e1,e2⟩:=v3 r (q-l.size) #[0]
    exact⟨C++[.rg l m],a,b,w,by rw[u5,<- e1];rfl,by rw[JL,ai,MT.po_len];omega⟩
   ·exact⟨[],l,r,m,rfl,by show q=0+_+_;omega⟩
end P
namespace P
open PySem L2
theorem JM{a b:List α}{c x:α}{u:Nat}(h:(a++b++[c])[u]?=some x):(u<a.length/\a[u]?=some x)\/(a.length<=u/\u<a.length+b.length/\b[u-a.length]?=some x)\/(u=a.length+b.length/\x=c):=by
 by_cases h1:u<a.length
 ·rw[al,aR h1]at h
  exact .inl ⟨h1,h⟩
 ·by_cases h2:u<a.length+b.length
  ·rw[al,aS #[0],aR #[0]]at h
   exact .inr (.inl ⟨by omega,h2,h⟩)
  ·have hu:=(ax.mp h).1
   rw[ai,ai,bt]at hu
   have e:u=a.length+b.length:=by omega
   subst e
   rw[aS (by rw[ai];omega),ai,Nat.sub_self]at h
   cases h
   exact .inr (.inr ⟨rfl,rfl⟩)
def Q6(x:Option Nat×Option Nat)(j:Nat):Prop:=x.1=some j\/x.2=some j
namespace MT
theorem tp_some{t:MT}{o:Nat}(h:t.tp o=some j):0<t.size/\j+1=o+t.size:=by
 cases t with
 |nil=>cases h
 |nd l r m=>
  have:some (o+l.size+r.size)=some j:=h
  rw[size_nd]
  have:=bf this
  omega
theorem kid_lt:∀(t:MT) {o u j:Nat} {x:Option Nat×Option Nat},(t.lkT o)[u]?=some x->Q6 x j->o<=j/\j<o+u
 |nil,o,u,j,x,h,_=>by cases h
 |nd l r m,o,u,j,x,h,k=>by
  rcases JM h with⟨h1,h2⟩|⟨h1,h2,h3⟩|⟨h1,h2⟩
  ·exact kid_lt l h2 k
  ·rw[lk_len]at h1 h2 h3
   have:=kid_lt r h3 k
   omega
  ·rw[lk_len,lk_len]at h1
   subst h2
   rcases k with k|k
   ·have:=tp_some k;omega
   ·have:=tp_some k;omega
theorem par_one:∀(t:MT) {o u v j:Nat} {x y:Option Nat×Option Nat},(t.lkT o)[u]?=some x->(t.lkT o)[v]?=some y->Q6 x j->Q6 y j->u=v
 |nil,o,u,v,j,x,y,h,_,_,_=>by cases h
 |nd l r m,o,u,v,j,x,y,h,h',k,k'=>by
  have hl:=lk_len l o
  have hr:=lk_len r (o+l.size)
  have rt:∀{z:Option Nat×Option Nat},z=(l.tp o,r.tp (o+l.size))->Q6 z j->(j+1=o+l.size/\0<l.size)\/(j+1=o+l.size+r.size/\0<r.size):=fun{z} e k=>by
   subst e
   rcases k with k|k
   ·have:=tp_some k;exact .inl ⟨by omega,by omega⟩
   ·have:=tp_some k;exact .inr ⟨by omega,by omega⟩
  rcases JM h with⟨h1,h2⟩|⟨h1,h2,h3⟩|⟨h1,h2⟩
  ·have b:=kid_lt l h2 k
   rcases JM h' with⟨g1,g2⟩|⟨g1,g2,g3⟩|⟨g1,g2⟩
   ·exact par_one l h2 g2 k k'
   ·have:=kid_lt r g3 k';omega
   ·have:=rt g2 k';omega
  ·have b:=kid_lt r h3 k
   rcases JM h' with⟨g1,g2⟩|⟨g1,g2,g3⟩|⟨g1,g2⟩
   ·have:=kid_lt l g2 k';omega
   ·have:=par_one r h3 g3 k k';omega
   ·have:=rt g2 k';omega
  ·have b:=rt h2 k
   rcases JM h' with⟨g1,g2⟩|⟨g1,g2,g3⟩|⟨g1,g2⟩
   ·have:=kid_lt l g2 k';omega
   ·have:=kid_lt r g3 k';omega
   ·omega
end MT
def GO(A B:List (Option Nat))(p:Nat):Option Nat:=match A.getD p none with
 |some u=>some u
 |none=>B.getD p none
theorem fZ:∀(C:List Fm) (x:MT),0<x.size->(pA C).length+x.size<=(plug C x).size
 |[],x,h=>by show 0+x.size<=x.size;omega
 |.lf y w::C,x,h=>by
  have:=fZ C (.nd x y w) (by rw[MT.size_nd];omega)
  rw[MT.size_nd]at this
  show(pA C).length+x.size<=(plug C (.nd x y w)).size
  omega
 |.rg y w::C,x,h=>by
  have:=fZ C (.nd y x w) (by rw[MT.size_nd];omega)
  rw[MT.size_nd]at this
  show(pA C++y.po).length+x.size<=(plug C (.nd y x w)).size
  rw[ai,MT.po_len]
  omega
theorem v5(C:List Fm)(l r:MT)(m:List Nat):(#[1].lkT 0)[(pA C).length+l.size+r.size]?=some (l.tp (pA C).length,r.tp ((pA C).length+l.size)):=by
 obtain⟨u,w,e,h⟩:=AC C (.nd l r m)
 rw[e,al,aS #[0],h]
 show((l.lkT (pA C).length++r.lkT ((pA C).length+l.size)++[_])++w)[_]?=_
 rw[aR (by simp[MT.lk_len];omega),aS (by rw[ai,MT.lk_len,MT.lk_len];omega),ai,MT.lk_len,MT.lk_len,show(pA C).length+l.size+r.size-(pA C).length-(l.size+r.size)=0 by omega]
 rfl
theorem Up.is{t:MT}{A:List (Option Nat)}(hf:∀x j,f x=some j->Q6 x j)(h:Up (t.lkT 0) f t.size A){p:Nat}{x:Option Nat×Option Nat}(hx:(t.lkT 0)[p]?=some x)(hk:f x=some j):A.getD j none=some p:=by
 have hp:p<t.size:=by have:=(ax.mp hx).1;rwa[MT.lk_len]at this
 obtain⟨v,hv⟩:=h.2 p x j hp hx hk
 obtain⟨y,hy,hy2⟩:=h.1 j v hv
 rw[aI,hv,Option.getD_some,MT.par_one t hy hx (hf _ _ hy2) (hf _ _ hk)]
theorem Up.no{t:MT}{A:List (Option Nat)}(h:Up (t.lkT 0) f t.size A)(hn:∀(p:Nat) (x:Option Nat×Option Nat),(t.lkT 0)[p]?=some x->f x≠some j):A.getD j none=none:=by
 rw[aI]
 cases e:A[j]? with
 |none=>rfl
 |some o=>
  cases o with
  |none=>rfl
  |some u=>
   obtain⟨y,hy,hy2⟩:=h.1 j u e
   exact absurd hy2 (hn u y hy)
theorem Qz{x:MT}{A:List (Option Nat)}(hA:Up (x.lkT 0) Prod.fst x.size A)(hB:Up (x.lkT 0) Prod.snd x.size B)(h0:0<x.size):GO A B (x.size-1)=none:=by
 have key:∀(p:Nat) (y:Option Nat×Option Nat),(x.lkT 0)[p]?=some y->¬ Q6 y (x.size-1):=fun p y hy hk=>by
  have:=MT.kid_lt x hy hk
  have hp:=(ax.mp hy).1
  rw[MT.lk_len]at hp
  omega
 unfold GO
 rw[hA.no fun p y hy e=>key p y hy (.inl e)]
 exact hB.no fun p y hy e=>key p y hy (.inr e)
theorem TH{C:List Fm}{x y:MT}{w:List Nat}{A B:List (Option Nat)}{t:MT}(ht:t=plug C (.nd x y w))(hA:Up (t.lkT 0) Prod.fst t.size A)(h0:0<x.size):GO A B ((pA C).length+x.size-1)=some ((pA C).length+x.size+y.size):=by
 subst ht
 have e:=v5 C x y w
 have hx:x.tp (pA C).length=some ((pA C).length+x.size-1):=by
  cases x with
  |nil=>exact absurd h0 (by decide)
  |nd a b c=>rw[MT.tp_nd]
 unfold GO
 rw[hA.is (fun _ _ h=>.inl h) e hx]
theorem TJ{C:List Fm}{x y:MT}{w:List Nat}{A:List (Option Nat)}{t:MT}(ht:t=plug C (.nd y x w))(hA:Up (t.lkT 0) Prod.fst t.size A)(hB:Up (t.lkT 0) Prod.snd t.size B)(h0:0<x.size):GO A B ((pA C).length+y.size+x.size-1)=some ((pA C).length+y.size+x.size):=by
 subst ht
 have e:=v5 C y x w
 have hx:x.tp ((pA C).length+y.size)=some ((pA C).length+y.size+x.size-1):=by
  cases x with
  |nil=>exact absurd h0 (by decide)
  |nd a b c=>rw[MT.tp_nd]
 unfold GO
 rw[hA.no (fun p z hz k=>by
  obtain rfl:=MT.par_one _ hz e (.inl k) (.inr hx)
  rw[e]at hz
  cases hz
  have:=MT.tp_some k
  omega)]
 exact hB.is (fun _ _ h=>.inr h) e hx
end P
namespace P
open PySem L2
section
variable{M:Mc}
theorem xz(hM:m9 M n)(m:List Nat){a b:Nat}(ha:a<n)(hb:b<n):sv M m a b<n:=by
 have h1:lK m M.nm<M.tb.length:=by rw[hM.tb];exact Fd m M.nm
 have e1:=lc [] h1
 obtain⟨t1,t2⟩:=hM.t _ (cy e1)
 have e2:=lc (l:=M.tb.getD (lK m M.nm) []) [] (i:=a) #[0]
 obtain⟨t3,t4⟩:=t2 _ (cy e2)
 have e3:=lc (l:=(M.tb.getD (lK m M.nm) []).getD a []) 0 (i:=b) #[0]
 exact t4 _ (cy e3)
theorem MT.tR_lt(hM:m9 M n)(hn:1<=n):∀t:MT,t.tR M<n
 |.nil=>hn
 |.nd l r m=>xz hM m (tR_lt hM hn l) (tR_lt hM hn r)
theorem MT.rT_lt(hM:m9 M n)(hn:1<=n):∀t:MT,∀k∈t.rT M,k<n
 |.nil,k,h=>by cases h
 |.nd l r m,k,h=>by
  rcases aV.mp h with h|h
  ·rcases aV.mp h with h|h
   ·exact rT_lt hM hn l k h
   ·exact rT_lt hM hn r k h
  ·rw[aZ.mp h];exact xz hM m (tR_lt hM hn l) (tR_lt hM hn r)
def Fm.rm(M:Mc):Fm->Nat->Nat
 |.lf r m,a=>sv M m a (r.tR M)
 |.rg l m,a=>sv M m (l.tR M) a
theorem JN(hM:m9 M n)(hn:1<=n):∀C:List Fm,∀k∈rA M C,k<n
 |[],k,h=>by cases h
 |.lf _ _::C,k,h=>JN hM hn C k h
 |.rg l _::C,k,h=>by
  rcases aV.mp h with h|h
  ·exact JN hM hn C k h
  ·exact l.rT_lt hM hn k h
theorem JO(hM:m9 M n)(hn:1<=n):∀(C:List Fm) {a:Nat},a<n->∀k∈rB M C a,k<n
 |[],a,_,k,h=>by cases h
 |.lf r m::C,a,ha,k,h=>by
  have hv:=xz hM m ha (r.tR_lt hM hn)
  rcases aV.mp h with h|h
  ·rcases aV.mp h with h|h
   ·exact r.rT_lt hM hn k h
   ·rw[aZ.mp h];exact hv
  ·exact JO hM hn C hv k h
 |.rg l m::C,a,ha,k,h=>by
  have hv:=xz hM m (l.tR_lt hM hn) ha
  rcases aV.mp h with h|h
  ·rw[aZ.mp h];exact hv
  ·exact JO hM hn C hv k h
def fr(M:Mc)(C:List Fm)(l r:MT)(o:Nat):List Nat:=rA M C++(l.rT M++r.rT M++[o])++rB M C o
theorem TK(hM:m9 M n)(hn:1<=n)(C:List Fm)(l r:MT){o:Nat}(ho:o<n):∀k∈fr M C l r o,k<n:=fun k h=>by
 rcases aV.mp h with h|h
 ·rcases aV.mp h with h|h
  ·exact JN hM hn C k h
  ·rcases aV.mp h with h|h
   ·rcases aV.mp h with h|h
    ·exact l.rT_lt hM hn k h
    ·exact r.rT_lt hM hn k h
   ·rw[aZ.mp h];exact ho
 ·exact JO hM hn C ho k h
theorem AD(a b c d:List α)(o:α){p:Nat}(hp:p=a.length+b.length+c.length):(a++(b++c++[o])++d)[p]?=some o:=by
 subst hp
 rw[show a++(b++c++[o])++d=(a++b++c)++o::d by simp,aS (by simp[nK])]
 simp[nK]
theorem L3(a b c d:List α)(o v:α){p:Nat}(hp:p=a.length+b.length+c.length):(a++(b++c++[o])++d).set p v=a++(b++c++[v])++d:=by
 subst hp
 rw[show a++(b++c++[o])++d=(a++b++c)++o::d by simp,pY _ _ (by simp[nK]),show a.length+b.length+c.length-(a++b++c).length=0 by simp;omega]
 simp
theorem NC(M:Mc)(C:List Fm)(l r:MT):(pA C).length+l.size+r.size=(rA M C).length+(l.rT M).length+(r.rT M).length:=by rw[oS,MT.rT_len,MT.rT_len]
def L5(M:Mc):List Fm->Nat->Nat->Nat
 |[],_,_=>1
 |f::C,v,o=>if v=o then 1 else 1+L5 M C (f.rm M v) (f.rm M o)
theorem Ed{A:List (Option Nat)}{ua ub p:Nat}(ha:st[ua]?=some (.lst (A.map oW)))(hb:st[ub]?=some (.lst (B.map oW)))(hp:p<A.length)(KI:p<B.length):Gp [.tup [.loc ua,.loc ub],.int p] st=.ok (oW (GO A B p)) st:=by
 have ea:bu (.loc ua) (.int p) st=.ok (oW (A.getD p none)) st:=jN (bX ha) (fW (by rw[aG,lc none hp];rfl))
 have eb:bu (.loc ub) (.int p) st=.ok (oW (B.getD p none)) st:=jN (bX hb) (fW (by rw[aG,lc none KI];rfl))
 unfold GO
 cases e:A.getD p none with
 |some u=>
  rw[e]at ea
  apply fg
  apply bP
  ·exact tq (aY (fA (bv kx kv ea) rfl)) (bv kx kv ea)
  ·exact⟨_,_,rfl,rfl,rfl⟩
 |none=>
  rw[e]at ea
  apply fg
  apply bP
  ·exact tt (aY (fA (bv kx kv ea) rfl)) (bv kx kv eb)
  ·exact⟨_,_,rfl,rfl,rfl⟩
theorem QB{g g':FS}{ρ':cV}(h:g ρ st=.bk ρ' st1):aM g g' ρ st=.bk ρ' st1:=by unfold aM;rw[h]
abbrev cT:FT:=eO (iB (ag 8))
abbrev cB:FS:=(aM (bd 9 (b7 4 tN (ah (ag 0) (ah (e2 bu (e2 bu (ag 1) (ag 8)) (eI 1)) (ah (e2 bu (ag 4) (ag 8)) (ah (ag 6) aD)))))) (aM (bd 7 (e2 cN (ag 7) (eI 1))) (aM (gz (eO (e2 ku (ag 9) (e2 bu (ag 6) (ag 8)))) DB bW) (aM (Bw (ag 6) (ag 8) (ag 9) rC) (bd 8 (b7 2 Gp (ah (ag 5) (ah (ag 8) aD))))))))
abbrev cR(M:Mc)(t:MT)(x2:W)(q ua ub pf c:Nat)(o8 o9:Option W):cV:=[some M.w,some (b_ t.po),some x2,iO (q:Nat),some (.tup ((t.lkT 0).map jE)),some (.tup [.loc ua,.loc ub]),lO pf,iO (c:Nat),o8,o9]
theorem Cv{g:FS}{ρ':cV}(h:t ρ st=.ok true st)(e:g ρ st=.bk ρ' bg):eK t g (k+1) ρ st=.nx ρ' bg:=by unfold eK;rw[h];simp only[R.stmt_ok,gF,e]
theorem xA{g:FS}{ρ':cV}{rs:RS}(h:t ρ st=.ok true st)(e:g ρ st=.nx ρ' bg)(e2:eK t g k ρ' bg=rs):eK t g (k+1) ρ st=rs:=by unfold eK;rw[h];simp only[R.stmt_ok,gF,e];exact e2
theorem Gy{g:FS}(h:t ρ st=.ok false st):eK t g (k+1) ρ st=.nx ρ st:=by unfold eK;rw[h];rfl
theorem oT(C:List Fm)(l r:MT)(m:List Nat):#[1].po[(pA C).length+l.size+r.size]?=some ⟨l.one+2*r.one,m⟩:=by
 rw[df]
 exact AD (pA C) l.po r.po (pB C) _ (by rw[MT.po_len,MT.po_len])
section
variable{t:MT}{A:List (Option Nat)}{ua ub pf:Nat}
theorem L6(M:Mc)(C:List Fm)(l r:MT)(m:List Nat)(o:Nat):vZ M (fr M C l r o) m (l.tp (pA C).length,r.tp ((pA C).length+l.size))=sv M m (l.tR M) (r.tR M):=by
 have:=MT.stp_tp M (rA M C) ([o]++rB M C o) l r m
 rw[oS]at this
 rw[<- this]
 unfold fr
 simp only[al]
theorem xB(hM:m9 M n)(hn:1<=n)(x2:W)(q:Nat)(lA:A.length=t.size)(lB:B.length=t.size)(na:pf≠ua)(nb:pf≠ub){C:List Fm}{l r:MT}{o:Nat}(c:Nat)(o9:Option W)(ht:t=plug C (.nd l r m))(ho:o<n)(ha:st[ua]?=some (.lst (A.map oW)))(hb:st[ub]?=some (.lst (B.map oW)))(hf:st[pf]?=some (.lst (nW (fr M C l r o)))) :
  (sv M m (l.tR M) (r.tR M)=o->cB (cR M t x2 q ua ub pf c (iO ((pA C).length+l.size+r.size:Nat)) o9) st=.bk (cR M t x2 q ua ub pf (c+1) (iO ((pA C).length+l.size+r.size:Nat)) (iO (o:Nat))) st) /\
  (sv M m (l.tR M) (r.tR M)≠o->cB (cR M t x2 q ua ub pf c (iO ((pA C).length+l.size+r.size:Nat)) o9) st=.nx (cR M t x2 q ua ub pf (c+1) (some (oW (GO A B ((pA C).length+l.size+r.size)))) (iO (sv M m (l.tR M) (r.tR M):Nat))) (st.set pf (.lst (nW (rA M C++(l.rT M++r.rT M++[sv M m (l.tR M) (r.tR M)])++rB M C o))))):=by
 have hx:=v5 C l r m
 have hp:=oT C l r m
 have hg:=MT.gr0 #[1]
 have hz:=fZ C (.nd l r m) (by rw[MT.size_nd];omega)
 rw[<- ht]at hx hp hg hz
 rw[MT.size_nd]at hz
 have hs:=L6 M C l r m o
 have hat:(fr M C l r o)[(pA C).length+l.size+r.size]?=some o:=AD _ _ _ _ _ (NC M C l r)
 have QT:(fr M C l r o).set ((pA C).length+l.size+r.size) (sv M m (l.tR M) (r.tR M))=rA M C++(l.rT M++r.rT M++[sv M m (l.tR M) (r.tR M)])++rB M C o:=L3 _ _ _ _ _ _ (NC M C l r)
 have hfl:=(ax.mp hat).1
 have hlk:=hg.lk hx
 have hr:=NA (m:=m) hM hn (TK hM hn C l r ho) (x:=(l.tp (pA C).length,r.tp ((pA C).length+l.size))) ⟨fun k e=>ug (hlk.1 k e) hfl,fun k e=>ug (hlk.2 k e) hfl⟩ st hf
 rw[hs]at hr
 generalize hv:sv M m (l.tR M) (r.tR M)=v at *
 generalize hP:(pA C).length+l.size+r.size=p at *
 have e9:bd 9 (b7 4 tN (ah (ag 0) (ah (e2 bu (e2 bu (ag 1) (ag 8)) (eI 1)) (ah (e2 bu (ag 4) (ag 8)) (ah (ag 6) aD))))) (cR M t x2 q ua ub pf c (iO (p:Nat)) o9) st=.nx (cR M t x2 q ua ub pf c (iO (p:Nat)) (iO (v:Nat))) st:=
  bb (bU (am kv (am (bv (bv kv kv (tW hp st)) bI (D4 _ st)) (am (bv kv kv (nT (fW (by rw[aG,hx];rfl)))) kn))) hr rfl)
 have e7:bd 7 (e2 cN (ag 7) (eI 1)) (cR M t x2 q ua ub pf c (iO (p:Nat)) (iO (v:Nat))) st=.nx (cR M t x2 q ua ub pf (c+1) (iO (p:Nat)) (iO (v:Nat))) st:=bb (bv kv bI dM)
 have eq:∀b,decide (v=o)=b->eO (e2 ku (ag 9) (e2 bu (ag 6) (ag 8))) (cR M t x2 q ua ub pf (c+1) (iO (p:Nat)) (iO (v:Nat))) st=.ok b st:=fun b hb=>aY (bv kv (bv kv kv (Nz hf hat)) (gj (by rw[<- hb,pQ,du,mR];omega)))
 refine⟨fun h=>?_,fun h=>?_⟩
 ·refine cZ e9 (cZ e7 (QB ?_))
  rw[dg (eq true (bF h)) rfl,h];rfl
 ·refine cZ e9 (cZ e7 (cZ (cz (eq false (a7 h)) rfl) (cZ (E7 kv kv kv (D6 hf (by show _<(List.map _ _).length;rw[aE];exact hfl))) ?_)))
  rw[show(nW (fr M C l r o)).set p (W.int (v:Nat))=nW ((fr M C l r o).set p v) by unfold nW;rw[ui],QT]
  exact bb (bU (am kv kn) (Ed (by rw[cP na];exact ha) (by rw[cP nb];exact hb) #[0] #[0]) rfl)
theorem Ee(hM:m9 M n)(hn:1<=n)(x2:W)(q:Nat)(hA:Up (t.lkT 0) Prod.fst t.size A)(hB:Up (t.lkT 0) Prod.snd t.size B)(lA:A.length=t.size)(lB:B.length=t.size)(na:pf≠ua)(nb:pf≠ub) :
  ∀(C:List Fm) (l r:MT) (m:List Nat) (o c:Nat) (o9:Option W) (st:List au),t=plug C (.nd l r m)->o<n->st[ua]?=some (.lst (A.map oW))->st[ub]?=some (.lst (B.map oW))->st[pf]?=some (.lst (nW (fr M C l r o))) ->
   ∃o8 QP bg,eK cT cB (C.length+2) (cR M t x2 q ua ub pf c (iO ((pA C).length+l.size+r.size:Nat)) o9) st=.nx (cR M t x2 q ua ub pf (c+L5 M C (sv M m (l.tR M) (r.tR M)) o) o8 QP) bg/\bg[pf]?=some (.lst (nW (t.rT M)))/\∀i,i≠pf->bg[i]?=st[i]?:=by
 intro C
 induction C with
 |nil=>
  intro l r m o c o9 st ht ho ha hb hf
  obtain⟨s1,s2⟩:=xB hM hn x2 q lA lB na nb c o9 ht ho ha hb hf
  by_cases h:sv M m (l.tR M) (r.tR M)=o
  ·refine⟨_,_,st,Cv (aY (fA kv rfl)) (s1 h),?_,fun _ _=>rfl⟩
   rw[hf,ht]
   unfold fr
   rw[show(plug [] (.nd l r m)).rT M=rA M []++(l.rT M++r.rT M++[sv M m (l.tR M) (r.tR M)])++rB M [] (sv M m (l.tR M) (r.tR M))from qW M [] _,h]
  ·have e:=s2 h
   have hu:GO A B ((pA []).length+l.size+r.size)=none:=by
    have:=Qz hA hB (by rw[ht];show 0<l.size+r.size+1;omega)
    rw[show t.size=l.size+r.size+1 by rw[ht];rfl]at this
    rw[<- this];congr 1;show 0+_+_=_;omega
   rw[hu]at e
   refine⟨_,_,_,xA (aY (fA kv rfl)) e (Gy (aY (fA kv rfl))),?_,fun i hi=>cP (Ne.symm hi)⟩
   rw[fv hf,ht]
   show some (au.lst (nW ([]++_++[])))=_
   rw[eJ,a8];rfl
 |cons f C ih=>
  intro l r m o c o9 st ht ho ha hb hf
  obtain⟨s1,s2⟩:=xB hM hn x2 q lA lB na nb c o9 ht ho ha hb hf
  by_cases h:sv M m (l.tR M) (r.tR M)=o
  ·rw[show L5 M (f::C) (sv M m (l.tR M) (r.tR M)) o=1 from aK h]
   refine⟨_,_,st,Cv (aY (fA kv rfl)) (s1 h),?_,fun _ _=>rfl⟩
   rw[hf,ht]
   unfold fr
   rw[qW M (f::C),show(MT.nd l r m).tR M=o from h,show(MT.nd l r m).rT M=l.rT M++r.rT M++[sv M m (l.tR M) (r.tR M)]from rfl,h]
  ·have e:=s2 h
   rw[show L5 M (f::C) (sv M m (l.tR M) (r.tR M)) o=1+L5 M C (f.rm M (sv M m (l.tR M) (r.tR M))) (f.rm M o)from aU h,<- nK]
   cases f with
   |lf y w=>
    have hu:GO A B ((pA (.lf y w::C)).length+l.size+r.size)=some ((pA C).length+(MT.nd l r m).size+y.size):=by
     have:=TH (B:=B) (t:=t) (C:=C) (x:=.nd l r m) (y:=y) (w:=w) ht hA (by rw[MT.size_nd];omega)
     rw[<- this];congr 1;rw[MT.size_nd];show(pA C).length+_+_=_;omega
    rw[hu]at e
    obtain⟨o8,QP,bg,e2,e3,e4⟩:=ih (.nd l r m) y w (sv M w o (y.tR M)) (c+1) (iO (sv M m (l.tR M) (r.tR M):Nat)) (st.set pf (.lst (nW (rA M (.lf y w::C)++(l.rT M++r.rT M++[sv M m (l.tR M) (r.tR M)])++rB M (.lf y w::C) o)))) ht (xz hM w ho (y.tR_lt hM hn)) (by rw[cP na];exact ha) (by rw[cP nb];exact hb) (by
     rw[fv hf]
     unfold fr
     show some (au.lst (nW (rA M C++_++(y.rT M++[_]++rB M C _))))=some (au.lst (nW (rA M C++((l.rT M++r.rT M++[_])++y.rT M++[_])++rB M C _)))
     simp only[al])
    exact⟨o8,QP,bg,xA (aY (fA kv rfl)) e e2,e3,fun i hi=>by rw[e4 i hi];exact cP (Ne.symm hi)⟩
   |rg y w=>
    have hu:GO A B ((pA (.rg y w::C)).length+l.size+r.size)=some ((pA C).length+y.size+(MT.nd l r m).size):=by
     have:=TJ (t:=t) (C:=C) (x:=.nd l r m) (y:=y) (w:=w) ht hA hB (by rw[MT.size_nd];omega)
     rw[<- this];congr 1;rw[MT.size_nd];show(pA C++y.po).length+_+_=_;rw[ai,MT.po_len];omega
    rw[hu]at e
    obtain⟨o8,QP,bg,e2,e3,e4⟩:=ih y (.nd l r m) w (sv M w (y.tR M) o) (c+1) (iO (sv M m (l.tR M) (r.tR M):Nat)) (st.set pf (.lst (nW (rA M (.rg y w::C)++(l.rT M++r.rT M++[sv M m (l.tR M) (r.tR M)])++rB M (.rg y w::C) o)))) ht (xz hM w (y.tR_lt hM hn) ho) (by rw[cP na];exact ha) (by rw[cP nb];exact hb) (by
     rw[fv hf]
     unfold fr
     show some (au.lst (nW ((rA M C++y.rT M)++_++([_]++rB M C _))))=some (au.lst (nW (rA M C++(y.rT M++(l.rT M++r.rT M++[_])++[_])++rB M C _)))
     simp only[al])
    exact⟨o8,QP,bg,xA (aY (fA kv rfl)) e e2,e3,fun i hi=>by rw[e4 i hi];exact cP (Ne.symm hi)⟩
end
theorem Ef(hM:m9 M n)(hn:1<=n){C:List Fm}{l r t:MT}{o:Nat}(ht:t=plug C (.nd l r m))(ho:o<n)(hs:t.size<=900)(st:List au) :
  B8 [M.w,b_ t.po,gA (fr M C l r o),.int ((pA C).length+l.size+r.size:Nat)] st=.ok (.tup [gA (t.rT M),.int (L5 M C (sv M m (l.tR M) (r.tR M)) o:Nat)]) st:=by
 have hg:=t.gr0
 have hl:=t.po_len
 obtain⟨A,B,x,lA,lB,uA,uB,cA,cB',e5⟩:=Qw hg #[0] st
 rw[hl]at lA lB uA uB
 have e6:yO [gA (fr M C l r o)] (st++x)=.ok (.loc (st++x).length) (st++x++[.lst (nW (fr M C l r o))]):=Qq
 have nA:(st++x).length≠st.length:=fun e=>by have:=d_ cA;omega
 have nB:(st++x).length≠st.length+1:=fun e=>by have:=d_ cB';omega
 obtain⟨o8,o9,bg,e8,e9,e10⟩:=Ee hM hn (gA (fr M C l r o)) ((pA C).length+l.size+r.size) uA uB lA lB nA nB C l r m o 0 none (st++x++[.lst (nW (fr M C l r o))]) ht ho (dI cA) (dI cB') dF
 rw[mf]at e8
 refine fq ?_ (by simp[undWs,vY,W.und])
 apply az
 ·exact bb (bU kn (tV hg #[0] st) rfl)
 apply az
 ·exact bb (bU kn e5 rfl)
 apply az
 ·exact bb (cq kn e6)
 apply az
 ·exact bb bI
 apply az
 ·exact bb kv
 apply az
 ·exact yQ e8 #[15]
 apply bP
 ·exact eQ (am (cq kn (oH (bX e9))) kn) (ao rfl)
 ·refine⟨_,_,rfl,rfl,?_⟩
  have:st <+: bg:=List.prefix_iff_getElem?.mpr fun i hi=>by
   rw[e10 i (by rw[ai];omega),al,aR hi,aj hi]
  exact this.imp fun x e=>e.symm
end
theorem MT.one_of:∀{t:MT},0<t.size->t.one=1
 |.nil,h=>absurd h (by decide)
 |.nd _ _ _,_=>rfl
theorem MT.one_bit:∀t:MT,qV t.po=t.one
 |.nil=>rfl
 |.nd l r m=>by unfold qV;rw[aK (by rw[MT.po_len,MT.size_nd];omega)];rfl
theorem MT.one_le:∀t:MT,t.one<=1/\(0<t.size↔t.one=1)
 |.nil=>⟨by decide,by decide⟩
 |.nd l r m=>⟨aA 1,by rw[MT.size_nd];exact⟨fun _=>rfl,fun _=>by omega⟩⟩
theorem Gr.mts{ps:List Pl}{sz:List Nat}{lk:List #[8]}(h:Gr ps S sz lk):∃F:List MT,(∀t∈F,0<t.size)/\S=F.map MT.size/\ps=(F.reverse.map MT.po).flatten:=by
 induction h with
 |nil=>exact⟨[],by simp,rfl,rfl⟩
 |@snoc ps S S' sz lk b k m x h hs ih=>
  obtain⟨F,h1,rfl,rfl⟩:=ih
  have add:∀(t:MT) (G:List MT),0<t.size->(∀x∈G,0<x.size)->∀x∈t::G,0<x.size:=fun t G h g x hx=>by
   rcases aX.mp hx with rfl|hx
   ·exact h
   ·exact g x hx
  generalize hS:F.map MT.size=S0 at hs
  cases hs with
  |z=>
   refine⟨.nd .nil .nil m::F,add _ _ (Nat.succ_pos _) h1,by rw[<- hS];rfl,?_⟩
   rw[cD,bG,dE];rfl
  |l=>
   match F,hS with
   |t::F,hS=>
    rw[bq]at hS
    cases hS
    have ht:=h1 t cr
    refine⟨.nd t .nil m::F,add _ _ (by rw[MT.size_nd];omega) fun x hx=>h1 x (aW _ hx),?_,?_⟩
    ·rw[bq,MT.size_nd];congr 1;show _=_+0+1;omega
    ·rw[cD,bG,dE,cD,bG,dE,al]
     congr 1
     show(t.po++[])++_=(t.po++[]++[⟨t.one+2*0,m⟩])++[]
     rw[MT.one_of ht];simp
  |r=>
   match F,hS with
   |t::F,hS=>
    rw[bq]at hS
    cases hS
    have ht:=h1 t cr
    refine⟨.nd .nil t m::F,add _ _ (by rw[MT.size_nd];omega) fun x hx=>h1 x (aW _ hx),?_,?_⟩
    ·rw[bq,MT.size_nd];congr 1;show _=0+_+1;omega
    ·rw[cD,bG,dE,cD,bG,dE,al]
     congr 1
     show(t.po++[])++_=([]++t.po++[⟨0+2*t.one,m⟩])++[]
     rw[MT.one_of ht];simp
  |b=>
   match F,hS with
   |c::t::F,hS=>
    rw[bq,bq]at hS
    cases hS
    have hc:=h1 c cr
    have ht:=h1 t (aW _ cr)
    refine⟨.nd t c m::F,add _ _ (by rw[MT.size_nd];omega) fun x hx=>h1 x (aW _ (aW _ hx)),?_,?_⟩
    ·rw[bq,MT.size_nd];congr 1;omega
    ·rw[cD,bG,dE,cD,cD,bG,dE,bG,dE,al,al]
     congr 1
     show(t.po++[])++((c.po++[])++_)=(t.po++c.po++[⟨t.one+2*c.one,m⟩])++[]
     rw[MT.one_of ht,MT.one_of hc];simp
   |[_],hS=>simp at hS
theorem Gr.mt{ps:List Pl}{sz:List Nat}{lk:List #[8]}(h:Gr ps S sz lk)(h1:S.length<=1):∃t:MT,ps=t.po:=by
 obtain⟨F,_,rfl,rfl⟩:=h.mts
 match F,h1 with
 |[],_=>exact⟨.nil,rfl⟩
 |[t],_=>exact⟨t,by simp⟩
 |_::_::_,h=>simp at h
section
variable{M:Mc}
def pq(C:List Fm)(l r:MT):Nat:=(pA C).length+l.size+r.size
theorem Cw(C:List Fm)(l r:MT)(m:List Nat):JF #[1].po #[1].szT (pq C l r) ⟨l.one+2*r.one,m⟩ l.size r.size:=by
 obtain⟨u,w,e,hu⟩:=v0 C (.nd l r m)
 have hl:=l.one_le
 have hr:=r.one_le
 refine⟨oT C l r m,?_,by unfold pq;omega,by show l.one+2*r.one<=3;omega,by show _↔(l.one+2*r.one)%2=1;omega,by show _↔2<=l.one+2*r.one;omega,fun h=>?_⟩
 ·rw[e,show 1+l.size+r.size=l.size+r.size+1 by omega]
  exact AD u l.szT r.szT w _ (by rw[hu,MT.sz_len,MT.sz_len];rfl)
 ·have h2:2<=l.one+2*r.one:=h
  cases r with
  |nil=>exact absurd h2 (by show ¬ 2<=l.one+2*0;omega)
  |nd a b c=>
   rw[MT.size_nd]
   refine⟨by unfold pq;rw[MT.size_nd];omega,?_⟩
   rw[e,show(MT.nd l (.nd a b c) m).szT=l.szT++(a.szT++b.szT++[a.size+b.size+1])++[l.size+(MT.nd a b c).size+1]from rfl,<- al,<- al,al]
   exact AD (u++l.szT) a.szT b.szT _ _ (by rw[ai,hu,MT.sz_len,MT.sz_len,MT.sz_len];unfold pq;rw[MT.size_nd];omega)
theorem v7{a b c d:List α}{p q:Nat}(hp:p=a.length)(hk:k=b.length):((a++(b++c)++d).drop p).take k=b:=by
 subst hp;subst hk
 rw[al,List.drop_left,al,gY]
theorem Cy(C:List Fm)(l r:MT)(m:List Nat):D_ #[1].po (pq C l r) l.size r.size=l.po:=by
 unfold D_ pq
 rw[df,show(MT.nd l r m).po=l.po++(r.po++[⟨l.one+2*r.one,m⟩])from al _ _ _]
 exact v7 (q:=0) #[0] (MT.po_len l).symm
theorem Cz(C:List Fm)(l r:MT)(m:List Nat):D' #[1].po (pq C l r) r.size=r.po:=by
 unfold D' pq
 rw[df,show pA C++(MT.nd l r m).po++pB C=(pA C++l.po)++(r.po++[⟨l.one+2*r.one,m⟩])++pB C by show pA C++(l.po++r.po++_)++_=_;simp only[al]]
 exact v7 (q:=0) (by rw[ai,MT.po_len];omega) (MT.po_len r).symm
theorem CA(C:List Fm)(l r x:MT)(m:List Nat)(sd:Bool):Q5 #[1].po (pq C l r) l.size r.size m sd x.po=(plug C (.nd (if sd then x else l) (if sd then r else x) m)).po:=by
 unfold Q5
 rw[Cy,Cz]
 have e1:#[1].po.take (pq C l r-l.size-r.size)=pA C:=by
  rw[df,al,show pq C l r-l.size-r.size=(pA C).length by unfold pq;omega,gY]
 have e2:#[1].po.drop (pq C l r+1)=pB C:=by
  rw[df]
  exact il (by rw[ai,MT.po_len,MT.size_nd];unfold pq;omega)
 rw[e1,e2,df]
 cases sd
 ·show pA C++(l.po++x.po++[⟨qV l.po+2*qV x.po,m⟩])++pB C=_
  rw[MT.one_bit,MT.one_bit];rfl
 ·show pA C++(x.po++r.po++[⟨qV x.po+2*qV r.po,m⟩])++pB C=_
  rw[MT.one_bit,MT.one_bit];rfl
theorem CB{a:List Nat}(h:q<=a.length)(st:List au):wE (gA a) none (some (q:Int)) st=.ok (gA (a.take q)) st:=by
 show R.ok (W.tup (j4 _ _ _)) st=_
 rw[m8 (by simpa using h),<- nI];rfl
theorem CC{a:List Nat}(h:q<=a.length)(st:List au):wE (gA a) (some (q:Int)) none st=.ok (gA (a.drop q)) st:=by
 show R.ok (W.tup (j4 _ _ _)) st=_
 rw[tF (by simpa using h),<- nJ];rfl
theorem t5(a b:List Nat)(h:(a++b).length<=100000)(st:List au):cN (gA a) (gA b) st=.ok (gA (a++b)) st:=by
 unfold gA
 rw[bG]
 exact Ij (by rw[<- bG,aE];show _<=1000000;omega)
theorem t6(hM:m9 M n)(hn:1<=n)(t:MT)(h:t.size<=900)(st:List au):pK [M.w,b_ t.po] st=.ok (gA (t.rT M)) st:=by
 have:=Jz t.gr0 (by rw[MT.po_len];omega) hM hn st
 rwa[MT.rooms_po]at this
theorem JP(C:List Fm)(l r:MT)(m:List Nat)(h:#[1].size<=900)(st:List au):rJ [b_ #[1].po,.int (pq C l r:Nat)] st=.ok (.tup [b_ l.po,b_ r.po]) st:=by
 have:=JH #[1].gr0 (by rw[MT.po_len];exact h) (Cw C l r m) st
 rwa[show(List.drop (pq C l r-l.size-r.size) #[1].po).take l.size=l.po from Cy C l r m,show(List.drop (pq C l r-r.size) #[1].po).take r.size=r.po from Cz C l r m]at this
theorem AE(r:List Nat)(st:List au):dG [gA r] st=.ok (.int r.length) st:=by
 have:dG [gA r] st=.ok (.int (r.map fun k=>W.int (k:Nat)).length) st:=DO
 rwa[aE]at this
theorem Fh(M:Mc)(C:List Fm)(l r:MT)(o:Nat):fr M C l r o=rA M C++(l.rT M++(r.rT M++([o]++rB M C o))):=by unfold fr;simp only[al]
theorem JQ(M:Mc)(C:List Fm)(l r:MT)(o:Nat):(fr M C l r o).take (pA C).length=rA M C:=by rw[Fh];exact lV (oS M C)
theorem JR(M:Mc)(C:List Fm)(l r:MT)(o:Nat):(fr M C l r o).drop ((pA C).length+l.size)=r.rT M++([o]++rB M C o):=by
 rw[Fh,<- al];exact il (by rw[ai,oS,MT.rT_len])
theorem JS(M:Mc)(C:List Fm)(l r:MT)(o:Nat):(fr M C l r o).take ((pA C).length+l.size)=rA M C++l.rT M:=by
 rw[Fh,<- al];exact lV (by rw[ai,oS,MT.rT_len])
theorem JT(M:Mc)(C:List Fm)(l r:MT)(o:Nat):(fr M C l r o).drop (pq C l r)=[o]++rB M C o:=by
 rw[Fh,<- al,<- al];exact il (by rw[ai,ai,oS,MT.rT_len,MT.rT_len];rfl)
theorem JU(M:Mc):∀(D:List Fm) (a b:Nat),(rB M D a).length=(rB M D b).length
 |[],a,b=>rfl
 |.lf y w::D,a,b=>by
  show(y.rT M++[_]++rB M D _).length=(y.rT M++[_]++rB M D _).length
  rw[ai,ai,ai,ai,JU M D _ (sv M w b (y.tR M))];rfl
 |.rg y w::D,a,b=>by
  show([_]++rB M D _).length=([_]++rB M D _).length
  rw[ai,ai,JU M D _ (sv M w (y.tR M) b)];rfl
theorem QC(M:Mc)(C:List Fm)(l r:MT)(o:Nat)(m:List Nat):(fr M C l r o).length=#[1].size:=by
 rw[<- MT.rT_len M,qW M C (.nd l r m)]
 unfold fr
 simp only[ai,MT.rT_len,JU M C o ((MT.nd l r m).tR M),MT.size_nd,bt]
def dW(C C':List Fm)(l r:MT)(m:List Nat)(l' r':MT)(m':List Nat)(s:W):W:=.tup [b_ #[1].po,.int (pq C l r:Nat),b_ (plug C' (.nd l' r' m')).po,.int (pq C' l' r':Nat),s]
theorem Gz(hM:m9 M n)(hn:1<=n)(C:List Fm)(l r l' r':MT)(m m':List Nat)(sd:Bool)(h1:#[1].size<=900)(h2:(plug C (.nd l' r' m')).size<=900)(hl:sd=false->l'=l)(hr:sd=true->r'=r)(o:Nat)(st:List au) :
  y8 [M.w,gA (fr M C l r o),dW C C l r m l' r' m' (vx sd)] st=.ok (.tup [gA (fr M C l' r' o),.int ((if sd then l'.size else r'.size:Nat))]) st:=by
 have z1:=fZ C (.nd l r m) (by rw[MT.size_nd];omega)
 have z2:=fZ C (.nd l' r' m') (by rw[MT.size_nd];omega)
 rw[MT.size_nd]at z1 z2
 have b1:=JP C l r m h1 st
 have b2:=JP C l' r' m' h2 st
 have n1:=gQ l.po st
 have n2:=gQ r.po st
 rw[MT.po_len]at n1 n2
 have hA:=oS M C
 have hfl:=QC M C l r o m
 have i3:∀ρ:cV,ρ[2]?=some (some (dW C C l r m l' r' m' (vx sd)))->e2 bu (ag 2) (eI 4) ρ st=.ok (vx sd) st:=fun ρ h=>bv (kz h) bI ox
 have eS:ku (vx sd) (.str [108,101,102,116]) st=.ok (.bl sd) st:=by cases sd<;>exact dY rfl
 have a5:(pq C l r:Int)-(l.size:Nat)-(r.size:Nat)=((pA C).length:Nat):=by unfold pq;omega
 have d3:bd 3 (b7 2 rJ (ah (e2 bu (ag 2) (eI 0)) (ah (e2 bu (ag 2) (eI 1)) aD))) [some M.w,some (gA (fr M C l r o)),some (dW C C l r m l' r' m' (vx sd)),none,none,none,none,none] st=.nx [some M.w,some (gA (fr M C l r o)),some (dW C C l r m l' r' m' (vx sd)),some (.tup [b_ l.po,b_ r.po]),none,none,none,none] st:=
  bb (bU (am kx (am kx aQ)) b1 rfl)
 refine fq ?_ (by simp[undWs,vY,W.und])
 apply az
 ·exact d3
 apply az
 ·exact bb (bU (am kx (am kx aQ)) b2 rfl)
 apply az
 ·refine bb (st1:=st) (w:=.int ((pA C).length:Nat)) ?_
  rw[<- a5]
  exact bv (bv kx (cq (am kx aQ) n1) rfl) (cq (am kx aQ) n2) rfl
 apply az
 ·refine bb (st1:=st) (w:=.int ((pA C).length+l.size:Nat)) ?_
  rw[gc]
  exact bv kv (cq (am kx aQ) n1) dM
 cases sd with
 |true=>
  obtain rfl:=hr rfl
  have rm:=t6 hM hn l' #[0] st
  have nl:=AE (l'.rT M) st
  rw[MT.rT_len]at nl
  apply eR
  ·exact aY (bv (i3 _ rfl) bI eS)
  apply uL
  apply az
  ·exact bb (bU (am kv (am kx aQ)) rm rfl)
  apply eG
  ·refine eQ (am (bv (bv (ny kv tu (nv kv) (CB #[0] st)) kv (t5 _ _ ?_ st)) (ny kv (nv kv) tu (CC #[0] st)) (t5 _ _ ?_ st)) (am (cq kn nl) aQ)) (ao rfl)
   ·simp only[ai,aF,MT.rT_len];omega
   ·simp only[ai,aF,cf,MT.rT_len];omega
  ·refine⟨_,_,rfl,?_,[],by simp⟩
   rw[JQ,JR]
   unfold fr
   simp only[al];rfl
 |false=>
  obtain rfl:=hl rfl
  have rm:=t6 hM hn r' #[0] st
  have nl:=AE (r'.rT M) st
  rw[MT.rT_len]at nl
  apply bC
  ·exact aY (bv (i3 _ rfl) bI eS)
  apply bV
  apply az
  ·exact bb (bU (am kv (am kx aQ)) rm rfl)
  apply bP
  ·refine eQ (am (bv (bv (ny kv tu (nv kv) (CB #[0] st)) kv (t5 _ _ ?_ st)) (ny kv (nv kx) tu (CC (by unfold pq;omega) st)) (t5 _ _ ?_ st)) (am (cq kn nl) aQ)) (ao rfl)
   ·simp only[ai,aF,MT.rT_len];omega
   ·simp only[ai,aF,cf,MT.rT_len];omega
  ·refine⟨_,_,rfl,?_,[],by simp⟩
   rw[JS,JT]
   unfold fr
   simp only[al];rfl
end
inductive Dd where
 |mk (C:List Fm) (l r:MT) (m:List Nat) (l' r':MT) (m':List Nat) (sd:Option Bool)
 |wh (t t':MT)
namespace Dd
def a:Dd->MT
 |mk C l r m _ _ _ _=>plug C (.nd l r m)
 |wh t _=>t
def b:Dd->MT
 |mk C _ _ _ l' r' m' _=>plug C (.nd l' r' m')
 |wh _ t'=>t'
def sW:Option Bool->W
 |none=>.non
 |some s=>vx s
def w:Dd->W
 |mk C l r m l' r' m' sd=>dW C C l r m l' r' m' (sW sd)
 |wh t t'=>.tup [b_ t.po,.non,b_ t'.po,.non,.non]
def tn:Dd->Dd
 |mk C l r m l' r' m' sd=>mk C l' r' m' l r m sd
 |wh t t'=>wh t' t
def ok:Dd->Prop
 |mk C l r m l' r' m' sd=>(plug C (.nd l r m)).size<=100/\(plug C (.nd l' r' m')).size<=100/\(sd≠some true->l'=l)/\(sd≠some false->r'=r)
 |wh t t'=>t.size<=100/\t'.size<=100
def bc:Option Bool->MT->MT->Nat
 |none,_,_=>0
 |some sd,l,r=>if sd then l.size else r.size
def ct(M:Mc):Dd->Nat
 |mk C l r m l' r' m' sd=>bc sd l' r'+L5 M C (sv M m' (l'.tR M) (r'.tR M)) (sv M m (l.tR M) (r.tR M))
 |wh _ t'=>t'.size
theorem tn_a(d:Dd):d.tn.a=d.b:=by cases d<;>rfl
theorem tn_b(d:Dd):d.tn.b=d.a:=by cases d<;>rfl
theorem tn_ok{d:Dd}(h:d.ok):d.tn.ok:=by
 cases d with
 |mk C l r m l' r' m' sd=>exact⟨h.2.1,h.1,fun e=>(h.2.2.1 e).symm,fun e=>(h.2.2.2 e).symm⟩
 |wh t t'=>exact⟨h.2,h.1⟩
theorem Vw{d:Dd}(h:d.ok):d.a.size<=100:=by
 cases d with
 |mk C l r m l' r' m' sd=>exact h.1
 |wh t t'=>exact h.1
theorem ok_b{d:Dd}(h:d.ok):d.b.size<=100:=by rw[<- tn_a];exact Vw (tn_ok h)
end Dd
section
variable{c f m:Str}{fs:FA}{z1 z2 z3:List au}{fl WD:List (Str×W)}{y w:W}{P:RS->Prop}{gK:FS}
theorem qA(h1:fe ρ z=.ok y z1)(h2:fo ρ z1=.ok (.loc n) z2)(h3:z2[n]?=some (.obj c fl))(hl:fl.length<900):qg c f fo fe ρ z=.nx ρ (z2.set n (.obj c (x9 f y fl))):=by
 unfold qg
 rw[h1];simp only[R.stmt_ok];rw[h2];simp only[R.stmt_ok,nQ,h3]
 rw[aK ⟨trivial,hl⟩]
theorem dN(h:fa ρ z=.ok (.loc n) z1)(h3:z1[n]?=some (.obj c fl))(hk:fl.lookup f=some w):jg c f fa ρ z=.ok w z1:=by
 unfold jg
 rw[h];simp only[R.bind_ok,nQ,h3,gF,hk,eY]
theorem hZ(h:fo ρ z=.ok (.loc n) z1)(h3:z1[n]?=some (.obj c fl))(hm:fl.lookup m=none)(ha:fs ρ z1=.ok ws z2)(hn:ws.length+1=k)(hF:F (.loc n::ws) z2=.ok w z3):ie c m k F fo fs ρ z=.ok w z3:=by
 unfold ie
 rw[h];simp only[R.bind_ok,nQ,h3]
 rw[aK ⟨trivial,hm⟩,ha];simp only[R.bind_ok]
 rw[aK hn,hF]
theorem JV(ha:fs ρ z=.ok ws z1)(hn:ws.length+1=k)(hF:F (.loc z1.length::ws) (z1++[.obj c []])=.ok .non z2):BE c k F fs ρ z=.ok (.loc z1.length) z2:=by
 unfold BE
 rw[ha];simp only[R.bind_ok]
 rw[aK hn,hF]
theorem mj(h:bg.length=st.length):iL st bg ws=bg:=by
 unfold iL
 split
 ·rw[bj #[0]]
 ·rfl
theorem xC(ws:List W)(hL:L<st.length)(h:bg[L]?=some (.obj c fl))(hu:undWs st.length (fl.map fun p=>p.2)=false)(hz:st[L]?≠some (.obj c fl)):iL st bg ws=bg:=by
 unfold iL
 rw[aU]
 rintro⟨_,_,k⟩
 rcases k L hL with e|⟨c,e,hc⟩
 ·rw[h]at e;exact hz e.symm
 ·rw[h]at e
  cases e
  have hc:undWs st.length (fl.map fun p=>p.2)=true:=hc
  rw[hu]at hc;cases hc
theorem k7{N:Nat}{body:FS}(h:body #[12] st=.nx ρ bg):c8 N body ws st=.ok .non (iL st bg []):=by
 unfold c8;rw[h]
end
section
variable{M:Mc}{a b:Nat}
def kF(M:Mc)(t:MT)(k:Nat)(a b:Nat):List (Str×W):=[("machine",M.w),("tree",b_ t.po),("rooms",gA (t.rT M)),("many",.int (k:Nat)),("standing",.loc a),("taken_back",.loc b)]
theorem xD(hM:m9 M n)(hn:1<=n){d:Dd}(hd:d.ok)(hz:z[L]?=some (.obj "Kept" (kF M d.a k a b))):dA [.loc L,d.w] z=.ok .non (z.set L (.obj "Kept" (kF M d.b (d.ct M) a b))):=by
 suffices hh:∃ρ,kN ([.loc L,d.w].map some++List.replicate (4-2) none) z=.nx ρ (z.set L (.obj "Kept" (kF M d.b (d.ct M) a b))) by
  obtain⟨ρ,e⟩:=hh
  show c8 4 kN _ _=_
  rw[k7 e,mj #[15]]
 cases d with
 |wh t t'=>
  have hd2:t'.size<=100:=hd.2
  refine⟨[lO L,some (Dd.wh t t').w,none,none],?_⟩
  have e1:qg "Kept" "rooms" (ag 0) (b7 2 pK (ah (jg "Kept" "machine" (ag 0)) (ah (e2 bu (ag 1) (eI 2)) aD))) [lO L,some (Dd.wh t t').w,none,none] z=.nx [lO L,some (Dd.wh t t').w,none,none] (z.set L (.obj "Kept" [("machine",M.w),("tree",b_ t.po),("rooms",gA (t'.rT M)),("many",.int (k:Nat)),("standing",.loc a),("taken_back",.loc b)])):=
   qA (bU (am (dN kv hz rfl) (am kx aQ)) (t6 hM hn t' #[0] z) rfl) kv hz (ao rfl)
  have l1:=gQ t'.po (z.set L (.obj "Kept" [("machine",M.w),("tree",b_ t.po),("rooms",gA (t'.rT M)),("many",.int (k:Nat)),("standing",.loc a),("taken_back",.loc b)]))
  rw[MT.po_len]at l1
  refine cZ (dg (aY (BG kx rfl)) (cZ e1 (qA (cq (am kx aQ) l1) kv (fv hz) (ao rfl)))) ?_
  rw[pD]
  rw[qA (f:="tree") kx kv (fv hz) (ao rfl),pD]
  rfl
 |mk C l r m l' r' m' sd=>
  obtain⟨h1,h2,h3,h4⟩:=hd
  have z0:z[L]?=some (.obj "Kept" (kF M #[1] k a b)):=hz
  have hrm:#[1].rT M=fr M C l r (sv M m (l.tR M) (r.tR M)):=by rw[qW];rfl
  have ho:=xz hM m (l.tR_lt hM hn) (r.tR_lt hM hn)
  generalize hov:sv M m (l.tR M) (r.tR M)=o at *
  obtain⟨k1,hk1,e2⟩:∃k1,k1=Dd.bc sd l' r'/\gz (eO (iB (e2 bu (ag 1) (eI 4)))) (bd 2 (b7 3 y8 (ah (jg "Kept" "machine" (ag 0)) (ah (jg "Kept" "rooms" (ag 0)) (ah (ag 1) aD))))) bW [lO L,some (Dd.mk C l r m l' r' m' sd).w,some (.tup [gA (fr M C l r o),.int 0]),none] z=.nx [lO L,some (Dd.mk C l r m l' r' m' sd).w,some (.tup [gA (fr M C l' r' o),.int (k1:Nat)]),none] z:=by
   cases sd with
   |none=>
    obtain rfl:=h3 #[3]
    obtain rfl:=h4 #[3]
    exact⟨_,rfl,cz (aY (fA kx rfl)) c9⟩
   |some s=>
    have bo:=Gz hM hn C l r l' r' m m' s #[0] #[0] (fun e=>h3 (by rw[e];decide)) (fun e=>h4 (by rw[e];decide)) o z
    refine⟨_,rfl,dg (aY (fA kx (by cases s<;>rfl))) (bb (bU (am (dN kv z0 rfl) (am (dN kv z0 ?_) kn)) bo rfl))⟩
    show some (gA (#[1].rT M))=_
    rw[hrm]
  have cl:=Ef hM hn (C:=C) (l:=l') (r:=r') (m:=m') (o:=o) rfl ho #[0] z
  refine⟨[lO L,some (Dd.mk C l r m l' r' m' sd).w,some (.tup [gA (fr M C l' r' o),.int (k1:Nat)]),some (.tup [gA ((plug C (.nd l' r' m')).rT M),.int (L5 M C (sv M m' (l'.tR M) (r'.tR M)) o:Nat)])],?_⟩
  refine cZ (cz (aY (BG kx rfl)) (cZ (bb (w:=.tup [gA (fr M C l r o),.int 0]) (eQ (am (dN (w:=gA (fr M C l r o)) kv z0 ?_) (am bI aQ)) (ao rfl))) (cZ e2 (cZ (bb (bU (am (dN kv z0 rfl) (am kx (am kx (am kx aQ)))) cl rfl)) (cZ (qA kx kv z0 (ao rfl)) (qA (bv kx kx dM) kv (fv z0) (ao rfl))))))) ?_
  ·show some (gA (#[1].rT M))=_
   rw[hrm]
  ·rw[pD]
   rw[qA (f:="tree") kx kv (fv z0) (ao rfl),pD]
   have hct:(Dd.mk C l r m l' r' m' sd).ct M=k1+L5 M C (sv M m' (l'.tR M) (r'.tR M)) o:=by rw[hk1,<- hov];rfl
   rw[hct]
   rfl
end
end P
namespace P
open PySem L2
structure j'(M:Mc)(L a b:Nat)(t:MT)(k:Nat)(sd tk:List Dd)(z:List au):Prop where
 ob:z[L]?=some (.obj "Kept" (kF M t k a b))
 s:z[a]?=some (.lst (sd.reverse.map Dd.w))
 u:z[b]?=some (.lst (tk.reverse.map Dd.w))
 la:L≠a
 lb:L≠b
 ab:a≠b
 ls:sd.length<=1000
 lu:tk.length<=1000
def K3(L a b:Nat)(z z':List au):Prop:=z.length<=z'.length/\∀i,i<z.length->i≠L->i≠a->i≠b->z'[i]?=z[i]?
section
variable{M:Mc}{a b:Nat}{t:MT}{sd tk:List Dd}{d:Dd}
theorem JW(hM:m9 M n)(hn:1<=n)(hd:d.ok)(hz:j' M L a b d.a k sd tk z)(hs:sd.length<1000):∃z',d9 [.loc L,d.w] z=.ok .non z'/\j' M L a z.length d.b (d.ct M) (d::sd) [] z'/\K3 L a b z z':=by
 have c1:=xD hM hn hd hz.ob
 have lL:=d_ hz.ob
 have lA:=d_ hz.s
 have lB:=d_ hz.u
 have g1:(z.set L (.obj "Kept" (kF M d.b (d.ct M) a b)))[a]?=some (.lst (sd.reverse.map Dd.w)):=by rw[cP hz.la];exact hz.s
 have g2:((z.set L (.obj "Kept" (kF M d.b (d.ct M) a b))).set a (.lst (sd.reverse.map Dd.w++[d.w])))[L]?=some (.obj "Kept" (kF M d.b (d.ct M) a b)):=by rw[cP (Ne.symm hz.la)];exact fv hz.ob
 have hl:((z.set L (.obj "Kept" (kF M d.b (d.ct M) a b))).set a (.lst (sd.reverse.map Dd.w++[d.w]))).length=z.length:=by simp
 have e:qs ([.loc L,d.w].map some++List.replicate (2-2) none) z=.nx [lO L,some d.w] ((((z.set L (.obj "Kept" (kF M d.b (d.ct M) a b))).set a (.lst (sd.reverse.map Dd.w++[d.w])))++[au.lst []]).set L (.obj "Kept" (kF M d.b (d.ct M) a z.length))):=by
  refine cZ (dU (hZ kv hz.ob rfl kn rfl c1)) (cZ (dU (jU (dN kv (fv hz.ob) rfl) (d8 g1) kn (qx g1 (by simp;omega)))) ?_)
  rw[qA (f:="taken_back") (qh aQ (ao rfl)) kv (dI g2) (ao rfl),hl]
  rfl
 have e2:=k7 (N:=2) e
 generalize hz':(((z.set L (.obj "Kept" (kF M d.b (d.ct M) a b))).set a (.lst (sd.reverse.map Dd.w++[d.w])))++[au.lst []]).set L (.obj "Kept" (kF M d.b (d.ct M) a z.length))=z' at *
 have oL:z'[L]?=some (.obj "Kept" (kF M d.b (d.ct M) a z.length)):=by rw[<- hz'];exact fv (dI g2)
 have oA:z'[a]?=some (.lst ((d::sd).reverse.map Dd.w)):=by
  rw[<- hz',cP hz.la]
  refine dI ?_
  rw[fv g1,cD,bG];rfl
 have oB:z'[z.length]?=some (.lst (([]:List Dd).reverse.map Dd.w)):=by
  rw[<- hz',cP #[0],<- hl]
  exact dF
 rw[xC [] lL oL (by simp[kF,undWs,W.und]) (by rw[hz.ob];intro e;injection e with e;injection e with _ e;simp[kF]at e;omega)]at e2
 refine⟨z',e2,⟨oL,oA,oB,hz.la,by omega,by omega,by rw[bZ];omega,by simp⟩,by rw[<- hz'];simp,fun i hi h1 h2 h3=>?_⟩
 rw[<- hz',cP (Ne.symm h1),aR (by simpa using hi),cP (Ne.symm h2),cP (Ne.symm h1)]
theorem jn{z':List au}{t':MT}{k':Nat}{WA QK:List Dd}(ws:List W)(hz:j' M L a b t k sd tk z)(h:j' M L a z.length t' k' WA QK z'):iL z z' ws=z':=
 xC ws (d_ hz.ob) h.ob (by simp[kF,undWs,W.und]) (by
  have:=d_ hz.u
  rw[hz.ob];intro e;injection e with e;injection e with _ e;simp[kF]at e;omega)
theorem AF(C:List Fm)(l r:MT)(m m':List Nat)(h:#[1].size<=900)(st:List au):B6 [b_ #[1].po,.int (pq C l r:Nat),.str m'] st=.ok (b_ (plug C (.nd l r m')).po) st:=by
 have z1:=fZ C (.nd l r m) (by rw[MT.size_nd];omega)
 rw[MT.size_nd]at z1
 have hl:=MT.po_len #[1]
 have hq:pq C l r+1<=#[1].po.length:=by unfold pq;omega
 have e1:#[1].po.take (pq C l r)=pA C++(l.po++r.po):=by
  rw[df,show pA C++(MT.nd l r m).po++pB C=(pA C++(l.po++r.po))++(⟨l.one+2*r.one,m⟩::pB C) by show pA C++(l.po++r.po++[_])++pB C=_;simp only[al];rfl]
  exact lV (by rw[ai,ai,MT.po_len,MT.po_len];unfold pq;omega)
 have e2:#[1].po.drop (pq C l r+1)=pB C:=by
  rw[df]
  exact il (by rw[ai,MT.po_len,MT.size_nd];unfold pq;omega)
 have e3:(plug C (.nd l r m')).po=(pA C++(l.po++r.po))++[⟨l.one+2*r.one,m'⟩]++pB C:=by
  rw[df];show pA C++(l.po++r.po++[_])++pB C=_;simp only[al]
 have hs:(plug C (.nd l r m')).po.length=#[1].po.length:=by rw[df,df];simp only[ai,MT.po_len,MT.size_nd]
 rw[e3]at hs
 have s1:=xu (a:=#[1].po) (q:=pq C l r) #[0] st
 have s2:=xw (a:=#[1].po) (q:=pq C l r+1) #[0] st
 rw[e1]at s1
 rw[e2]at s2
 rw[ai]at hs
 refine fq ?_ (by simp only[undWs,my,dL])
 apply bP
 ·exact bv (bv (ny kv tu (nv kv) s1) (eQ (am (eQ (am (bv (bv kv kv (tW (oT C l r m) st)) bI (Qo _ st)) kn) (ao rfl)) aQ) (ao rfl)) (j_ _ [⟨l.one+2*r.one,m'⟩] #[0] st)) (ny kv (nv (bv kv bI dM)) tu s2) (j_ _ _ (by rw[ai];omega) st)
 ·exact⟨_,_,rfl,by rw[e3],[],by simp⟩
theorem Fi(hM:m9 M n)(hn:1<=n){C:List Fm}{l r:MT}{m':List Nat}(hd:(Dd.mk C l r m l r m' none).ok)(hz:j' M L a b #[1] k sd tk z)(hs:sd.length<1000):∃z',eT [.loc L,.int (pq C l r:Nat),.str m'] z=.ok .non z'/\j' M L a z.length (plug C (.nd l r m')) ((Dd.mk C l r m l r m' none).ct M) (Dd.mk C l r m l r m' none::sd) [] z'/\K3 L a b z z':=by
 obtain⟨z',e,h,h3⟩:=JW hM hn (d:=Dd.mk C l r m l r m' none) hd hz hs
 refine⟨z',?_,h,h3⟩
 rw[<- jn [] hz h]
 refine k7 (N:=3) (ρ:=[lO L,iO (pq C l r:Nat),some (.str m')]) (dU (hZ kv hz.ob rfl (am (eQ (am (dN kv hz.ob rfl) (am kv (am (bU (am (dN kv hz.ob rfl) (am kv kn)) (AF C l r m m' (by have:=hd.1;omega) z) rfl) (am kv (am bI aQ))))) (ao rfl)) aQ) rfl e))
def q9(m:List Nat):Prop:=m.Pairwise (· < ·)/\∀c∈m,c∈LL
theorem Eg(hM:m9 M n)(hn:1<=n){C:List Fm}{l r:MT}{c:Nat}(h1:#[1].size<=100)(h2:(plug C (.nd l r (g9 (m++[c])))).size<=100)(hm:∀d∈m,d∈LL)(Wa:m.length<=60)(hc:c∈LL)(hz:j' M L a b #[1] k sd tk z)(hs:sd.length<1000) :
  ∃z',kO [.loc L,.int (pq C l r:Nat),.str [c]] z=.ok .non z'/\j' M L a z.length (plug C (.nd l r (g9 (m++[c])))) ((Dd.mk C l r m l r (g9 (m++[c])) none).ct M) (Dd.mk C l r m l r (g9 (m++[c])) none::sd) [] z'/\K3 L a b z z':=by
 obtain⟨z',e,h,h3⟩:=Fi hM hn (C:=C) (l:=l) (r:=r) (m:=m) (m':=g9 (m++[c])) ⟨h1,h2,fun _=>rfl,fun _=>rfl⟩ hz hs
 refine⟨z',?_,h,h3⟩
 have z1:=fZ C (.nd l r m) (by rw[MT.size_nd];omega)
 rw[MT.size_nd]at z1
 have hl:=MT.po_len #[1]
 have hml2:m.length<=nO:=by show _<=1000000;omega
 have hcp:=xy (ps:=#[1].po) (q:=pq C l r) (by unfold pq;omega) z
 have io:=JC (l:=m++[c]) (by rw[ai,bt];omega) (fun d hd=>by
  rcases aV.mp hd with hd|hd
  ·exact hm d hd
  ·rw[aZ.mp hd];exact hc) z
 rw[<- jn [] hz h]
 refine k7 (N:=3) (ρ:=[lO L,iO (pq C l r:Nat),some (.str [c])]) (cZ (dU (bU (am (dN kv hz.ob rfl) kn) hcp rfl)) (dU (hZ kv hz.ob rfl (am kv (am (bU (am (bv (bv (bv (dN kv hz.ob rfl) kv (tW (oT C l r m) z)) bI (D4 _ z)) kv (DN (by show _<=1000000;simp;omega))) aQ) io rfl) aQ)) rfl e)))
theorem CD(hM:m9 M n)(hn:1<=n){C:List Fm}{l r:MT}{c:Nat}(h1:#[1].size<=100)(h2:(plug C (.nd l r (m.filter fun d=>d != c))).size<=100)(Wa:m.length<=60)(hz:j' M L a b #[1] k sd tk z)(hs:sd.length<1000) :
  ∃z',jO [.loc L,.int (pq C l r:Nat),.str [c]] z=.ok .non z'/\j' M L a z.length (plug C (.nd l r (m.filter fun d=>d != c))) ((Dd.mk C l r m l r (m.filter fun d=>d != c) none).ct M) (Dd.mk C l r m l r (m.filter fun d=>d != c) none::sd) [] z'/\K3 L a b z z':=by
 obtain⟨z',e,h,h3⟩:=Fi hM hn (C:=C) (l:=l) (r:=r) (m:=m) (m':=m.filter fun d=>d != c) ⟨h1,h2,fun _=>rfl,fun _=>rfl⟩ hz hs
 refine⟨z',?_,h,h3⟩
 have z1:=fZ C (.nd l r m) (by rw[MT.size_nd];omega)
 rw[MT.size_nd]at z1
 have hl:=MT.po_len #[1]
 have hml2:m.length<=nO:=by show _<=1000000;omega
 have hcp:=xy (ps:=#[1].po) (q:=pq C l r) (by unfold pq;omega) z
 rw[<- jn [] hz h]
 refine k7 (N:=3) (ρ:=[lO L,iO (pq C l r:Nat),some (.str [c])]) (cZ (dU (bU (am (dN kv hz.ob rfl) kn) hcp rfl)) (dU (hZ kv hz.ob rfl (am kv (am (Pk (bv (bv (dN kv hz.ob rfl) kv (tW (oT C l r m) z)) bI (D4 _ z)) kv hml2) aQ)) rfl e)))
theorem GA(hM:m9 M n)(hn:1<=n){C:List Fm}{l r x:MT}{s:Bool}(h1:#[1].size<=100)(hx:x.size<=100)(h2:(plug C #[14]).size<=100)(hz:j' M L a b #[1] k sd tk z)(hs:sd.length<1000) :
  ∃z',ip [.loc L,.int (pq C l r:Nat),vx s,b_ x.po] z=.ok .non z'/\j' M L a z.length (plug C #[14]) ((Dd.mk C l r m (if s then x else l) (if s then r else x) m (some s)).ct M) (Dd.mk C l r m (if s then x else l) (if s then r else x) m (some s)::sd) [] z'/\K3 L a b z z':=by
 obtain⟨z',e,h,h3⟩:=JW hM hn (d:=Dd.mk C l r m (if s then x else l) (if s then r else x) m (some s)) ⟨h1,h2,fun e=>by cases s<;>first|rfl|exact absurd rfl e,fun e=>by cases s<;>first|rfl|exact absurd rfl e⟩ hz hs
 refine⟨z',?_,h,h3⟩
 have z1:=fZ C (.nd l r m) (by rw[MT.size_nd];omega)
 have z2:=fZ C #[14] (by rw[MT.size_nd];omega)
 rw[MT.size_nd]at z1 z2
 have hl:=MT.po_len #[1]
 have hl2:=MT.po_len (plug C #[14])
 have hxl:=MT.po_len x
 have pb:=Qy (oth:=x.po) #[1].gr0 #[0] #[0] (Cw C l r m) s z (by rw[CA];omega)
 rw[CA]at pb
 have n1:=gQ (plug C #[14]).po z
 have n2:=gQ #[1].po z
 have hq:(pq C l r:Int)+((plug C #[14]).po.length:Nat)-(#[1].po.length:Nat)=(pq C (if s then x else l) (if s then r else x):Nat):=by
  rw[df,df]
  simp only[ai,MT.po_len,MT.size_nd]
  unfold pq
  omega
 rw[<- jn [] hz h]
 refine k7 (N:=5) (ρ:=[lO L,iO (pq C l r:Nat),some (vx s),some (b_ x.po),some (b_ (plug C #[14]).po)]) (cZ (bb (bU (am (dN kv hz.ob rfl) (am kv (am kv kn))) pb rfl)) (dU (hZ (ws:=[(Dd.mk C l r m (if s then x else l) (if s then r else x) m (some s)).w]) kv hz.ob rfl (am ?_ aQ) rfl e)))
 show _=R.ok (W.tup [b_ #[1].po,.int (pq C l r:Nat),b_ (plug C #[14]).po,.int (pq C (if s then x else l) (if s then r else x):Nat),vx s]) z
 rw[<- hq]
 exact eQ (am (dN kv hz.ob rfl) (am kv (am kv (am (bv (bv kv (cq kn n1) dM) (cq (am (dN kv hz.ob rfl) aQ) n2) rfl) kn)))) (ao rfl)
theorem xE(hM:m9 M n)(hn:1<=n){x:MT}(h1:t.size<=100)(hx:x.size<=100)(hz:j' M L a b t k sd tk z)(hs:sd.length<1000) :
  ∃z',gk [.loc L,b_ x.po] z=.ok .non z'/\j' M L a z.length x x.size (Dd.wh t x::sd) [] z'/\K3 L a b z z':=by
 obtain⟨z',e,h,h3⟩:=JW hM hn (d:=Dd.wh t x) ⟨h1,hx⟩ hz hs
 refine⟨z',?_,h,h3⟩
 rw[<- jn [] hz h]
 exact k7 (N:=2) (ρ:=[lO L,some (b_ x.po)]) (dU (hZ kv hz.ob rfl (am (eQ (am (dN kv hz.ob rfl) (am bI (am kv (am bI (am bI aQ))))) (ao rfl)) aQ) rfl e))
end
section
variable{M:Mc}{a b:Nat}{t:MT}{sd tk:List Dd}{d:Dd}
theorem GB(d:Dd)(st:List au):B5 [d.w] st=.ok d.tn.w st:=by
 cases d with
 |mk C l r m l' r' m' s=>
  apply fg
  apply bP
  ·exact eQ (am kx (am kx (am kx (am kx (am kx aQ))))) (ao rfl)
  ·exact⟨_,_,rfl,rfl,rfl⟩
 |wh t t'=>
  apply fg
  apply bP
  ·exact eQ (am kx (am kx (am kx (am kx (am kx aQ))))) (ao rfl)
  ·exact⟨_,_,rfl,rfl,rfl⟩
theorem Fj(hM:m9 M n)(hn:1<=n)(hd:d.ok)(hz:j' M L a b d.b k (d::sd) tk z)(hs:tk.length<1000):∃z',gl [.loc L] z=.ok .non z'/\j' M L a b d.a (d.tn.ct M) sd (d::tk) z'/\K3 L a b z z'/\z'.length=z.length:=by
 have hsr:z[a]?=some (.lst (sd.reverse.map Dd.w++[d.w])):=by rw[hz.s,cD,bG];rfl
 have oL:(z.set a (.lst (sd.reverse.map Dd.w)))[L]?=some (.obj "Kept" (kF M d.tn.a k a b)):=by rw[cP (Ne.symm hz.la),Dd.tn_a];exact hz.ob
 have c1:=xD hM hn (Dd.tn_ok hd) oL
 rw[Dd.tn_b]at c1
 have oB:((z.set a (.lst (sd.reverse.map Dd.w))).set L (.obj "Kept" (kF M d.a (d.tn.ct M) a b)))[b]?=some (.lst (tk.reverse.map Dd.w)):=by rw[cP hz.lb,cP hz.ab];exact hz.u
 have e:qt ([.loc L].map some++List.replicate (2-1) none) z=.nx [lO L,some d.w] (((z.set a (.lst (sd.reverse.map Dd.w))).set L (.obj "Kept" (kF M d.a (d.tn.ct M) a b))).set b (.lst (tk.reverse.map Dd.w++[d.w]))):=
  cZ (cz (aY (bv (cq (am (dN kv hz.ob rfl) aQ) (oG (bX hsr))) bI (gj (by simp;omega)))) c9)
   (cZ (bb (jU (dN kv hz.ob rfl) (d8 hsr) aQ (BI hsr))) (cZ (dU (hZ kv oL rfl (am (bU kn (GB d _) rfl) aQ) rfl c1))
    (dU (jU (dN kv (fv oL) rfl) (d8 oB) kn (qx oB (by simp;omega))))))
 have e2:=k7 (N:=2) e
 rw[mj #[15]]at e2
 refine⟨_,e2,⟨?_,?_,?_,hz.la,hz.lb,hz.ab,by have:=hz.ls;rw[bZ]at this;omega,by rw[bZ];omega⟩,⟨by simp,fun i hi h1 h2 h3=>?_⟩,by simp⟩
 ·rw[cP (Ne.symm hz.lb)];exact fv oL
 ·rw[cP (Ne.symm hz.ab),cP hz.la];exact fv hsr
 ·rw[fv oB,cD,bG];rfl
 ·rw[cP (Ne.symm h3),cP (Ne.symm h1),cP (Ne.symm h2)]
theorem JX(hM:m9 M n)(hn:1<=n)(hd:d.ok)(hz:j' M L a b d.a k sd (d::tk) z)(hs:sd.length<1000):∃z',hX [.loc L] z=.ok .non z'/\j' M L a b d.b (d.ct M) (d::sd) tk z'/\K3 L a b z z'/\z'.length=z.length:=by
 have hsr:z[b]?=some (.lst (tk.reverse.map Dd.w++[d.w])):=by rw[hz.u,cD,bG];rfl
 have oL:(z.set b (.lst (tk.reverse.map Dd.w)))[L]?=some (.obj "Kept" (kF M d.a k a b)):=by rw[cP (Ne.symm hz.lb)];exact hz.ob
 have c1:=xD hM hn hd oL
 have oA:((z.set b (.lst (tk.reverse.map Dd.w))).set L (.obj "Kept" (kF M d.b (d.ct M) a b)))[a]?=some (.lst (sd.reverse.map Dd.w)):=by rw[cP hz.la,cP (Ne.symm hz.ab)];exact hz.s
 have e:oN ([.loc L].map some++List.replicate (2-1) none) z=.nx [lO L,some d.w] (((z.set b (.lst (tk.reverse.map Dd.w))).set L (.obj "Kept" (kF M d.b (d.ct M) a b))).set a (.lst (sd.reverse.map Dd.w++[d.w]))):=
  cZ (cz (aY (bv (cq (am (dN kv hz.ob rfl) aQ) (oG (bX hsr))) bI (gj (by simp;omega)))) c9)
   (cZ (bb (jU (dN kv hz.ob rfl) (d8 hsr) aQ (BI hsr))) (cZ (dU (hZ kv oL rfl kn rfl c1))
    (dU (jU (dN kv (fv oL) rfl) (d8 oA) kn (qx oA (by simp;omega))))))
 have e2:=k7 (N:=2) e
 rw[mj #[15]]at e2
 refine⟨_,e2,⟨?_,?_,?_,hz.la,hz.lb,hz.ab,by rw[bZ];omega,by have:=hz.lu;rw[bZ]at this;omega⟩,⟨by simp,fun i hi h1 h2 h3=>?_⟩,by simp⟩
 ·rw[cP (Ne.symm hz.la)];exact fv oL
 ·rw[fv oA,cD,bG];rfl
 ·rw[cP hz.ab,cP hz.lb];exact fv hsr
 ·rw[cP (Ne.symm h2),cP (Ne.symm h1),cP (Ne.symm h3)]
theorem j'.app{x:List au}(h:j' M L a b t k sd tk z):j' M L a b t k sd tk (z++x):=⟨dI h.ob,dI h.s,dI h.u,h.la,h.lb,h.ab,h.ls,h.lu⟩
theorem Fk(hM:m9 M n)(hn:1<=n)(ht:t.size<=900)(z:List au):∃z',fY [.loc z.length,M.w,b_ t.po] (z++[.obj "Kept" []])=.ok .non z'/\j' M z.length (z.length+1) (z.length+2) t t.size [] [] z'/\z <+: z':=by
 have rm:=t6 hM hn t ht
 have ln:=gQ t.po
 rw[MT.po_len]at ln
 have sx:∀(c:au) (y:List au),(z++c::y)[z.length]?=some c:=fun c y=>by rw[dQ];rfl
 have ss:∀(c d:au) (y:List au),(z++c::y).set z.length d=z++d::y:=fun c d y=>by rw[fX];rfl
 have e:pL ([.loc z.length,M.w,b_ t.po].map some++List.replicate (3-3) none) (z++[.obj "Kept" []])=.nx [lO z.length,some M.w,some (b_ t.po)] (z++[.obj "Kept" (kF M t t.size (z.length+1) (z.length+2)),.lst [],.lst []]):=by
  have F:∀{f:Str} {fe:FE} {ρ:cV} {fl:List (Str×W)} {y:List au} {w:W} {y':List au},ρ[0]?=some (lO z.length)->fl.length<900->fe ρ (z++.obj "Kept" fl::y)=.ok w (z++.obj "Kept" fl::y')->qg "Kept" f (ag 0) fe ρ (z++.obj "Kept" fl::y)=.nx ρ (z++.obj "Kept" (x9 f w fl)::y'):=fun h hl h1=>by
   rw[qA h1 (kz h) (sx _ _) hl,ss]
  refine cZ (F rfl (ao rfl) kv) (cZ (F rfl (ao rfl) kv) (cZ (F rfl (ao rfl) (bU (am kv kn) (rm _) rfl)) (cZ (F rfl (ao rfl) (cq kn (ln _))) (cZ (F (w:=.loc (z.length+1)) (y':=[.lst []]) rfl (ao rfl) ?_) ?_))))
  ·rw[qh aQ (ao rfl),al];simp
  ·rw[F (w:=.loc (z.length+2)) (y':=[.lst [],.lst []]) rfl (ao rfl) (by rw[qh aQ (ao rfl),al];simp)]
   rfl
 have e2:=k7 (N:=3) e
 have oL:(z++[.obj "Kept" (kF M t t.size (z.length+1) (z.length+2)),.lst [],.lst []])[z.length]?=some (.obj "Kept" (kF M t t.size (z.length+1) (z.length+2))):=sx _ _
 rw[xC (L:=z.length) [] #[15] oL (by simp[kF,undWs,W.und]) (by rw[sx];intro e;injection e with e;injection e with _ e;simp[kF]at e)]at e2
 exact⟨_,e2,⟨oL,by rw[iC];rfl,by rw[iC];rfl,by omega,by omega,by omega,by simp,by simp⟩,a_ _ _⟩
theorem CF(hz:j' M L a b t k sd tk z):gP [.loc L] z=.ok (gA (t.rT M)) z:=by
 apply fg
 apply bP
 ·exact dN kv hz.ob rfl
 ·exact⟨_,_,rfl,rfl,rfl⟩
theorem Eh(hz:j' M L a b t k sd tk z):ig [.loc L] z=.ok (b_ t.po) z:=by
 apply fg
 apply bP
 ·exact dN kv hz.ob rfl
 ·exact⟨_,_,rfl,rfl,rfl⟩
theorem Ei(hM:m9 M n)(hn:1<=n)(hz:j' M L a b t k sd tk z):ii [.loc L] z=.ok (.bl (M.gd.getD (t.tR M) false)) z:=by
 have g1:bu M.w (.int 1) z=.ok (.tup (M.gd.map W.bl)) z:=rfl
 have nl:=AE (t.rT M) z
 rw[MT.rT_len]at nl
 have gi:=JB hM (t.tR_lt hM hn) z
 apply fg
 apply bP
 ·by_cases h:0<t.size
  ·have lx:bu (gA (t.rT M)) (.int (-1)) z=.ok (.int (t.tR M:Nat)) z:=by
    refine nT (q:=-(((0:Nat):Int)+1)) (wY ?_)
    have:=MT.rT_top M t h
    rw[fT (by rw[aE,MT.rT_len];exact h),aE,MT.rT_len,aG,show t.size-1-0=t.size-1 from rfl,lc 0 (by rw[MT.rT_len];omega),this];rfl
   exact bv (bv (dN kv hz.ob rfl) bI g1) (tq (aY (bv (cq (am (dN kv hz.ob rfl) aQ) nl) bI (lW (by simp;omega)))) (bv (dN kv hz.ob rfl) (vo bI) lx)) gi
  ·have h0:t.tR M=0:=by
    cases t with
    |nil=>rfl
    |nd l r m=>rw[MT.size_nd]at h;omega
   rw[h0]at gi
   rw[h0]
   exact bv (bv (dN kv hz.ob rfl) bI g1) (tt (aY (bv (cq (am (dN kv hz.ob rfl) aQ) nl) bI (lW (by simp;omega)))) bI) gi
 ·exact⟨_,_,rfl,rfl,rfl⟩
theorem L7(M:Mc)(t:MT):LY M t.po (t.lkT 0)=M.gd.getD (t.tR M) false:=by
 unfold LY Ct
 rw[MT.rooms_po,MT.po_len]
 by_cases h:0<t.size
 ·rw[aK h,MT.rT_top M t h]
 ·rw[aU h]
  cases t with
  |nil=>rfl
  |nd l r m=>rw[MT.size_nd]at h;omega
theorem TL(t:MT)(h:t.size<=1000):Sm (b_ t.po):=fun st=>tZ (k:=39) (by rw[aE,MT.po_len];exact h) fun w hw=>by
 obtain⟨p,_,rfl⟩:=c7.mp hw
 refine tZ (k:=38) #[15] fun w hw=>?_
 simp only[aX,eV,mL]at hw
 rcases hw with rfl|rfl
 ·exact Cq _ 37 _
 ·exact Cp _ 37 _
theorem qX(hM:m9 M n)(hn:1<=n)(ht:t.size<=900)(hz:j' M L a b t k sd tk z)(q:Int):qv [.loc L,M.w,b_ t.po,.int q] z=.ok (.bl true) z:=by
 refine fq ?_ rfl
 refine gC (fun i ρ bg=>∃(o4 o5:Option W) (x:List au),ρ=[lO L,some M.w,some (b_ t.po),iO q,o4,o5]/\bg=z++x) (j8 (am bI aQ) #[3])
  ⟨none,none,[],rfl,(a8 _).symm⟩ (fun _ _ _ _=>trivial) ?_ ?_
 ·rintro i w ρ bg hw ⟨o4,o5,x,rfl,rfl⟩
  obtain⟨hi,rfl⟩:=kJ hw
  obtain⟨j,hj,ej⟩:=hW (q:=q+(0+(i:Int))) (n:=3) #[0]
  have ej:(q+(0+(i:Int)))%3=(j:Int):=ej
  refine⟨_,rfl,?_⟩
  apply az
  ·exact bb (w:=.int (j:Nat)) (by rw[<- ej];exact bv (bv kv kv dM) bI (jm #[3]))
  have hzx:=hz.app (x:=x)
  have no:∀(v:Nat) (gK:FT) (s:List au),v≠j->Ky (eO (e2 ku (ag 5) (eC (.int (v:Nat))))) gK [lO L,some M.w,some (b_ t.po),iO q,some (.int (0+(i:Int))),iO (j:Nat)] s=.ok false s:=fun v gK s h=>zV (aY (bv kv bI (gj (by rw[bp];omega))))
  have rl:=MT.rT_len M t
  obtain rfl|rfl|rfl:j=0\/j=1\/j=2:=by omega
  ·obtain⟨y,ey,hy⟩:=Fg t.gr0 (by rw[MT.po_len];exact ht) hM hn (z++x)
   rw[MT.rooms_po]at hy
   apply bC
   ·exact tm (aY (bv kv bI (gj rfl))) (nS (aY (bU (am (hZ kv hzx.ob rfl aQ rfl (CF hzx)) (am (cq (am (bU (am kv kn) ey rfl) aQ) (oH (bX (by rw[iC];exact hy)))) aQ)) (Qs (t.rT M) #[0] _) rfl)) rfl)
   apply bV
   apply bC
   ·exact no 1 _ _ #[3]
   apply bV
   apply m7
   ·exact no 2 _ _ #[3]
   ·exact⟨_,_,rfl,_,_,x++y,rfl,(al _ _ _)⟩
  ·have le:=JJ t.gr0 (by rw[MT.po_len];exact ht) hM hn (z++x)
   rw[L7]at le
   apply bC
   ·exact no 0 _ _ #[3]
   apply bV
   apply bC
   ·exact tm (aY (bv kv bI (gj rfl))) (nS (aY (bU (am (hZ kv hzx.ob rfl aQ rfl (Ei hM hn hzx)) (am (bU (am kv kn) le rfl) aQ)) (TD _ _) rfl)) rfl)
   apply bV
   apply m7
   ·exact no 2 _ _ #[3]
   ·exact⟨_,_,rfl,_,_,x,rfl,rfl⟩
  ·apply bC
   ·exact no 0 _ _ #[3]
   apply bV
   apply bC
   ·exact no 1 _ _ #[3]
   apply bV
   apply m7
   ·exact tm (aY (bv kv bI (gj rfl))) (nS (aY (bU (am (hZ kv hzx.ob rfl aQ rfl (Eh hzx)) kn) (TL t #[0] _) rfl)) rfl)
   ·exact⟨_,_,rfl,_,_,x,rfl,rfl⟩
 ·rintro ρ bg ⟨o4,o5,x,rfl,rfl⟩
  apply bP
  ·exact bI
  ·exact⟨_,_,rfl,rfl,x,rfl⟩
end
def KC(sz:List Nat):Option Nat->Nat
 |none=>0
 |some j=>sz.getD j 0
section
variable{ps:List Pl}{sz:List Nat}{lk:List #[8]}
theorem Gr.szl(h:Gr ps S sz lk)(hi:i<ps.length):∃x,lk[i]?=some x/\Jw i x/\sz[i]?=some (1+KC (sz.take i) x.1+KC (sz.take i) x.2):=by
 obtain⟨S1,S2,p,k,x,g1,q1,q2,q3,hs,g2⟩:=h.step i hi
 obtain⟨lz,ll,ha⟩:=g1.ok
 rw[show(ps.take i).length=i by rw[aF];omega]at ha
 refine⟨x,q3,h.lk q3,?_⟩
 rw[q2]
 congr 1
 have g:∀{j a:Nat},(sz.take i)[j]?=some a->KC (sz.take i) (some j)=a:=fun e=>by show List.getD _ _ _=_;rw[aI,e];rfl
 obtain⟨b,m⟩:=p
 cases hs with
 |z=>rfl
 |l=>rw[g ha.1];rfl
 |r=>rw[g ha.1];show _=1+0+_;omega
 |b=>
  have:=ha.2.2.2.1
  rw[g ha.1,show ∀c,i-1-c=i-c-1 by omega,g this];omega
theorem GC(h:Gr ps S sz lk)(hn:ps.length<=900){p:Nat}(hp:st[p]?=some (.lst (lk.map jE))):Cf [.loc p] st=.ok #[5] (st++[.lst (cY sz)]):=by
 obtain⟨l1,l2,_⟩:=h.ok
 have hh:k6 (A7 fun w bg=>∃j x,w=.loc (st.length+j)/\bg=st++x/\j=0/\x=[.lst (cY sz)]) (Nr ([W.loc p].map some++List.replicate (5-1) none) st):=by
  apply az
  ·exact bb (qh aQ (ao rfl))
  refine gC (fun i ρ bg=>∃(o2 o3 o4:Option W),ρ=[lO p,lO st.length,o2,o3,o4]/\bg=st++[.lst (cY (sz.take i))]) (zY kv (bX (dI hp))) ⟨none,none,none,rfl,rfl⟩ (fun i ρ bg hI=>?_) ?_ ?_
  ·obtain⟨o2,o3,o4,rfl,rfl⟩:=hI
   exact bX (dI hp)
  ·rintro i w ρ bg hw ⟨o2,o3,o4,rfl,rfl⟩
   have hw:(lk.map jE)[i]?=some w:=hw
   obtain⟨x0,hx0,rfl⟩:=by rw[aG]at hw;exact fD.mp hw
   have hil:i<lk.length:=(ax.mp hx0).1
   obtain⟨x,hx,lkx,hz⟩:=h.szl (show i<ps.length by omega)
   rw[hx0]at hx;cases hx
   have ht:(sz.take i).length=i:=by rw[aF];omega
   have get:∀k:Nat,k<i->bu #[5] (.int k) #[16]=.ok (.int ((sz.take i).getD k 0:Nat)) #[16]:=fun k hk=>zg [] (lc 0 #[0])
   have ap:=JE (st:=st) (z:=sz.take i) (1+KC (sz.take i) x0.1+KC (sz.take i) x0.2) #[0]
   rw[<- V5 hz]at ap
   have isl:ms #[16] #[5]=true:=d8 dF
   refine⟨[lO p,lO st.length,some (oW x0.1),some (oW x0.2),o4],rfl,?_⟩
   apply az
   ·exact bb bI
   have e1:gz (eO (iB (ag 2))) (bd 4 (e2 cN (ag 4) (e2 bu (ag 1) (ag 2)))) bW [lO p,lO st.length,some (oW x0.1),some (oW x0.2),iO 1] #[16]=.nx [lO p,lO st.length,some (oW x0.1),some (oW x0.2),iO (1+KC (sz.take i) x0.1:Nat)] #[16]:=by
    obtain⟨a,b⟩:=x0
    cases a with
    |none=>exact cz (aY (fA kv rfl)) rfl
    |some j=>rw[gc];exact dg (aY (fA kv rfl)) (bb (bv kv (bv kv kv (get j (lkx.1 j rfl))) dM))
   apply az
   ·exact e1
   have e2:gz (eO (iB (ag 3))) (bd 4 (e2 cN (ag 4) (e2 bu (ag 1) (ag 3)))) bW [lO p,lO st.length,some (oW x0.1),some (oW x0.2),iO (1+KC (sz.take i) x0.1:Nat)] #[16]=.nx [lO p,lO st.length,some (oW x0.1),some (oW x0.2),iO (1+KC (sz.take i) x0.1+KC (sz.take i) x0.2:Nat)] #[16]:=by
    obtain⟨a,b⟩:=x0
    cases b with
    |none=>exact cz (aY (fA kv rfl)) rfl
    |some j=>rw[gc _ (KC _ _)];exact dg (aY (fA kv rfl)) (bb (bv kv (bv kv kv (get j (lkx.2 j rfl))) dM))
   apply az
   ·exact e2
   apply dh
   ·exact dU (jU kv isl kn ap)
   ·exact⟨_,_,rfl,_,_,_,rfl,rfl⟩
  ·rintro ρ bg ⟨o2,o3,o4,rfl,rfl⟩
   apply bP
   ·exact kz rfl
   ·refine⟨_,_,rfl,0,_,rfl,rfl,rfl,?_⟩
    rw[show((lk.map jE,some (p,lk.map jE)):List W×Option (Nat×List W)).1.length=sz.length by show(lk.map jE).length=_;rw[aE];omega,bj (aA _)]
 obtain⟨j,x,⟨rfl,rfl⟩,e⟩:=vU hh
 exact e
end
theorem MT.sz_top:∀t:MT,0<t.size->t.szT[t.size-1]?=some t.size
 |.nil,h=>absurd h (by decide)
 |.nd l r m,_=>by
  rw[MT.size_nd]
  show(l.szT++r.szT++[_])[_]?=_
  rw[aS (by rw[ai,MT.sz_len,MT.sz_len];omega),ai,MT.sz_len,MT.sz_len,show l.size+r.size+1-1-(l.size+r.size)=0 by omega];rfl
section
theorem QD{C:List Fm}{l r:MT}{m:List Nat}:(0<l.size->#[1].szT[(pA C).length+l.size-1]?=some l.size)/\(0<r.size->#[1].szT[(pA C).length+l.size+r.size-1]?=some r.size):=by
 obtain⟨u,w,e,hu⟩:=v0 C (.nd l r m)
 have e2:#[1].szT=u++(l.szT++(r.szT++([l.size+r.size+1]++w))):=by rw[e];show u++(l.szT++r.szT++[_])++w=_;simp only[al]
 rw[e2]
 refine⟨fun h=>?_,fun h=>?_⟩
 ·rw[aS #[0],aR (by rw[MT.sz_len];omega),hu,show(pA C).length+l.size-1-(pA C).length=l.size-1 by omega,MT.sz_top l h]
 ·rw[aS #[0],aS (by rw[MT.sz_len];omega),aR (by rw[MT.sz_len,MT.sz_len];omega),hu,MT.sz_len,show(pA C).length+l.size+r.size-1-(pA C).length-l.size=r.size-1 by omega,MT.sz_top r h]
theorem GD(C:List Fm)(l r:MT)(m:List Nat)(h:#[1].size<=900)(st:List au):Cg [b_ #[1].po,.int (pq C l r:Nat)] st=.ok (.tup [.int ((pA C).length:Nat),.int ((pA C).length+l.size:Nat)]) st:=by
 have hg:=#[1].gr0
 have hl:=MT.po_len #[1]
 obtain⟨x,⟨A,rfl⟩,el⟩:=Gq hg #[0] st
 have c1:(st++[au.lst A,.lst ((#[1].lkT 0).map jE)])[st.length+1]?=some (.lst ((#[1].lkT 0).map jE)):=by rw[iC];rfl
 have es:=GC hg #[0] c1
 generalize hs1:st++[au.lst A,.lst ((#[1].lkT 0).map jE)]=s1 at *
 have hx:=v5 C l r m
 obtain⟨zl,zr⟩:=QD (C:=C) (l:=l) (r:=r) (m:=m)
 have lx:∀(s:List au),s[st.length+1]?=some (.lst ((#[1].lkT 0).map jE))->bu (.loc (st.length+1)) (.int (pq C l r:Nat)) s=.ok (jE (l.tp (pA C).length,r.tp ((pA C).length+l.size))) s:=fun s hs=>jN (bX hs) (fW (by rw[aG];unfold pq;rw[hx];rfl))
 have c2:(s1++[.lst (cY #[1].szT)])[st.length+1]?=some (.lst ((#[1].lkT 0).map jE)):=dI c1
 have lx2:=lx _ c2
 have sx:∀{j a:Nat},#[1].szT[j]?=some a->bu (.loc s1.length) (.int j) (s1++[.lst (cY #[1].szT)])=.ok (.int a) (s1++[.lst (cY #[1].szT)]):=fun e=>zg [] e
 have x0:bu (jE (l.tp (pA C).length,r.tp ((pA C).length+l.size))) (.int 0) (s1++[.lst (cY #[1].szT)])=.ok (oW (l.tp (pA C).length)) (s1++[.lst (cY #[1].szT)]):=rfl
 have x1:bu (jE (l.tp (pA C).length,r.tp ((pA C).length+l.size))) (.int 1) (s1++[.lst (cY #[1].szT)])=.ok (oW (r.tp ((pA C).length+l.size))) (s1++[.lst (cY #[1].szT)]):=rfl
 generalize u7:s1++[au.lst (cY #[1].szT)]=s2 at *
 generalize hT:b_ #[1].po=T at *
 have tpn:∀(t:MT) (o:Nat),(t.size=0/\t.tp o=none)\/(0<t.size/\t.tp o=some (o+t.size-1)):=fun t o=>by
  cases t with
  |nil=>exact .inl ⟨rfl,rfl⟩
  |nd a b c=>exact .inr ⟨by rw[MT.size_nd];omega,MT.tp_nd a b c o⟩
 have e4:gz (eO (iB (e2 bu (e2 bu (ag 2) (ag 1)) (eI 1)))) (bd 4 (e2 lD (ag 1) (e2 bu (ag 3) (e2 bu (e2 bu (ag 2) (ag 1)) (eI 1))))) bW [some T,iO (pq C l r:Nat),lO (st.length+1),lO s1.length,iO (pq C l r:Nat),none] s2=.nx [some T,iO (pq C l r:Nat),lO (st.length+1),lO s1.length,iO ((pA C).length+l.size:Nat),none] s2:=by
  rcases tpn r ((pA C).length+l.size)with⟨h0,e⟩|⟨h0,e⟩
  ·rw[e]at x1 lx2
   rw[show pq C l r=(pA C).length+l.size by unfold pq;omega]at lx2 ⊢
   exact cz (aY (fA (bv (bv kv kv lx2) bI x1) rfl)) rfl
  ·rw[e]at x1 lx2
   have:((pA C).length+l.size:Nat)=((pq C l r:Nat):Int)-(r.size:Nat):=by unfold pq;omega
   rw[this]
   exact dg (aY (fA (bv (bv kv kv lx2) bI x1) rfl)) (bb (bv kv (bv kv (bv (bv kv kv lx2) bI x1) (sx (zr h0))) rfl))
 have e5:gz (eO (iB (e2 bu (e2 bu (ag 2) (ag 1)) (eI 0)))) (bd 5 (e2 lD (ag 4) (e2 bu (ag 3) (e2 bu (e2 bu (ag 2) (ag 1)) (eI 0))))) bW [some T,iO (pq C l r:Nat),lO (st.length+1),lO s1.length,iO ((pA C).length+l.size:Nat),iO ((pA C).length+l.size:Nat)] s2=.nx [some T,iO (pq C l r:Nat),lO (st.length+1),lO s1.length,iO ((pA C).length+l.size:Nat),iO ((pA C).length:Nat)] s2:=by
  rcases tpn l (pA C).length with⟨h0,e⟩|⟨h0,e⟩
  ·rw[e]at x0 lx2
   rw[show(pA C).length+l.size=(pA C).length by omega]at lx2 x0 ⊢
   exact cz (aY (fA (bv (bv kv kv lx2) bI x0) rfl)) rfl
  ·rw[e]at x0 lx2
   have:((pA C).length:Nat)=(((pA C).length+l.size:Nat):Int)-(l.size:Nat):=by omega
   refine(dg (aY (fA (bv (bv kv kv lx2) bI x0) rfl)) (bb (bv kv (bv kv (bv (bv kv kv lx2) bI x0) (sx (zl h0))) rfl))).trans ?_
   rw[this];rfl
 refine fq ?_ rfl
 apply az
 ·exact bb (bU kn el rfl)
 apply az
 ·exact bb (bU kn es rfl)
 apply az
 ·exact bb kv
 apply az
 ·exact e4
 apply az
 ·exact bb kv
 apply az
 ·exact e5
 apply bP
 ·exact eQ (am kv kn) (ao rfl)
 ·exact⟨_,_,rfl,rfl,_,by rw[<- u7,<- hs1,al]⟩
theorem TM(a:List Pl)(st:List au):Gd [.bl (decide ((0:Int)<(a.length:Int)))] st=.ok (.int (qV a:Nat)) st:=by
 by_cases h:0<a.length
 ·rw[bF #[0]];unfold qV;rw[aK h];rfl
 ·rw[a7 #[0]];unfold qV;rw[aU h];rfl
theorem CG(C:List Fm)(l r x:MT)(m:List Nat)(s:Bool)(h:#[1].size<=900)(hx:x.size<=900)(st:List au):Ch [b_ #[1].po,.int (pq C l r:Nat),vx s,b_ x.po] st=.ok (b_ (plug C #[14]).po) st:=by
 have z1:=fZ C (.nd l r m) (by rw[MT.size_nd];omega)
 rw[MT.size_nd]at z1
 have hl:=MT.po_len #[1]
 have hxl:=MT.po_len x
 have b:=GD C l r m h st
 have c1:=D9 (a:=#[1].po) (i:=(pA C).length) (j:=(pA C).length+l.size) #[0] #[0] st
 have c2:=D9 (a:=#[1].po) (i:=(pA C).length+l.size) (j:=pq C l r) (by unfold pq;omega) (by unfold pq;omega) st
 have d1:(#[1].po.drop (pA C).length).take ((pA C).length+l.size-(pA C).length)=l.po:=by
  rw[df,show(MT.nd l r m).po=l.po++(r.po++[⟨l.one+2*r.one,m⟩])from al _ _ _]
  exact v7 (q:=0) rfl (by rw[MT.po_len];omega)
 have d2:(#[1].po.drop ((pA C).length+l.size)).take (pq C l r-((pA C).length+l.size))=r.po:=by
  rw[df,show pA C++(MT.nd l r m).po++pB C=(pA C++l.po)++(r.po++[⟨l.one+2*r.one,m⟩])++pB C by show pA C++(l.po++r.po++_)++_=_;simp only[al]]
  exact v7 (q:=0) (by rw[ai,MT.po_len]) (by rw[MT.po_len];unfold pq;omega)
 rw[d1]at c1
 rw[d2]at c2
 have w1:#[1].po.take (pA C).length=pA C:=by rw[df,al,gY]
 have w2:#[1].po.drop (pq C l r+1)=pB C:=by
  rw[df]
  exact il (by rw[ai,MT.po_len,MT.size_nd];unfold pq;omega)
 have s1:=xu (a:=#[1].po) (q:=(pA C).length) #[0] st
 have s2:=xw (a:=#[1].po) (q:=pq C l r+1) (by unfold pq;omega) st
 rw[w1]at s1
 rw[w2]at s2
 have s2:wE (b_ #[1].po) (some ((pq C l r:Int)+1)) none st=.ok (b_ (pB C)) st:=s2
 have hB:(pB C).length<=900:=by rw[<- w2,cf];omega
 have hA:(pA C).length<=900:=by omega
 have eS:ku (vx s) (.str [108,101,102,116]) st=.ok (.bl s) st:=by cases s<;>exact dY rfl
 have e7:gz (eO (e2 ku (ag 2) (eC (.str [108,101,102,116])))) (bd 6 (ag 3)) (bd 7 (ag 3)) [some (b_ #[1].po),iO (pq C l r:Nat),some (vx s),some (b_ x.po),iO ((pA C).length:Nat),iO ((pA C).length+l.size:Nat),some (b_ l.po),some (b_ r.po),none] st=.nx [some (b_ #[1].po),iO (pq C l r:Nat),some (vx s),some (b_ x.po),iO ((pA C).length:Nat),iO ((pA C).length+l.size:Nat),some (b_ (MT.po (if s then x else l))),some (b_ (MT.po (if s then r else x))),none] st:=by
  cases s
  ·exact cz (aY (bv kv bI eS)) (bb kv)
  ·exact dg (aY (bv kv bI eS)) (bb kv)
 have hl2:(MT.po (if s then x else l)).length<=900:=by cases s<;>simp only[gF,fP,gW,MT.po_len]<;>omega
 have hr2:(MT.po (if s then r else x)).length<=900:=by cases s<;>simp only[gF,fP,gW,MT.po_len]<;>omega
 generalize (if s then x else l)=l' at *
 generalize (if s then r else x)=r' at *
 have t1:=TM l'.po st
 have t2:=TM r'.po st
 rw[MT.one_bit]at t1 t2
 refine fq ?_ (by simp only[undWs,my,dL])
 apply az
 ·exact za (bU (am kv kn) b rfl) rfl
 apply az
 ·exact bb (ny kv (nv kv) (nv kv) c1)
 apply az
 ·exact bb (ny kv (nv kv) (nv kv) c2)
 apply az
 ·exact e7
 apply az
 ·refine bb (w:=.tup [.int (l'.one+2*r'.one:Nat),.str m]) (eQ (am ?_ (am (bv (bv kv kv (tW (oT C l r m) st)) bI (D4 _ st)) aQ)) (ao rfl))
  rw[show((l'.one+2*r'.one:Nat):Int)=(l'.one:Int)+2*(r'.one:Int) by omega]
  exact bv (cq (am (bv (cq kn (gQ l'.po st)) bI (lW rfl)) aQ) t1) (bv bI (cq (am (bv (cq kn (gQ r'.po st)) bI (lW rfl)) aQ) t2) (sg (.inl #[3]))) dM
 apply bP
 ·refine bv (bv (bv (bv (ny kv tu (nv kv) s1) kv (j_ _ _ ?_ st)) kv (j_ _ _ ?_ st)) (eQ kn (ao rfl)) (j_ _ [⟨l'.one+2*r'.one,m⟩] ?_ st)) (ny kv (nv (bv kv bI dM)) tu s2) (j_ _ _ ?_ st)
  ·rw[ai];omega
  ·rw[ai,ai];omega
  ·rw[ai,ai,ai,bt];omega
  ·rw[ai,ai,ai,ai,bt];omega
 ·refine⟨_,_,rfl,?_,[],by simp⟩
  rw[df]
  show _=b_ (pA C++(l'.po++r'.po++[⟨l'.one+2*r'.one,m⟩])++pB C)
  simp only[al]
end
theorem Ej(h:l.Pairwise (· < ·)):g9 l=l:=zP (j6 l) h fun _=>jL
def xF(t:MT):Prop:=∀p∈t.po,q9 p.m
theorem xF.plug{C:List Fm}{l r l' r':MT}{m':List Nat}(h:xF #[1])(hl:xF l')(hr:xF r')(hm:q9 m'):xF (plug C (.nd l' r' m')):=fun p hp=>by
 rw[df]at hp
 rcases aV.mp hp with hp|hp
 ·rcases aV.mp hp with hp|hp
  ·exact h p (by rw[df];exact bA _ (bA _ hp))
  ·rcases aV.mp hp with hp|hp
   ·rcases aV.mp hp with hp|hp
    ·exact hl p hp
    ·exact hr p hp
   ·rw[aZ.mp hp];exact hm
 ·exact h p (by rw[df];exact aP _ hp)
theorem xF.at{C:List Fm}{l r:MT}(h:xF (P.plug C (.nd l r m))):xF l/\xF r/\q9 m:=
  ⟨fun p hp=>h p (by rw[df];exact bA _ (aP _ (bA _ (bA _ hp)))),
   fun p hp=>h p (by rw[df];exact bA _ (aP _ (bA _ (aP _ hp)))),
   h ⟨_,m⟩ (by rw[df];exact bA _ (aP _ (aP _ (aZ.mpr rfl))))⟩
theorem q9.ln(h:q9 m):m.length<=52:=nu (h.1.imp fun h=>a9 h) h.2
theorem q9.take(h:q9 m)(c:Nat):q9 (m.filter fun d=>d != c):=⟨h.1.sublist List.filter_sublist,fun d hd=>h.2 d (jv.mp hd).1⟩
theorem q9.put(h:q9 m){c:Nat}(hc:c∈LL):q9 (g9 (m++[c])):=⟨j6 _,fun d hd=>by
 rcases aV.mp (jL.mp hd)with hd|hd
 ·exact h.2 d hd
 ·rw[aZ.mp hd];exact hc⟩
theorem q9.srt_take(h:q9 m)(c:Nat):D5 (m.filter fun d=>d != c)=m.filter fun d=>d != c:=by
 rw[u4 ((h.take c).1.imp fun h=>a9 h),Ej (h.take c).1]
theorem q9.srt_put(h:q9 m)(c:Nat):D5 ((m.filter fun d=>d != c)++[c])=g9 (m++[c]):=by
 rw[u4]
 ·refine zP (j6 _) (j6 _) fun d=>?_
  rw[jL,jL,aV,aV,jv,aZ,bne_iff_ne]
  by_cases e:d=c
  ·simp[e]
  ·simp[e]
 ·refine ni.mpr ⟨(h.take c).1.imp fun h=>a9 h,by simp,fun d hd e he=>?_⟩
  rw[aZ.mp he]
  exact bne_iff_ne.mp (jv.mp hd).2
theorem TN{p q:List Nat}{k:Bool}(h:(!(p==q))=k):Kz (.str p) (.str q) st=.ok (.bl k) st:=by rw[<- h];rfl
theorem L8{fe:FE}(T:Nat->Bool)(h:fe ρ st=.ok (.str l) st1)(hl:l.length<=10000)(h0:0<cap.length)
  (ht:∀c∈l,t ((uG cap ρ).set 0 (some (.str [c]))) st1=.ok (T c) st1) :
  k_ cap (ic fe) (kH 0) t (ag 0) ρ st=.ok (.loc st1.length) (st1++[.lst (((l.filter T).map fun c=>[c]).map W.str)]):=by
 have cg:=DR (cap:=cap) (ρ:=ρ) (st:=st) (st1:=st1) (f:=kH 0) (t:=t) (el:=ag 0) (fun w=>match w with|.str [c]=>T c|_=>false) id (Ay h) (by rw[u3];show _<=1000000;omega) trivial fun w hw=>by
  obtain⟨c,hc,rfl⟩:=c7.mp hw
  exact⟨_,rfl,ht c hc,fun _=>kz (by rw[b8 (by simp[uG];exact h0)];rfl)⟩
 have e:((jf l).filter (fun w=>match w with|.str [c]=>T c|_=>false)).map id=((l.filter T).map fun c=>[c]).map W.str:=by
  rw[jT]
  unfold jf
  rw[List.filter_map,cn];rfl
 rwa[e]at cg
inductive Pn where
 |back|again
 |wh (x:MT)
 |mk (b:Bool) (q c:Nat)
 |br (q:Nat) (s:Bool) (x:MT)
def V6(b:Bool):W:=.str (if b then[112,117,116]else[116,97,107,101])
def Pn.w:Pn->W
 |back=>.tup [.str [98,97,99,107]]
 |again=>.tup [.str [97,103,97,105,110]]
 |wh x=>.tup [.str [119,104,111,108,101],b_ x.po]
 |mk b q c=>.tup [V6 b,.int (q:Nat),.str [c]]
 |br q s x=>.tup [.str [98,114,97,110,99,104],.int (q:Nat),vx s,b_ x.po]
def Pn.ok(n:Nat):Pn->Prop
 |back=>True
 |again=>True
 |wh x=>x.size<=10/\xF x
 |mk _ q c=>q<n/\c∈LL
 |br q _ x=>q<n/\x.size<=10/\xF x
theorem Ek(T:W)(x:MT)(st:List au):qu [T,(Pn.wh x).w] st=.ok (b_ x.po) st:=by
 apply fg
 apply eR
 ·exact aY (bv kx bI (dY rfl))
 apply eG
 ·exact bv kv bI ox
 ·exact⟨_,_,rfl,rfl,rfl⟩
theorem El(C:List Fm)(l r x:MT)(m:List Nat)(s:Bool)(h:#[1].size<=900)(hx:x.size<=900)(st:List au):qu [b_ #[1].po,(Pn.br (pq C l r) s x).w] st=.ok (b_ (plug C #[14]).po) st:=by
 apply fg
 apply bC
 ·exact aY (bv kx bI (dY rfl))
 apply bV
 apply eR
 ·exact aY (bv kx bI (dY rfl))
 apply eG
 ·exact bU (am kv (am kx (am kx (am kx aQ)))) (CG C l r x m s h hx st) rfl
 ·exact⟨_,_,rfl,rfl,rfl⟩
def nm'(b:Bool)(m:List Nat)(c:Nat):List Nat:=if b then g9 (m++[c])else m.filter fun d=>d != c
theorem Em(C:List Fm)(l r:MT)(m:List Nat)(b:Bool)(c:Nat)(h:#[1].size<=900)(hm:q9 m)(st:List au):qu [b_ #[1].po,(Pn.mk b (pq C l r) c).w] st=.ok (b_ (plug C (.nd l r (nm' b m c))).po) st:=by
 have Wa:=hm.ln
 have z1:=fZ C (.nd l r m) (by rw[MT.size_nd];omega)
 rw[MT.size_nd]at z1
 have hl:=MT.po_len #[1]
 have w1:#[1].po.take (pq C l r)=pA C++(l.po++r.po):=by
  rw[df,show pA C++(MT.nd l r m).po++pB C=(pA C++(l.po++r.po))++(⟨l.one+2*r.one,m⟩::pB C) by show pA C++(l.po++r.po++[_])++pB C=_;simp only[al];rfl]
  exact lV (by rw[ai,ai,MT.po_len,MT.po_len];unfold pq;omega)
 have w2:#[1].po.drop (pq C l r+1)=pB C:=by
  rw[df]
  exact il (by rw[ai,MT.po_len,MT.size_nd];unfold pq;omega)
 have w3:∀m',(plug C (.nd l r m')).po=(pA C++(l.po++r.po))++[⟨l.one+2*r.one,m'⟩]++pB C:=fun m'=>by
  rw[df];show pA C++(l.po++r.po++[_])++pB C=_;simp only[al]
 have hs:=ik List.length (w3 m)
 rw[ai,ai,bt]at hs
 have s1:∀st,wE (b_ #[1].po) none (some (pq C l r:Int)) st=.ok (b_ (pA C++(l.po++r.po))) st:=fun st=>by
  have:=xu (a:=#[1].po) (q:=pq C l r) (by unfold pq;omega) st
  rwa[w1]at this
 have s2:∀st,wE (b_ #[1].po) (some ((pq C l r:Int)+1)) none st=.ok (b_ (pB C)) st:=fun st=>by
  have:=xw (a:=#[1].po) (q:=pq C l r+1) (by unfold pq;omega) st
  rwa[w2]at this
 have pk:=L8 (fe:=ag 3) (t:=eO (e2 Kz (ag 0) (e2 bu (ag 1) (eI 2)))) (cap:=[none,some 1]) (ρ:=[some (b_ #[1].po),some (Pn.mk b (pq C l r) c).w,iO (l.one+2*r.one:Nat),some (.str m)]) (st:=st) (st1:=st) (l:=m) (fun d=>d != c) kv #[0] #[3] fun d _=>aY (bv kv kx (TN (by simp[bne])))
 have c1:(st++[au.lst (((m.filter fun d=>d != c).map fun c=>[c]).map W.str)])[st.length]?=some (.lst (((m.filter fun d=>d != c).map fun c=>[c]).map W.str)):=dF
 have hfl:=kD (fun d=>d != c) m
 have ap:=qx (y:=.str [c]) c1 (by rw[aE,aE];omega)
 have kQ:∀(l2:List Nat) (s:List au) (x:List au),s=st++x->D5 l2=nm' b m c->l2.length<64->s[st.length]?=some (.lst ((l2.map fun c=>[c]).map W.str)) ->
   k6 (A7 fun w' bg=>w'=b_ (plug C (.nd l r (nm' b m c))).po/\∃x,bg=st++x) (cQ (e2 cN (e2 cN (rk (ag 0) gM (eW (e2 bu (ag 1) (eI 1)))) (fJ (ah (fJ (ah (ag 2) (ah (KA pF (eC (.str [])) (ah (bJ lE (ah (ag 3) aD)) aD)) aD))) aD))) (rk (ag 0) (eW (e2 cN (e2 bu (ag 1) (eI 1)) (eI 1))) gM)) [some (b_ #[1].po),some (Pn.mk b (pq C l r) c).w,iO (l.one+2*r.one:Nat),lO st.length] s):=fun l2 s x u7 hsr hl2 hc=>by
  have sj:=Fc (fe:=ag 3) (ρ:=[some (b_ #[1].po),some (Pn.mk b (pq C l r) c).w,iO (l.one+2*r.one:Nat),lO st.length]) (st:=s) kv (bX hc) hl2
  rw[hsr]at sj
  apply bP
  ·exact bv (bv (ny kv tu (nv kx) (s1 _)) (eQ (am (eQ (am kv (am sj aQ)) (ao rfl)) aQ) (ao rfl)) (j_ _ [⟨l.one+2*r.one,nm' b m c⟩] (by rw[ai,bt];omega) _)) (ny kv (nv (bv kx bI dM)) tu (s2 _)) (j_ _ _ (by rw[ai,ai,bt];omega) _)
  ·exact⟨_,_,rfl,by rw[w3],_,by rw[u7,al]⟩
 refine fq ?_ (by simp only[undWs,my,dL])
 apply bC
 ·exact aY (bv kx bI (dY (by cases b<;>rfl)))
 apply bV
 apply bC
 ·exact aY (bv kx bI (dY (by cases b<;>rfl)))
 apply bV
 apply az
 ·exact za (bv kv kx (tW (oT C l r m) st)) rfl
 apply az
 ·exact za pk rfl
 cases b with
 |true=>
  apply eR
  ·exact aY (bv kx bI (dY rfl))
  apply az
  ·exact dU (jU kv (d8 c1) (am kx aQ) ap)
  ·rw[fX]
   refine kQ ((m.filter fun d=>d != c)++[c]) _ _ rfl (hm.srt_put c) (by rw[ai,bt];omega) ?_
   rw[dQ,bG,bG];rfl
 |false=>
  apply bC
  ·exact aY (bv kx bI (dY rfl))
  apply bV
  exact kQ (m.filter fun d=>d != c) _ _ rfl (hm.srt_take c) #[0] c1
theorem ND{ps:List Pl}{sz:List Nat}{lk:List #[8]}(hp:pool.Nodup)(hL:∀d∈pool,d∈LL)(h:Gr ps S sz lk)(h1:S.length<=1)(hm:∀p∈ps,Gx pool p.m):∃t:MT,ps=t.po/\xF t:=by
 obtain⟨t,rfl⟩:=h.mt h1
 exact⟨t,rfl,fun p KI=>⟨(hm p KI).2.2 hp,fun d hd=>hL d ((hm p KI).2.1 d hd)⟩⟩
theorem L9(h:l.length<64):lE [.str l] st=.ok #[5] (st++[.lst ((jM (l.map fun c=>[c])).map W.str)]):=by
 unfold lE;simp only;rw[aK h]
theorem L_{s1:List au}(h:fe ρ st=.ok (.str l) s1)(hl:l.length<64) :
  KA pF (eC (.str [])) (ah (bJ lE (ah fe aD)) aD) ρ st=.ok (.str (D5 l)) (s1++[.lst ((jM (l.map fun c=>[c])).map W.str)]):=by
 have hcell2:lstOf (s1++[au.lst ((jM (l.map fun c=>[c])).map W.str)]) s1.length=some ((jM (l.map fun c=>[c])).map W.str):=bX dF
 have hj:=DP (sep:=[]) hcell2 (by rw[xr (hV _),tY];show _<=1000000;simp;omega)
 exact LO bI rfl (am (cq (am h aQ) (L9 hl)) aQ) hj
theorem JY{a b:Nat}(h:a<1000000):jc (.int (a:Nat)) (.int (b:Nat)) st=.ok (.int ((a*b:Nat):Int)) st:=by
 rw[sg (.inl ⟨by omega,by omega⟩),jz]
theorem JZ(h0:st[n]?=some (.ro (ns.map W.int))):∃(M:Mc) (r:Nat) (t:MT) (pool:List Nat),m9 M r/\1<=r/\t.size<=80/\xF t/\pool.length=4/\(∀d∈pool,d∈LL)/\pool.Nodup/\Ci [.loc n] st=.ok (.tup [M.w,b_ t.po,.str pool]) st:=by
 suffices hh:k6 (A7 fun w bg=>(∃x,bg=st++x)/\undWs st.length [w]=true/\∃(M:Mc) (r:Nat) (t:MT) (pool:List Nat),w=.tup [M.w,b_ t.po,.str pool]/\m9 M r/\1<=r/\t.size<=80/\xF t/\pool.length=4/\(∀d∈pool,d∈LL)/\pool.Nodup) (Nt ([W.loc n].map some++List.replicate (8-1) none) st) by
  obtain⟨w,⟨M,r,t,pool,rfl,h1,h2,h3,h4,h5,h6,h7⟩,e⟩:=tD hh
  exact⟨M,r,t,pool,h1,h2,h3,h4,h5,h6,h7,e⟩
 obtain⟨c0,e0⟩:=oO h0 0
 obtain⟨ds,Q8,hdp,e1⟩:=qw c0 100003 4 #[0] st
 have e1:mx [.int c0,.int 4,.int 100003] st=_:=e1
 have hsh:(st++[au.lst (ds.map W.int)])[st.length]?=some (.lst (Ax ds)):=dF
 have ish:∀(i:Nat),i<4->∃d:Int,∀x:List au,bu #[5] (.int (i:Nat)) (st++[au.lst (ds.map W.int)]++x)=.ok (.int d) (st++[au.lst (ds.map W.int)]++x):=fun i hi=>by
  obtain⟨d,hd⟩:∃d,ds[i]?=some d:=⟨_,aj #[0]⟩
  exact⟨d,fun x=>vX (dI hsh) hd⟩
 obtain⟨d0,i0⟩:=ish 0 #[0]
 obtain⟨d1,i1⟩:=ish 1 #[0]
 obtain⟨d2,i2⟩:=ish 2 #[0]
 obtain⟨d3,i3⟩:=ish 3 #[0]
 have h1:∀x:List au,(st++[au.lst (ds.map W.int)]++x)[n]?=some (.ro (ns.map W.int)):=fun x=>dI (dI h0)
 generalize hs1:st++[au.lst (ds.map W.int)]=s1 at *
 have j0:bu #[5] (.int 0) s1=.ok (.int d0) s1:=by have:=i0 [];rwa[a8]at this
 have j1:bu #[5] (.int 1) s1=.ok (.int d1) s1:=by have:=i1 [];rwa[a8]at this
 have g1:s1[n]?=some (.ro (ns.map W.int)):=by have:=h1 [];rwa[a8]at this
 obtain⟨c1,e2'⟩:=oO g1 1
 obtain⟨pool,on,Ml,AV,ep⟩:=LS c1 200017 4 #[0] s1
 have ep:y9 [.int c1,.int 4,.int 200017] s1=_:=ep
 obtain⟨a,ha,ea⟩:=hW (q:=d0) (n:=4) #[0]
 have ea:d0%4=(a:Int):=ea
 obtain⟨b,hb,eb⟩:=hW (q:=d1) (n:=3) #[0]
 have eb:d1%3=(b:Int):=eb
 apply az
 ·exact bb (bU (am (bU (am kv (am bI aQ)) e0 rfl) (am bI (am bI aQ))) e1 rfl)
 apply az
 ·exact bb (bU (am (bU (am kv (am bI aQ)) e2' rfl) (am bI (am bI aQ))) ep rfl)
 apply az
 ·exact bb (bv bI (bv (bv kv bI j0) bI (jm #[3])) dM)
 rw[show(1:Int)+d0%4=((1+a:Nat):Int) by rw[ea,gc];rfl]
 have hpt:(pool.take b).length<=2:=by rw[aF];omega
 have esl:rk (ag 2) gM (eW (e2 iX (e2 bu (ag 1) (eI 1)) (eI 3))) [lO n,lO st.length,some (.str pool),iO (1+a:Nat),none,none,none,none] s1=.ok (.str (pool.take b)) s1:=by
  have c:j4 pool none (some (b:Int))=pool.take b:=m8 #[0]
  rw[<- c,<- eb]
  exact ny kv tu (nv (bv (bv kv bI j1) bI (jm #[3]))) (Ic (by show _<=1000000;omega))
 apply az
 ·exact bb (L_ esl #[0])
 generalize hN:D5 (pool.take b)=nm
 have hnl:nm.length<=2:=by rw[<- hN,Fb];exact hpt
 generalize u7:s1++[au.lst ((jM ((pool.take b).map fun c=>[c])).map W.str)]=s2
 have i2':∀x,bu #[5] (.int 2) (s2++x)=.ok (.int d2) (s2++x):=fun x=>by rw[<- u7,al];exact i2 _
 have i3':∀x,bu #[5] (.int 3) (s2++x)=.ok (.int d3) (s2++x):=fun x=>by rw[<- u7,al];exact i3 _
 have g2:s2[n]?=some (.ro (ns.map W.int)):=by rw[<- u7];exact dI g1
 obtain⟨nm2,TY,e4⟩:∃nm2:List Nat,((1+a)*(1+a)*2^nm2.length+(1+a)<=68/\nm2.length<=2)/\gz (eO (e2 ku (ag 3) (eI 4))) (bd 4 (rk (ag 4) gM (eW (eI 1)))) bW [lO n,lO st.length,some (.str pool),iO (1+a:Nat),some (.str nm),none,none,none] s2=.nx [lO n,lO st.length,some (.str pool),iO (1+a:Nat),some (.str nm2),none,none,none] s2:=by
  by_cases h:a=3
  ·subst h
   refine⟨j4 nm none (some 1),?_,dg (aY (bv kv bI (gj rfl))) (bb (ny kv tu (nv bI) (Ic (by show _<=1000000;omega))))⟩
   have hc:(j4 nm none (some 1)).length<=1:=by
    by_cases h1:1<=nm.length
    ·rw[show j4 nm none (some 1)=nm.take 1 from m8 (q:=1) h1,aF];omega
    ·match nm,h1 with
     |[],_=>exact bY 1
     |_::_,h=>simp at h
   have h1:(j4 nm none (some 1)).length=0\/(j4 nm none (some 1)).length=1:=by omega
   rcases h1 with e|e<;>rw[e]<;>decide
  ·refine⟨nm,?_,cz (aY (bv kv bI (gj (by rw[bp];omega)))) rfl⟩
   have h1:nm.length=0\/nm.length=1\/nm.length=2:=by omega
   have h2:a=0\/a=1\/a=2:=by omega
   rcases h1 with e|e|e<;>rw[e]<;>rcases h2 with rfl|rfl|rfl<;>decide
 apply az
 ·exact e4
 have sh:Bs (.int 1) (.int nm2.length) s2=.ok (.int (2^nm2.length:Nat)) s2:=Hj #[0]
 have x2:(1+a)*(1+a)<=4*4:=Nat.mul_le_mul #[0] #[0]
 have eE:e2 cN (ag 3) (e2 jc (e2 jc (ag 3) (ag 3)) (e2 Bs (eI 1) (bJ dG (ah (ag 4) aD)))) [lO n,lO st.length,some (.str pool),iO (1+a:Nat),some (.str nm2),none,none,none] s2=.ok (.int (((1+a)+(1+a)*(1+a)*2^nm2.length:Nat):Int)) s2:=by
  rw[show(((1+a)+(1+a)*(1+a)*2^nm2.length:Nat):Int)=((1+a:Nat):Int)+(((1+a)*(1+a)*2^nm2.length:Nat):Int) by omega]
  exact bv kv (bv (bv kv kv (JY #[0])) (bv bI (cq kn (zW (by show _<=1000000;omega))) sh) (JY #[0])) dM
 apply az
 ·exact bb eE
 generalize hE:(1+a)+(1+a)*(1+a)*2^nm2.length=E
 obtain⟨c2,e5⟩:=oO g2 2
 obtain⟨ds2,hdl2,_,e6⟩:=qw c2 300007 E #[0] s2
 have hd2:(s2++[au.lst (ds2.map W.int)])[s2.length]?=some (.lst (Ax ds2)):=dF
 obtain⟨M,hMn,hM,e7⟩:=Ea nm2 (1+a) (1+a) s2.length ds2 _ #[0] #[0] #[0] #[0] (aA _) hd2 (by rw[hdl2,<- hE,Nat.mul_comm (2^_)];omega)
 have e5:mw [.loc n,.int 2] s2=_:=e5
 have e6:mx [.int c2,.int E,.int 300007] s2=_:=e6
 apply az
 ·exact bb (bU (am kv (am kv (am kv (am (bU (am (bU (am kv (am bI aQ)) e5 rfl) (am kv (am bI aQ))) e6 rfl) aQ)))) e7 rfl)
 generalize hs3:s2++[au.lst (ds2.map W.int)]=s3
 have i2'':bu #[5] (.int 2) s3=.ok (.int d2) s3:=by rw[<- hs3];exact i2' _
 have i3'':bu #[5] (.int 3) s3=.ok (.int d3) s3:=by rw[<- hs3];exact i3' _
 have g3:s3[n]?=some (.ro (ns.map W.int)):=by rw[<- hs3];exact dI g2
 obtain⟨q,hq,eq⟩:=hW (q:=d2) (n:=8) #[0]
 have eq:d2%8=(q:Int):=eq
 apply az
 ·exact bb (bv (bv kv bI i2'') bI (jm #[3]))
 rw[eq]
 obtain⟨hi,hh,e8⟩:∃hi:Nat,hi<=40/\gz (eO (e2 ku (e2 iX (e2 bu (ag 1) (eI 3)) (eI 4)) (eI 1))) (bd 7 (e2 iX (e2 bu (ag 1) (eI 2)) (eI 41))) bW [lO n,lO st.length,some (.str pool),iO (1+a:Nat),some (.str nm2),iO E,some M.w,iO q] s3=.nx [lO n,lO st.length,some (.str pool),iO (1+a:Nat),some (.str nm2),iO E,some M.w,iO hi] s3:=by
  by_cases h:d3%4=1
  ·obtain⟨q2,hq2,eq2⟩:=hW (q:=d2) (n:=41) #[0]
   have eq2:d2%41=(q2:Int):=eq2
   refine⟨q2,by omega,?_⟩
   rw[<- eq2]
   exact dg (aY (bv (bv (bv kv bI i3'') bI (jm #[3])) bI (gj (by rw[du];exact h)))) (bb (bv (bv kv bI i2'') bI (jm #[3])))
  ·exact⟨q,by omega,cz (aY (bv (bv (bv kv bI i3'') bI (jm #[3])) bI (gj (by rw[bp];exact h)))) rfl⟩
 apply az
 ·exact e8
 obtain⟨c3,e9⟩:=oO g3 3
 obtain⟨ds3,hdl3,_,e10⟩:=qw c3 400009 hi #[0] s3
 have hd3:(s3++[au.lst (ds3.map W.int)])[s3.length]?=some (.lst (Ax ds3)):=dF
 obtain⟨ps,S,sz,lk,hg,hS,hpsl,hpm,e11⟩:=Ff (pool:=pool) hd3 #[0] #[0]
 obtain⟨t,rfl,ht⟩:=ND Ml AV hg hS hpm
 have e9:mw [.loc n,.int 3] s3=_:=e9
 have e10:mx [.int c3,.int hi,.int 400009] s3=_:=e10
 rw[MT.po_len]at hpsl
 apply bP
 ·exact eQ (am kv (am (bU (am (bU (am (bU (am kv (am bI aQ)) e9 rfl) (am kv (am bI aQ))) e10 rfl) kn) e11 rfl) kn)) (ao rfl)
 ·exact⟨_,_,rfl,⟨_,by rw[<- hs3,<- u7,<- hs1,al,al,al]⟩,by simp[undWs,Js,my,W.und],M,1+a,t,pool,rfl,hM,by omega,by omega,ht,on,AV,Ml⟩
theorem xG(h0:st[n]?=some (.ro (ns.map W.int)))(k:Int){t:MT}(on:pool.length=4)(AV:∀d∈pool,d∈LL)(Ml:pool.Nodup)(mo:Nat)(Wt:0<mo) :
  ∃p:Pn,p.ok t.size/\(p=.back\/p=.again->8<mo)/\rK [.loc n,.int k,.int (mo:Nat),b_ t.po,.str pool] st=.ok p.w st:=by
 suffices hh:k6 (A7 fun w bg=>(∃x,bg=st++x)/\undWs st.length [w]=true/\∃p:Pn,w=p.w/\p.ok t.size/\(p=.back\/p=.again->8<mo)) (Nu ([W.loc n,.int k,.int (mo:Nat),b_ t.po,.str pool].map some++List.replicate (9-5) none) st) by
  obtain⟨w,⟨p,rfl,h1,h2⟩,e⟩:=tD hh
  exact⟨p,h1,h2,e⟩
 obtain⟨c0,e0⟩:=oO h0 (4+k)
 obtain⟨ds,Q8,hdp,e1⟩:=qw c0 (500009+101*k) 12 #[0] st
 have e1:mx [.int c0,.int 12,.int (500009+101*k)] st=_:=e1
 have hsh:(st++[au.lst (ds.map W.int)])[st.length]?=some (.lst (Ax ds)):=dF
 have ish:∀(i:Nat),i<12->∃d:Int,∀x:List au,bu #[5] (.int (i:Nat)) (st++[au.lst (ds.map W.int)]++x)=.ok (.int d) (st++[au.lst (ds.map W.int)]++x):=fun i hi=>by
  obtain⟨d,hd⟩:∃d,ds[i]?=some d:=⟨_,aj #[0]⟩
  exact⟨d,fun x=>vX (dI hsh) hd⟩
 obtain⟨d0,i0⟩:=ish 0 #[0]
 obtain⟨d1,i1⟩:=ish 1 #[0]
 obtain⟨d2,i2⟩:=ish 2 #[0]
 obtain⟨d3,i3⟩:=ish 3 #[0]
 obtain⟨d4,i4⟩:=ish 4 #[0]
 obtain⟨d5,i5⟩:=ish 5 #[0]
 generalize hs1:st++[au.lst (ds.map W.int)]=s1 at *
 have j5:bu #[5] (.int 5) s1=.ok (.int d5) s1:=by have:=i5 [];rwa[a8]at this
 obtain⟨m,hm,em⟩:=hW (q:=d5) (n:=6) #[0]
 have em:d5%6=(m:Int):=em
 apply az
 ·exact bb (bU (am (bU (am kv (am (bv bI kv dM) aQ)) e0 rfl) (am bI (am (bv bI (bv bI kv (sg (.inl #[3]))) dM) aQ))) e1 rfl)
 have hsl:wE #[5] (some 6) (some ((6:Int)+d5%6)) s1=.ok (.loc s1.length) (s1++[.lst (Ax ((ds.drop 6).take m))]):=by
  rw[MF (bX hsh),em,show((6:Int)+(m:Int))=((6+m:Nat):Int)from rfl,show(6:Int)=((6:Nat):Int)from rfl,Ik (by unfold Ax;rw[aE];omega) #[0]]
  unfold Ax
  rw[<- nJ,<- nI,show 6+m-6=m by omega]
 obtain⟨ps,S,sz,lk,hg,hS,hpsl,hpm,e2'⟩:=Ff (st:=s1++[.lst (Ax ((ds.drop 6).take m))]) (nd:=s1.length) (ds:=(ds.drop 6).take m) (pool:=pool) dF (by rw[aF,cf];omega) #[0]
 obtain⟨x,rfl,hx⟩:=ND Ml AV hg hS hpm
 have hxs:x.size<=10:=by rw[MT.po_len,aF,cf]at hpsl;omega
 generalize u7:s1++[au.lst (Ax ((ds.drop 6).take m))]=s2 at *
 have i0':bu #[5] (.int 0) s2=.ok (.int d0) s2:=by rw[<- u7];exact i0 _
 have i1':bu #[5] (.int 1) s2=.ok (.int d1) s2:=by rw[<- u7];exact i1 _
 have i2':bu #[5] (.int 2) s2=.ok (.int d2) s2:=by rw[<- u7];exact i2 _
 have i3':∀y,bu #[5] (.int 3) (s2++y)=.ok (.int d3) (s2++y):=fun y=>by rw[<- u7,al];exact i3 _
 have i4':∀y,bu #[5] (.int 4) (s2++y)=.ok (.int d4) (s2++y):=fun y=>by rw[<- u7,al];exact i4 _
 have hs:s2=st++([au.lst (ds.map W.int)]++[.lst (Ax ((ds.drop 6).take m))]):=by rw[<- u7,<- hs1,al]
 apply az
 ·exact bb (bU (am (ny kv (nv bI) (nv (bv bI (bv (bv kv bI j5) bI (jm #[3])) dM)) hsl) kn) e2' rfl)
 obtain⟨kd,hkd,ek⟩:=hW (q:=d0) (n:=mo) Wt
 apply az
 ·exact bb (bv (bv kv bI i0') kv (jm #[0]))
 rw[ek]
 have hln:dG [b_ t.po] s2=.ok (.int (t.size:Nat)) s2:=by have:=gQ t.po s2;rwa[MT.po_len]at this
 by_cases h8:kd=8
 ·subst h8
  apply eR
  ·exact aY (bv kv bI (gj rfl))
  apply eG
  ·exact eQ (am bI aQ) (ao rfl)
  ·exact⟨_,_,rfl,⟨_,hs⟩,rfl,.back,rfl,trivial,fun _=>by omega⟩
 apply bC
 ·exact aY (bv kv bI (gj (by rw[bp];omega)))
 apply bV
 by_cases h9:kd=9
 ·subst h9
  apply eR
  ·exact aY (bv kv bI (gj rfl))
  apply eG
  ·exact eQ (am bI aQ) (ao rfl)
  ·exact⟨_,_,rfl,⟨_,hs⟩,rfl,.again,rfl,trivial,fun _=>by omega⟩
 apply bC
 ·exact aY (bv kv bI (gj (by rw[bp];omega)))
 apply bV
 by_cases h7:kd=7\/t.size=0
 ·apply eR
  ·refine Ie (a:=decide (kd=7)) (b:=decide (t.size=0)) (aY (bv kv bI (gj ?_))) (aY (bv (cq kn hln) bI (gj ?_)))|>.trans ?_
   ·rw[pQ,du,mR];omega
   ·rw[pQ,du,mR];omega
   ·rcases h7 with h|h
    ·rw[bF h];rfl
    ·rw[bF h,Bool.or_true]
  apply eG
  ·exact eQ (am bI kn) (ao rfl)
  ·exact⟨_,_,rfl,⟨_,hs⟩,by simp[undWs,my,W.und],.wh x,rfl,⟨hxs,hx⟩,fun e=>by rcases e with e|e<;>cases e⟩
 apply bC
 ·refine m6 (aY (bv kv bI (gj ?_))) (aY (bv (cq kn hln) bI (gj ?_)))
  ·rw[bp];omega
  ·rw[bp];omega
 apply bV
 have ht0:0<t.size:=by omega
 obtain⟨q,hq,eq⟩:=hW (q:=64*d1+d2) (n:=t.size) ht0
 apply az
 ·exact bb (bv (bv (bv bI (bv kv bI i1') (sg (.inl #[3]))) (bv kv bI i2') dM) (cq kn hln) (jm #[0]))
 rw[eq]
 by_cases h4:kd<4
 ·obtain⟨m3,hm3,em3⟩:=hW (q:=d3) (n:=4) #[0]
  have em3:d3%4=(m3:Int):=em3
  obtain⟨c,hc⟩:∃c,pool[m3]?=some c:=⟨_,aj #[0]⟩
  have hcL:=AV c (cy hc)
  have hix:∀s,bu (.str pool) (.int (d3%4)) s=.ok (.str [c]) s:=fun s=>by rw[em3];exact Ib (by show _<=1000000;omega) (fW hc)
  have hk2:∃b:Bool,∀s:List au,s[s2.length]?=some (.lst [.str [112,117,116],.str [116,97,107,101]])->bu (.loc s2.length) (.int ((kd:Int)/2)) s=.ok (V6 b) s:=by
   obtain rfl|rfl|rfl|rfl:kd=0\/kd=1\/kd=2\/kd=3:=by omega
   ·exact⟨true,fun s hs=>jN (bX hs) rfl⟩
   ·exact⟨true,fun s hs=>jN (bX hs) rfl⟩
   ·exact⟨false,fun s hs=>jN (bX hs) rfl⟩
   ·exact⟨false,fun s hs=>jN (bX hs) rfl⟩
  obtain⟨b,hb⟩:=hk2
  apply eR
  ·exact aY (bv kv bI (lW (bF #[0])))
  apply eG
  ·exact eQ (am (bv (qh (am bI (am bI aQ)) (ao rfl)) (bv kv bI (jm #[3])) (hb _ dF)) (am kv (am (bv kv (bv (bv kv bI (i3' _)) bI (jm #[3])) (hix _)) aQ))) (ao rfl)
  ·exact⟨_,_,rfl,⟨_,by rw[hs,al]⟩,by cases b<;>rfl,.mk b q c,rfl,⟨hq,hcL⟩,fun e=>by rcases e with e|e<;>cases e⟩
 apply bC
 ·exact aY (bv kv bI (lW (a7 #[0])))
 apply bV
 have hk2:∃b:Bool,∀s:List au,s[s2.length]?=some (.lst [.str [108,101,102,116],.str [114,105,103,104,116]])->bu (.loc s2.length) (.int (d4%2)) s=.ok (vx b) s:=by
  obtain⟨m4,hm4,em4⟩:=hW (q:=d4) (n:=2) #[0]
  have em4:d4%2=(m4:Int):=em4
  rw[em4]
  obtain rfl|rfl:m4=0\/m4=1:=by omega
  ·exact⟨true,fun s hs=>jN (bX hs) rfl⟩
  ·exact⟨false,fun s hs=>jN (bX hs) rfl⟩
 obtain⟨b,hb⟩:=hk2
 apply bP
 ·exact eQ (am bI (am kv (am (bv (qh (am bI (am bI aQ)) (ao rfl)) (bv (bv kv bI (i4' _)) bI (jm #[3])) (hb _ dF)) kn))) (ao rfl)
 ·exact⟨_,_,rfl,⟨_,by rw[hs,al]⟩,by cases b<;>simp[undWs,my,W.und,vx],.br q b x,rfl,⟨hq,hxs,hx⟩,fun e=>by rcases e with e|e<;>cases e⟩
section
variable{M:Mc}{z':List au}{a b:Nat}{t:MT}{sd tk:List Dd}{d:Dd}
theorem NE{c:Nat}{B:Bool}(hm:(if B then kO else jO) [.loc L,.int (q:Nat),.str [c]] z=.ok .non z')(hz:z[L]?=some (.obj "Kept" (kF M t k a b)))(ht:iL z z' [.non]=z'):ij [.loc L,(Pn.mk B q c).w] z=.ok .non z':=by
 rw[<- ht]
 cases B with
 |true=>exact js (sf (dg (aY (bv kx bI (dY rfl))) (tw (hZ kv hz rfl (am kx (am kx aQ)) rfl hm))))
 |false=>exact js (cZ (cz (aY (bv kx bI (dY rfl))) c9) (sf (dg (aY (bv kx bI (dY rfl))) (tw (hZ kv hz rfl (am kx (am kx aQ)) rfl hm)))))
theorem TQ{s:Bool}{x:MT}(hm:ip [.loc L,.int (q:Nat),vx s,b_ x.po] z=.ok .non z')(hz:z[L]?=some (.obj "Kept" (kF M t k a b)))(ht:iL z z' [.non]=z'):ij [.loc L,(Pn.br q s x).w] z=.ok .non z':=by
 rw[<- ht]
 exact js (cZ #[9] (cZ #[9] (sf (dg (aY (bv kx bI (dY rfl))) (tw (hZ kv hz rfl (am kx (am kx (am kx aQ))) rfl hm))))))
theorem NF{x:MT}(hm:gk [.loc L,b_ x.po] z=.ok .non z')(hz:z[L]?=some (.obj "Kept" (kF M t k a b)))(ht:iL z z' [.non]=z'):ij [.loc L,(Pn.wh x).w] z=.ok .non z':=by
 rw[<- ht]
 exact js (cZ #[9] (cZ #[9] (cZ #[9] (sf (dg (aY (bv kx bI (dY rfl))) (tw (hZ kv hz rfl (am kx aQ) rfl hm)))))))
theorem L'(hm:gl [.loc L] z=.ok .non z')(hz:z[L]?=some (.obj "Kept" (kF M t k a b)))(ht:iL z z' [.non]=z'):ij [.loc L,Pn.back.w] z=.ok .non z':=by
 rw[<- ht]
 exact js (cZ #[9] (cZ #[9] (cZ #[9] (cZ #[9] (sf (dg (aY (bv kx bI (dY rfl))) (tw (hZ kv hz rfl aQ rfl hm))))))))
theorem J0(hm:hX [.loc L] z=.ok .non z')(hz:z[L]?=some (.obj "Kept" (kF M t k a b)))(ht:iL z z' [.non]=z'):ij [.loc L,Pn.again.w] z=.ok .non z':=by
 rw[<- ht]
 exact js (cZ #[9] (cZ #[9] (cZ #[9] (cZ #[9] (cZ #[9] (tw (hZ kv hz rfl aQ rfl hm)))))))
theorem j'.fr(h:j' M L a b t k sd tk z)(hL:z'[L]?=z[L]?)(ha:z'[a]?=z[a]?)(hb:z'[b]?=z[b]?):j' M L a b t k sd tk z':=⟨hL.trans h.ob,ha.trans h.s,hb.trans h.u,h.la,h.lb,h.ab,h.ls,h.lu⟩
theorem NG(hM:m9 M n)(hn:1<=n){p:Pn}(hp:p.ok t.size)(hb:p≠.back)(hA:p≠.again)(AZ:t.size<=100)(UI:xF t):∃(t2:MT) (s:List Nat) (ws:List W),xF t2/\p.w=.tup (.str s::ws)/\0<ws.length/\(s==[98,97,99,107])=false/\(s==[97,103,97,105,110])=false/\(∀z,qu [b_ t.po,p.w] z=.ok (b_ t2.po) z) /\
  (t2.size<=100->∃d:Dd,d.ok/\d.a=t/\d.b=t2/\∀{L a b k:Nat} {sd tk:List Dd} {z1:List au},j' M L a b t k sd tk z1->sd.length<1000->∃z2,ij [.loc L,p.w] z1=.ok .non z2/\j' M L a z1.length t2 (d.ct M) (d::sd) [] z2/\K3 L a b z1 z2):=by
 cases p with
 |back=>exact absurd rfl hb
 |again=>exact absurd rfl hA
 |wh x=>
  exact⟨x,[119,104,111,108,101],_,hp.2,rfl,ja 0,rfl,rfl,fun z=>Ek _ x z,fun h=>⟨.wh t x,⟨AZ,h⟩,rfl,rfl,fun hk1 hl=>by
   obtain⟨z2,e2',hk2,h3⟩:=xE hM hn AZ h hk1 hl
   exact⟨z2,NF e2' hk1.ob (jn _ hk1 hk2),hk2,h3⟩⟩⟩
 |mk B q c=>
  obtain⟨hq,hcL⟩:=hp
  obtain⟨C,l,r,m,rfl,rfl⟩:=v3 t q hq
  obtain⟨g1,g2,gm⟩:=UI.at
  refine⟨plug C (.nd l r (nm' B m c)),if B then[112,117,116]else[116,97,107,101],_,UI.plug g1 g2 (by cases B;exact gm.take c;exact gm.put hcL),rfl,ja 1,by cases B<;>rfl,by cases B<;>rfl,fun z=>Em C l r m B c #[0] gm z,fun h=>?_⟩
  cases B with
  |true=>
   exact⟨.mk C l r m l r (g9 (m++[c])) none,⟨AZ,h,fun _=>rfl,fun _=>rfl⟩,rfl,rfl,fun hk1 hl=>by
    obtain⟨z2,e2',hk2,h3⟩:=Eg hM hn AZ h gm.2 (by have:=gm.ln;omega) hcL hk1 hl
    exact⟨z2,NE (B:=true) e2' hk1.ob (jn _ hk1 hk2),hk2,h3⟩⟩
  |false=>
   exact⟨.mk C l r m l r (m.filter fun d=>d != c) none,⟨AZ,h,fun _=>rfl,fun _=>rfl⟩,rfl,rfl,fun hk1 hl=>by
    obtain⟨z2,e2',hk2,h3⟩:=CD hM hn AZ h (by have:=gm.ln;omega) hk1 hl
    exact⟨z2,NE (B:=false) e2' hk1.ob (jn _ hk1 hk2),hk2,h3⟩⟩
 |br q s x=>
  obtain⟨hq,hx,NH⟩:=hp
  obtain⟨C,l,r,m,rfl,rfl⟩:=v3 t q hq
  obtain⟨g1,g2,gm⟩:=UI.at
  exact⟨plug C #[14],[98,114,97,110,99,104],_,UI.plug (by cases s;exact g1;exact NH) (by cases s;exact NH;exact g2) gm,rfl,ja 2,rfl,rfl,fun z=>El C l r x m s #[0] #[0] z,fun h=>⟨.mk C l r m (if s then x else l) (if s then r else x) m (some s),⟨AZ,h,fun e=>by cases s<;>first|rfl|exact absurd rfl e,fun e=>by cases s<;>first|rfl|exact absurd rfl e⟩,rfl,rfl,fun hk1 hl=>by
   obtain⟨z2,e2',hk2,h3⟩:=GA hM hn AZ #[0] h hk1 hl
   exact⟨z2,TQ e2' hk1.ob (jn _ hk1 hk2),hk2,h3⟩⟩⟩
end
def Vx(d:Dd):Prop:=d.ok/\xF d.a/\xF d.b
def En:MT->List Dd->Prop
 |_,[]=>True
 |t,d::ds=>d.a=t/\Vx d/\En d.b ds
def oU:MT->List Dd->MT
 |t,[]=>t
 |_,d::ds=>oU d.b ds
theorem En.app:∀{t:MT} {ds:List Dd} {d:Dd},En t ds->d.a=oU t ds->Vx d->En t (ds++[d])
 |_,[],d,_,h,h2=>⟨h,h2,trivial⟩
 |_,e::ds,d,⟨h1,h2,h3⟩,h,h4=>⟨h1,h2,En.app h3 h h4⟩
theorem t7:∀(t:MT) (ds:List Dd) (d:Dd),oU t (ds++[d])=d.b
 |_,[],d=>rfl
 |_,e::ds,d=>t7 e.b ds d
theorem En.take:∀{t:MT} {ds:List Dd} (i:Nat),En t ds->En t (ds.take i)
 |_,ds,0,_=>by rw[qJ];trivial
 |_,[],i+1,_=>trivial
 |_,e::ds,i+1,⟨h1,h2,h3⟩=>⟨h1,h2,En.take i h3⟩
def t8(t:MT)(ds:List Dd)(i:Nat):MT:=oU t (ds.take i)
theorem Eo:∀{t:MT} {ds:List Dd} {i:Nat} {d:Dd},En t ds->ds[i]?=some d->d.a=t8 t ds i/\d.b=t8 t ds (i+1)/\Vx d
 |_,[],i,d,_,h=>by simp at h
 |t,e::ds,0,d,⟨h1,h2,h3⟩,h=>by cases h;exact⟨h1,rfl,h2⟩
 |t,e::ds,i+1,d,⟨h1,h2,h3⟩,h=>Eo (t:=e.b) (i:=i) h3 (by simpa using h)
theorem xH:∀{t:MT} {ds:List Dd},En t ds->xF t->t.size<=100->∀i,xF (t8 t ds i)/\(t8 t ds i).size<=100
 |_,ds,_,h,h2,0=>by unfold t8;rw[qJ];exact⟨h,h2⟩
 |_,[],_,h,h2,i+1=>⟨h,h2⟩
 |t,e::ds,⟨_,h2,h3⟩,_,_,i+1=>xH (t:=e.b) h3 h2.2.2 (Dd.ok_b h2.1) i
def q_(t:MT)(ds:List Dd):List W:=(List.range (ds.length+1)).map fun i=>b_ (t8 t ds i).po
theorem sy{t:MT}{ds:List Dd}{i:Nat}(h:i<=ds.length):(q_ t ds)[i]?=some (b_ (t8 t ds i).po):=by
 unfold q_;rw[aG,gH #[0]];rfl
theorem ma(t:MT)(ds:List Dd):(q_ t ds).length=ds.length+1:=by unfold q_;rw[aE,ng]
theorem t9(t:MT)(ds:List Dd):t8 t ds ds.length=oU t ds:=by unfold t8;rw[cJ]
theorem Fl(t:MT)(ds:List Dd)(d:Dd)(i:Nat)(hi:i<=ds.length):(q_ t ds).take (i+1)++[b_ d.b.po]=q_ t (ds.take i++[d]):=by
 refine iI fun j=>?_
 have l1:((q_ t ds).take (i+1)).length=i+1:=by rw[aF,ma];omega
 have l2:(ds.take i++[d]).length=i+1:=by rw[ai,aF,bt];omega
 by_cases h:j<i+1
 ·rw[aR #[0],cw h,sy #[0],sy #[0]]
  unfold t8
  rw[b9 (by rw[aF];omega),mQ,gb #[0]]
 ·by_cases h2:j=i+1
  ·subst h2
   rw[aS #[0],l1,Nat.sub_self,sy #[0]]
   unfold t8
   rw[bj #[0],t7];rfl
  ·rw[bD (by rw[ai,l1,bt];omega),bD (by rw[ma,l2];omega)]
section
variable{M:Mc}{z':List au}{a b:Nat}{t:MT}{sd tk ds:List Dd}{d:Dd}
theorem CH(hM:m9 M n)(hn:1<=n)(hc:En t ds)(hl:ds.length<900)(hz:j' M L a b (t8 t ds i) k (ds.take i).reverse (ds.drop i) z) :
  (∀j,i=j+1->i<=ds.length->∃z' k',ij [.loc L,Pn.back.w] z=.ok .non z'/\j' M L a b (t8 t ds j) k' (ds.take j).reverse (ds.drop j) z'/\K3 L a b z z'/\z'.length=z.length) /\
  (i<ds.length->∃z' k',ij [.loc L,Pn.again.w] z=.ok .non z'/\j' M L a b (t8 t ds (i+1)) k' (ds.take (i+1)).reverse (ds.drop (i+1)) z'/\K3 L a b z z'/\z'.length=z.length):=by
 refine⟨fun j hj hi=>?_,fun hi=>?_⟩
 ·subst hj
  obtain⟨d,hd⟩:∃d,ds[j]?=some d:=⟨_,aj hi⟩
  obtain⟨d1,d2,d3⟩:=Eo hc hd
  rw[mi hd,gJ,<- d2]at hz
  obtain⟨z',e,h,h3,hl2⟩:=Fj hM hn d3.1 hz (by rw[cf];omega)
  refine⟨z',d.tn.ct M,L' e hz.ob (mj hl2),?_,h3,hl2⟩
  rw[dD hi,<- d1]
  have:ds[j]=d:=by rw[aj hi]at hd;exact bf hd
  rw[this];exact h
 ·obtain⟨d,hd⟩:∃d,ds[i]?=some d:=⟨_,aj hi⟩
  obtain⟨d1,d2,d3⟩:=Eo hc hd
  have hg:ds[i]=d:=by rw[aj hi]at hd;exact bf hd
  rw[dD hi,hg,<- d1]at hz
  obtain⟨z',e,h,h3,hl2⟩:=JX hM hn d3.1 hz (by rw[gI,aF];omega)
  refine⟨z',d.ct M,J0 e hz.ob (mj hl2),?_,h3,hl2⟩
  rw[mi hd,gJ,<- d2];exact h
theorem K3.refl:K3 L a b z z:=⟨aA _,fun _ _ _ _ _=>rfl⟩
theorem K3.trans{Wd:List au}(h:K3 L a b z z')(h2:K3 L a b z' Wd):K3 L a b z Wd:=⟨aN h.1 h2.1,fun i hi h3 h4 h5=>(h2.2 i (aL hi h.1) h3 h4 h5).trans (h.2 i hi h3 h4 h5)⟩
theorem qY(hM:m9 M n)(hn:1<=n)(hc:En t ds)(hl:ds.length<900)(hg:xF t)(A8:t.size<=100){F e:Nat}(hF:z[F]?=some (.lst (q_ t ds)))(nF:F≠L/\F≠a/\F≠b)(hi:i<=ds.length)(he:e<=ds.length)(hz:j' M L a b (t8 t ds i) k (ds.take i).reverse (ds.drop i) z) :
  ∃z' k',vw [.loc L,M.w,.loc F,.int (i:Nat),.int (e:Nat)] z=.ok (.bl true) z'/\j' M L a b (t8 t ds e) k' (ds.take e).reverse (ds.drop e) z'/\K3 L a b z z'/\z'.length=z.length:=by
 suffices hh:k6 (A7 fun w z'=>w=.bl true/\∃k',j' M L a b (t8 t ds e) k' (ds.take e).reverse (ds.drop e) z'/\K3 L a b z z'/\z'.length=z.length) (Nw ([W.loc L,M.w,.loc F,.int (i:Nat),.int (e:Nat)].map some++List.replicate (7-5) none) z) by
  obtain⟨w,z',eq,rfl,k',h1,h2,h3⟩:=hh
  refine⟨z',k',?_,h1,h2,h3⟩
  have:=js (N:=7) eq
  rwa[mj h3]at this
 refine yZ (fun m ρ s=>∃(j apply:Nat) (o5 o6:Option W),m=(j-e)+(e-j)/\ρ=[lO L,some M.w,lO F,iO (j:Nat),iO (e:Nat),o5,o6]/\j<=ds.length/\j' M L a b (t8 t ds j) apply(ds.take j).reverse (ds.drop j) s/\K3 L a b z s/\s.length=z.length) ((i-e)+(e-i)) ⟨i,k,none,none,rfl,rfl,hi,hz,K3.refl,rfl⟩ ?_ ?_
 ·rintro m ρ s ⟨j,kk',o5,o6,rfl,rfl,hj,hk,h3,hsl⟩
  have hFs:s[F]?=some (.lst (q_ t ds)):=(h3.2 F (d_ hF) nF.1 nF.2.1 nF.2.2).trans hF
  by_cases h:j=e
  ·subst h
   exact .inl (aY (bv kv kv (E8 #[15])))
  refine .inr ⟨aY (bv kv kv (E8 (by rw[fj,bp];omega))),?_⟩
  obtain⟨sB,sA⟩:=CH hM hn hc hl hk
  have one:∀(p:Pn) (q:Nat) (s':List au) (k2:Nat),q<=ds.length->(q-e)+(e-q)<(j-e)+(e-j)->ij [.loc L,p.w] s=.ok .non s'->j' M L a b (t8 t ds q) k2 (ds.take q).reverse (ds.drop q) s'->K3 L a b s s'->s'.length=s.length ->
    k6 (KB fun ρ2 c_=>∃m,m<(j-e)+(e-j)/\∃(j apply:Nat) (o5 o6:Option W),m=(j-e)+(e-j)/\ρ2=[lO L,some M.w,lO F,iO (j:Nat),iO (e:Nat),o5,o6]/\j<=ds.length/\j' M L a b (t8 t ds j) apply(ds.take j).reverse (ds.drop j) c_/\K3 L a b z c_/\c_.length=z.length)
     ((aM (gz (F8 (eO (iB (b7 2 ij (ah (ag 0) (ah (ag 5) aD))))) (A6 (eO (b7 4 qv (ah (ag 0) (ah (ag 1) (ah (e2 bu (ag 2) (ag 6)) (ah (ag 6) aD)))))))) (cQ (eC (.bl false))) bW) (bd 3 (ag 6))) [lO L,some M.w,lO F,iO (j:Nat),iO (e:Nat),some p.w,iO (q:Nat)] s):=fun p q s' k2 hq hm ed hk2 h3' hl2=>by
   have hFs':s'[F]?=some (.lst (q_ t ds)):=(h3'.2 F (d_ hFs) nF.1 nF.2.1 nF.2.2).trans hFs
   obtain⟨_,AZ⟩:=xH hc hg A8 q
   apply az
   ·exact cz (m6 (aY (fA (bU (am kv kn) ed rfl) rfl)) (nS (aY (bU (am kv (am kv (am (bv kv kv (jN (bX hFs') (fW (sy hq)))) kn))) (qX hM hn #[0] hk2 q) rfl)) rfl)) c9
   apply dh
   ·exact bb kv
   ·exact⟨_,_,rfl,_,hm,q,k2,_,_,rfl,rfl,hq,hk2,h3.trans h3',hl2.trans hsl⟩
  apply az
  ·exact bb (w:=Pn.back.w) (eQ (am bI aQ) (ao rfl))
  apply az
  ·exact bb (w:=.int ((j:Int)-1)) (bv kv bI rfl)
  by_cases hje:j<e
  ·obtain⟨s',k2,ed,hk2,h3',hl2⟩:=sA #[0]
   apply az
   ·exact dg (aY (bv kv kv (lW (bF #[0])))) (cZ (bb (w:=Pn.again.w) (eQ (am bI aQ) (ao rfl))) (bb (bv kv bI dM)))
   exact one .again (j+1) s' k2 #[0] #[0] ed hk2 h3' hl2
  ·obtain⟨q,hq⟩:∃q,j=q+1:=⟨j-1,by omega⟩
   obtain⟨s',k2,ed,hk2,h3',hl2⟩:=sB q hq hj
   apply bC
   ·exact aY (bv kv kv (lW (a7 #[0])))
   apply bV
   rw[show((j:Int)-1)=((q:Nat):Int) by omega]
   exact one .back q s' k2 #[0] #[0] ed hk2 h3' hl2
 ·rintro m ρ s ⟨j,kk',o5,o6,rfl,rfl,hj,hk,h3,hsl⟩ hf
  have hje:j=e:=by
   by_cases h:j=e
   ·exact h
   ·have:=aY (bv (f:=Kz) (fa:=ag 3) (fb:=ag 4) (ρ:=[lO L,some M.w,lO F,iO (j:Nat),iO (e:Nat),o5,o6]) (st:=s) kv kv (E8 (k:=true) (by rw[fj,bp];omega)))
    rw[this]at hf;cases hf
  subst hje
  apply bP
  ·exact bI
  ·exact⟨_,_,rfl,rfl,kk',hk,h3,hsl⟩
end
section
variable{M:Mc}{z':List au}{a b:Nat}{t:MT}{sd tk ds:List Dd}{d:Dd}
theorem zi{c m e:Str}{fs:FA}{z1 z2 z3:List au}{fl:List (Str×W)}(h:fo ρ z=.ok (.loc n) z1)(h3:z1[n]?=some (.obj c fl))(hm:fl.lookup m=none)(ha:fs ρ z1=.ok ws z2)(hn:ws.length+1=k)(hF:F (.loc n::ws) z2=.ex e z3):ie c m k F fo fs ρ z=.ex e z3:=by
 unfold ie
 rw[h];simp only[R.bind_ok,nQ,h3]
 rw[aK ⟨trivial,hm⟩,ha];simp only[R.bind_ok]
 rw[aK hn,hF]
theorem Ma(hz:j' M L a b t k [] tk z):ij [.loc L,Pn.back.w] z=.ex "NothingDone" z:=by
 have e:gl [.loc L] z=.ex "NothingDone" z:=vV (N:=2) (body:=qt) (ws:=[.loc L]) (eR (aY (bv (cq (am (dN kv hz.ob rfl) aQ) (oG (bX hz.s))) bI (gj rfl))) (rE ⟨_,_,rfl,[],(a8 _).symm⟩))
 exact vV (N:=2) (body:=Jn) (ws:=[.loc L,Pn.back.w]) (az #[9] (az #[9] (az #[9] (az #[9] (DQ (dg (aY (bv kx bI (dY rfl))) (BL (zi kv hz.ob rfl aQ rfl e))) ⟨_,_,rfl,[],(a8 _).symm⟩)))))
theorem CI(hz:j' M L a b t k sd [] z):ij [.loc L,Pn.again.w] z=.ex "NothingDone" z:=by
 have e:hX [.loc L] z=.ex "NothingDone" z:=vV (N:=2) (body:=oN) (ws:=[.loc L]) (eR (aY (bv (cq (am (dN kv hz.ob rfl) aQ) (oG (bX hz.u))) bI (gj rfl))) (rE ⟨_,_,rfl,[],(a8 _).symm⟩))
 exact vV (N:=2) (body:=Jn) (ws:=[.loc L,Pn.again.w]) (az #[9] (az #[9] (az #[9] (az #[9] (az #[9] (dh (BL (zi kv hz.ob rfl aQ rfl e)) ⟨_,_,rfl,[],(a8 _).symm⟩))))))
abbrev Vy:W:=.tup [.str [114,101,102,117,115,101,100],.bl true,.bl false,.bl false,.bl true,.bl false]
theorem Ep{p:Pn}(e:ij [.loc L,p.w] z=.ex "NothingDone" z):Cj [.loc L,p.w] z=.ok Vy z:=by
 have cx:(z++[au.exc "NothingDone"])[z.length]?=some (.exc "NothingDone"):=dF
 exact fq (N:=4) (body:=Nv) (ws:=[.loc L,p.w]) (az (bb bI) (az (Ii (Ih (Ig (am kv kn) e rfl)) #[3] (bb (eQ (am bI (am (BM kv cx rfl) (am (BM kv cx rfl) (am (BM kv cx rfl) (am (BM kv cx rfl) (am (BM kv cx rfl) aQ)))))) (ao rfl)))) (bP kv ⟨_,_,rfl,rfl,_,rfl⟩))) rfl
theorem QF(st:List au):j9 40 [Vy,Vy] st=.ok (.bl true) st:=tZ (k:=39) #[3] fun w hw=>by
 simp only[aX,eV,mL]at hw
 rcases hw with rfl|rfl|rfl|rfl|rfl|rfl
 ·exact Cp _ 38 st
 all_goals exact zc _ 38 st
theorem oV(hM:m9 M n)(hn:1<=n)(ht:t.size<=100){p:Pn}(hz:j' M L a b t k sd tk z)(e:ij [.loc L,p.w] z=.ex "NothingDone" z):xp [.loc L,M.w,b_ t.po,p.w] z=.ok (.bl true) z:=by
 refine fq (N:=5) (body:=Nx) (ws:=[.loc L,M.w,b_ t.po,p.w]) ?_ rfl
 apply az
 ·exact bb (eQ (am bI (am bI (am bI (am bI (am bI (am bI aQ)))))) (ao rfl))
 apply bP
 ·exact qU (bU (am (bU (am kv kn) (Ep e) rfl) kn) (QF z) rfl) (bU (am kv (am kv (am kv (am bI aQ)))) (qX hM hn #[0] hz 1) rfl)
 ·exact⟨_,_,rfl,rfl,[],(a8 _).symm⟩
theorem K3.at{x:Nat}{c:au}(h:K3 L a b z z')(hx:z[x]?=some c)(hn:x≠L/\x≠a/\x≠b):z'[x]?=some c:=(h.2 x (d_ hx) hn.1 hn.2.1 hn.2.2).trans hx
theorem j'.k3{L2 a2 b2:Nat}(h:j' M L2 a2 b2 t k sd tk z)(h3:K3 L a b z z')(n1:L2≠L/\L2≠a/\L2≠b)(n2:a2≠L/\a2≠a/\a2≠b)(n3:b2≠L/\b2≠a/\b2≠b):j' M L2 a2 b2 t k sd tk z':=⟨h3.at h.ob n1,h3.at h.s n2,h3.at h.u n3,h.la,h.lb,h.ab,h.ls,h.lu⟩
theorem Fp{F:Nat}(hF:z[F]?=some (.lst (q_ t ds))):bu (.loc F) (.int (-1)) z=.ok (b_ (oU t ds).po) z:=by
 refine jN (bX hF) (q:=-(((0:Nat):Int)+1)) (wY ?_)
 rw[fT (by rw[ma];omega),ma,show ds.length+1-1-0=ds.length by omega,sy (aA _),t9]
structure Sv(M:Mc)(ns:List Int)(L L2 a2 b2 F:Nat)(t:MT)(a b k kt:Nat)(ds:List Dd)(i:Nat)(z:List au):Prop where
 ks:j' M L a b (oU t ds) k ds.reverse [] z
 kt:j' M L2 a2 b2 t kt [] [] z
 r0:z[0]?=some (.ro (ns.map W.int))
 f:z[F]?=some (.lst (q_ t ds))
 ch:En t ds
 ln:ds.length<=i
 n0:0≠L/\0≠a/\0≠b
 nf:F≠L/\F≠a/\F≠b
 n1:L2≠L/\L2≠a/\L2≠b
 n2:a2≠L/\a2≠a/\a2≠b
 n3:b2≠L/\b2≠a/\b2≠b
 m:F≠0/\F≠L2/\F≠a2/\F≠b2/\0≠L2/\0≠a2/\0≠b2
abbrev lR(M:Mc)(t:MT)(pool:List Nat)(L L2 F:Nat)(many:Nat)(o8 o9 o10 Ww Wv:Option W):cV:=[lO 0,some M.w,some (b_ t.po),some (.str pool),lO L,lO L2,lO F,iO (many:Nat),o8,o9,o10,Ww,Wv]
abbrev lB:FS:=(aM (bd 9 (b7 5 rK (ah (ag 0) (ah (ag 8) (ah (eI 8) (ah (e2 bu (ag 6) (r_ (eI 1))) (ah (ag 3) aD))))))) (aM (bd 10 (b7 2 qu (ah (e2 bu (ag 6) (r_ (eI 1))) (ah (ag 9) aD)))) (gz (eO (e2 Gf (bJ dG (ah (ag 10) aD)) (eI 100))) (aM (dm (b7 2 ij (ah (ag 4) (ah (ag 9) aD)))) (dm (oE cu (ag 6) (ah (ag 10) aD)))) bW)))
theorem Mb(hM:m9 M n)(hn:1<=n)(on:pool.length=4)(AV:∀d∈pool,d∈LL)(Ml:pool.Nodup){F L2 a2 b2 kt many:Nat}{o9 o10:Option W}(hg:xF t)(A8:t.size<=100)(hv:Sv M ns L L2 a2 b2 F t a b k kt ds i z)(hi:i<100) :
  ∃(a' b' k':Nat) (VD:List Dd) (QP VL:Option W) (z2:List au),lB (lR M t pool L L2 F many (iO (i:Nat)) o9 o10 none none) z=.nx (lR M t pool L L2 F many (iO (i:Nat)) QP VL none none) z2/\Sv M ns L L2 a2 b2 F t a' b' k' kt VD (i+1) z2:=by
 have hln:=hv.ln
 obtain⟨gE,sE⟩:=xH hv.ch hg A8 ds.length
 rw[t9]at gE sE
 obtain⟨p,hp,hpm,e⟩:=xG hv.r0 (i:Nat) (t:=oU t ds) on AV Ml 8 #[3]
 have e:rK [.loc 0,.int (i:Nat),.int 8,b_ (oU t ds).po,.str pool] z=.ok p.w z:=e
 obtain⟨t2,s,ws,g2,hw,_,_,_,Fu,hdo⟩:=NG hM hn hp (fun e=>absurd (hpm (.inl e)) #[3]) (fun e=>absurd (hpm (.inr e)) #[3]) sE gE
 have hl:=Fp hv.f
 have e1:bd 9 (b7 5 rK (ah (ag 0) (ah (ag 8) (ah (eI 8) (ah (e2 bu (ag 6) (r_ (eI 1))) (ah (ag 3) aD)))))) (lR M t pool L L2 F many (iO (i:Nat)) o9 o10 none none) z=.nx (lR M t pool L L2 F many (iO (i:Nat)) (some p.w) o10 none none) z:=bb (bU (am kv (am kv (am bI (am (bv kv (vo bI) hl) kn)))) e rfl)
 have e10:bd 10 (b7 2 qu (ah (e2 bu (ag 6) (r_ (eI 1))) (ah (ag 9) aD))) (lR M t pool L L2 F many (iO (i:Nat)) (some p.w) o10 none none) z=.nx (lR M t pool L L2 F many (iO (i:Nat)) (some p.w) (some (b_ t2.po)) none none) z:=bb (bU (am (bv kv (vo bI) hl) kn) (Fu z) rfl)
 have hl2:dG [b_ t2.po] z=.ok (.int (t2.size:Nat)) z:=by have:=gQ t2.po z;rwa[MT.po_len]at this
 by_cases h:t2.size<=100
 ·obtain⟨d,dk,da,db,hdo⟩:=hdo h
  obtain⟨z2,ed,hk2,h3⟩:=hdo hv.ks (by rw[gI];omega)
  have zF:=h3.at hv.f hv.nf
  have z0:=h3.at hv.r0 hv.n0
  have kt2:=hv.kt.k3 h3 hv.n1 hv.n2 hv.n3
  have lz:=d_ hv.f
  have eB:lB (lR M t pool L L2 F many (iO (i:Nat)) o9 o10 none none) z=.nx (lR M t pool L L2 F many (iO (i:Nat)) (some p.w) (some (b_ t2.po)) none none) (z2.set F (.lst (q_ t ds++[b_ t2.po]))):=
   cZ e1 (cZ e10 (dg (aY (bv (cq kn hl2) bI (BH (bF #[0])))) (cZ (dU (bU (am kv kn) ed rfl)) (dU (jU kv (d8 zF) kn (qx zF (by rw[ma];omega)))))))
  have ew:=Fl t ds d ds.length (aA _)
  rw[bj (by rw[ma];omega),cJ,db]at ew
  refine⟨a,z.length,d.ct M,ds++[d],_,_,_,eB,?_⟩
  have lt0:=d_ hv.r0
  have l1:=d_ hv.kt.ob
  have l2:=d_ hv.kt.s
  have l3:=d_ hv.kt.u
  refine⟨?_,kt2.fr (cP hv.m.2.1) (cP hv.m.2.2.1) (cP hv.m.2.2.2.1),by rw[cP hv.m.1];exact z0,by rw[<- ew];exact fv zF,hv.ch.app da ⟨dk,by rw[da];exact gE,by rw[db];exact g2⟩,by rw[ai,bt];omega,⟨hv.n0.1,hv.n0.2.1,by omega⟩,⟨hv.nf.1,hv.nf.2.1,by omega⟩,⟨hv.n1.1,hv.n1.2.1,by omega⟩,⟨hv.n2.1,hv.n2.2.1,by omega⟩,⟨hv.n3.1,hv.n3.2.1,by omega⟩,hv.m⟩
  rw[t7,gJ,db]
  exact hk2.fr (cP hv.nf.1) (cP hv.nf.2.1) (cP #[0])
 ·have eB:lB (lR M t pool L L2 F many (iO (i:Nat)) o9 o10 none none) z=.nx (lR M t pool L L2 F many (iO (i:Nat)) (some p.w) (some (b_ t2.po)) none none) z:=
   cZ e1 (cZ e10 (cz (aY (bv (cq kn hl2) bI (BH (a7 #[0])))) c9))
  exact⟨a,b,k,ds,_,_,z,eB,{ hv with ln:=by omega }⟩
end
theorem Md{x y:Int}(h0:st[0]?=some (.ro (ns.map W.int)))(hρ:ρ[0]?=some (lO 0))(hx:0<=x/\x<=58):∃m:Nat,m<=58/\bJ Gb (ah (eC (.int x)) (ah (bJ DA (ah (eI 3) (ah (e2 lD (bJ dG (ah (ag 0) aD)) (eC (.int y))) aD))) aD)) ρ st=.ok (.int (m:Nat)) st:=by
 have hln:=oG (tz h0)
 have a1:bJ Gb (ah (eC (.int x)) (ah (bJ DA (ah (eI 3) (ah (e2 lD (bJ dG (ah (ag 0) aD)) (eC (.int y))) aD))) aD)) ρ st=.ok (.int (if (if ((ns.map W.int).length:Int)-y>3 then((ns.map W.int).length:Int)-y else 3)<x then(if ((ns.map W.int).length:Int)-y>3 then((ns.map W.int).length:Int)-y else 3)else x)) st:=
  cq (am bI (am (cq (am bI (am (bv (cq (am (kz hρ) aQ) hln) bI rfl) aQ)) Sz) aQ)) rfl
 generalize hq:(if (if ((ns.map W.int).length:Int)-y>3 then((ns.map W.int).length:Int)-y else 3)<x then(if ((ns.map W.int).length:Int)-y>3 then((ns.map W.int).length:Int)-y else 3)else x)=q at a1
 have hq1:0<=q/\q<=x:=by rw[<- hq];split<;>split<;>omega
 obtain⟨m,rfl⟩:∃m:Nat,q=m:=⟨q.toNat,by omega⟩
 exact⟨m,by omega,a1⟩
theorem law_ok:ME f_q45:=by
 intro ns VH
 suffices hh:k6 (A7 fun w bg=>w=.bl true) (Ny ([W.loc 0].map some++List.replicate (13-1) none) [.ro (ns.map W.int)]) by
  obtain⟨w,bg,e,rfl⟩:=hh
  exact⟨_,js e⟩
 have h0:([au.ro (ns.map W.int)]:List au)[0]?=some (.ro (ns.map W.int)):=rfl
 have hl0:([au.ro (ns.map W.int)]:List au).length=1:=rfl
 generalize hs0:([au.ro (ns.map W.int)]:List au)=s0 at h0 hl0
 obtain⟨M,n,t,pool,hM,hn,A8,htg,on,AV,Ml,es⟩:=JZ h0
 have A8:t.size<=100:=by omega
 apply az
 ·exact za (bU kn es rfl) rfl
 obtain⟨z1,ei,hk,CV⟩:=Fk hM hn (t:=t) #[0] s0
 rw[hl0]at hk
 apply az
 ·exact bb (JV (am kv kn) rfl ei)
 rw[hl0]
 have r1:z1[0]?=some (.ro (ns.map W.int)):=pre_get CV h0
 obtain⟨z2,ei2,hk2,hpre2⟩:=Fk hM hn (t:=t) #[0] z1
 apply az
 ·exact bb (JV (am kv kn) rfl ei2)
 have r2:z2[0]?=some (.ro (ns.map W.int)):=pre_get hpre2 r1
 have hk':j' M 1 2 3 t t.size [] [] z2:=⟨pre_get hpre2 hk.ob,pre_get hpre2 hk.s,pre_get hpre2 hk.u,hk.la,hk.lb,hk.ab,hk.ls,hk.lu⟩
 have l1:=d_ hk.u
 have l2:=d_ hk2.u
 generalize z1.length=L2 at *
 apply az
 ·exact bb (qh kn (ao rfl))
 have hF:(z2++[au.lst [b_ t.po]])[z2.length]?=some (.lst (q_ t [])):=dF
 have r3:(z2++[au.lst [b_ t.po]])[0]?=some (.ro (ns.map W.int)):=dI r2
 obtain⟨many,hmany,em⟩:=Md (ρ:=[lO 0,some M.w,some (b_ t.po),some (.str pool),lO 1,lO L2,lO z2.length,none,none,none,none,none,none]) (x:=58) (y:=5) r3 rfl #[3]
 apply az
 ·exact bb em
 have hv0:Sv M ns 1 L2 (L2+1) (L2+2) z2.length t 2 3 t.size t.size [] 0 (z2++[au.lst [b_ t.po]]):=⟨hk'.app,hk2.app,r3,hF,trivial,aA _,⟨by omega,by omega,by omega⟩,⟨by omega,by omega,by omega⟩,⟨by omega,by omega,by omega⟩,⟨by omega,by omega,by omega⟩,⟨by omega,by omega,by omega⟩,⟨by omega,by omega,by omega,by omega,by omega,by omega,by omega⟩⟩
 generalize z2.length=F at *
 generalize z2++[au.lst [b_ t.po]]=z at *
 obtain⟨ρ2,c_,e2',a,b,k,ds,o8,o9,o10,rfl,hv⟩:=wX (f:=kH 8) (body:=lB) (ck:=none) (fun i ρ st=>∃a b k ds o8 o9 o10,ρ=lR M t pool 1 L2 F many o8 o9 o10 none none/\Sv M ns 1 L2 (L2+1) (L2+2) F t a b k t.size ds i st) (ws:=gN 0 many) (ρ:=lR M t pool 1 L2 F many none none none none none) (st:=z) 0 ⟨2,3,t.size,[],none,none,none,rfl,hv0⟩ (fun _ _ _ _=>trivial) fun i w ρ st hw hI=>by
  obtain⟨a,b,k,ds,o8,o9,o10,rfl,UG⟩:=hI
  obtain⟨hi,rfl⟩:=kJ hw
  rw[mf]at UG ⊢
  obtain⟨a',b',k',VD,p9,p10,z2,er2,hv2⟩:=Mb (many:=many) (o9:=o9) (o10:=o10) hM hn on AV Ml htg A8 UG #[0]
  exact⟨lR M t pool 1 L2 F many (iO (i:Nat)) o9 o10 none none,_,z2,by rw[uh];rfl,er2,a',b',k',VD,_,p9,p10,rfl,hv2⟩
 have er:dP (ah (ag 7) aD) (lR M t pool 1 L2 F many none none none none none) z=.ok (gN 0 many,none) z:=by
  have:=j8 (fs:=ah (ag 7) aD) (ρ:=lR M t pool 1 L2 F many none none none none none) (st:=z) (q:=(many:Int)) kn #[0]
  rwa[ce]at this
 rw[mf,show(gN 0 many).length=many from fK 0 many]at hv
 apply az
 ·exact(E5 er).trans e2'
 have hln:=hv.ln
 obtain⟨gE,sE⟩:=xH hv.ch htg A8 ds.length
 rw[t9]at gE sE
 have hl:=Fp hv.f
 obtain⟨z3,ew,hk3,k3⟩:=xE hM hn A8 sE hv.kt (ja 999)
 have n1:=hv.n1
 have n2:=hv.n2
 have n3:=hv.n3
 have m:=hv.m
 have lz1:=d_ hv.ks.ob
 have lz2:=d_ hv.ks.s
 have lz3:=d_ hv.ks.u
 have lz4:=d_ hv.kt.ob
 have lz5:=d_ hv.kt.s
 have lz6:=d_ hv.f
 have lz7:=d_ hv.r0
 have hkk:j' M 1 a b (oU t ds) k ds.reverse [] z3:=hv.ks.k3 k3 ⟨by omega,by omega,by omega⟩ ⟨by omega,by omega,by omega⟩ ⟨by omega,by omega,by omega⟩
 have f3:=k3.at hv.f ⟨m.2.1,m.2.2.1,m.2.2.2.1⟩
 have r3:=k3.at hv.r0 ⟨m.2.2.2.2.1,m.2.2.2.2.2.1,m.2.2.2.2.2.2⟩
 apply az
 ·exact dU (hZ kv hv.kt.ob rfl (am (bv kv (vo bI) hl) aQ) rfl ew)
 obtain⟨B2,hB2⟩:∃B2,B2=c_.length:=⟨_,rfl⟩
 rw[<- hB2]at hk3
 have hlF:dG [.loc F] z3=.ok (.int (ds.length+1:Nat)) z3:=by have:=oG (bX f3);rwa[ma]at this
 obtain⟨c1,ec1⟩:=oO r3 1
 obtain⟨x1,_,ex1⟩:=xq c1 0 600011 #[3] z3
 obtain⟨m1,hm1,em1⟩:=hW (q:=x1) (n:=ds.length+1) #[0]
 apply az
 ·exact bb (w:=.int (((ds.length+1:Nat):Int)-1-x1%((ds.length+1:Nat):Int))) (bv (bv (cq kn hlF) bI rfl) (bv (bU (am (bU (am kv (am bI aQ)) ec1 rfl) (am bI (am bI aQ))) ex1 rfl) (cq kn hlF) (jm #[0])) rfl)
 obtain⟨dn,hdn⟩:∃dn:Nat,dn=ds.length-m1:=⟨_,rfl⟩
 rw[em1,show((ds.length+1:Nat):Int)-1-(m1:Int)=(dn:Int) by omega]
 have yp:(0:Int)<((ds.length+1:Nat):Int)-(dn:Int):=by omega
 obtain⟨c2,ec2⟩:=oO r3 2
 obtain⟨x2,_,ex2⟩:=xq c2 0 700001 #[3] z3
 obtain⟨m2,hm2,em2⟩:=hW (q:=x2) (n:=ds.length+1-dn) #[0]
 apply az
 ·exact bb (w:=.int ((dn:Int)+x2%(((ds.length+1:Nat):Int)-(dn:Int)))) (bv kv (bv (bU (am (bU (am kv (am bI aQ)) ec2 rfl) (am bI (am bI aQ))) ex2 rfl) (bv (cq kn hlF) kv rfl) (jm yp)) dM)
 obtain⟨up,hup⟩:∃up:Nat,up=dn+m2:=⟨_,rfl⟩
 rw[show((ds.length+1:Nat):Int)-(dn:Int)=((ds.length+1-dn:Nat):Int) by omega,em2,show(dn:Int)+(m2:Int)=(up:Int) by omega]
 have hupl:up<=ds.length:=by omega
 have hk4:j' M 1 a b (t8 t ds ds.length) k (ds.take ds.length).reverse (ds.drop ds.length) z3:=by rw[t9,cJ,List.drop_length];exact hkk
 obtain⟨z4,k4,ew4,hk5,k34,hl4⟩:=qY hM hn hv.ch #[0] htg A8 f3 hv.nf (aA _) (show dn<=ds.length by omega) hk4
 apply az
 ·refine cz (nS (aY (bU (am kv (am kv (am kv (am (x:=.int (ds.length:Nat)) ?_ kn)))) ew4 rfl)) rfl) c9
  have:=bv (f:=lD) (fa:=bJ dG (ah (ag 6) aD)) (fb:=eC (.int 1)) (z:=.int (((ds.length+1:Nat):Int)-1)) (ρ:=lR M t pool 1 L2 F many o8 o9 o10 (iO (dn:Nat)) (iO (up:Nat))) (cq kn hlF) bI rfl
  rw[show((ds.length+1:Nat):Int)-1=(ds.length:Int) by omega]at this
  exact this
 have f4:=k34.at f3 hv.nf
 obtain⟨z5,k5,ew5,hk6,k45,hl5⟩:=qY hM hn hv.ch #[0] htg A8 f4 hv.nf (show dn<=ds.length by omega) hupl hk5
 apply az
 ·exact cz (nS (aY (bU (am kv (am kv (am kv (am kv kn)))) ew5 rfl)) rfl) c9
 have k35:=k34.trans k45
 have f5:=k35.at f3 hv.nf
 have r5:=k35.at r3 hv.n0
 have tw5:j' M L2 (L2+1) B2 (oU t ds) (oU t ds).size [Dd.wh t (oU t ds)] [] z5:=hk3.k3 k35 n1 n2 ⟨by omega,by omega,by omega⟩
 have q1:=d_ tw5.ob
 have q2:=d_ tw5.s
 have q3:=d_ tw5.u
 obtain⟨gU,sU⟩:=xH hv.ch htg A8 up
 obtain⟨p,hp,hpm,ep⟩:=xG r5 (many:Nat) (t:=t8 t ds up) on AV Ml 8 #[3]
 have ep:rK [.loc 0,.int (many:Nat),.int 8,b_ (t8 t ds up).po,.str pool] z5=.ok p.w z5:=ep
 obtain⟨t2,s,ws,g2,_,_,_,_,Fu,hdo⟩:=NG hM hn hp (fun e=>absurd (hpm (.inl e)) #[3]) (fun e=>absurd (hpm (.inr e)) #[3]) sU gU
 have iU:bu (.loc F) (.int (up:Nat)) z5=.ok (b_ (t8 t ds up).po) z5:=jN (bX f5) (fW (sy hupl))
 have i0:bu (.loc F) (.int 0) z5=.ok (b_ t.po) z5:=jN (bX f5) (fW (q:=0) (sy (i:=0) (bY _)))
 apply az
 ·exact bb (bU (am kv (am kv (am bI (am (bv kv kv iU) kn)))) ep rfl)
 apply az
 ·exact bb (bU (am (bv kv kv iU) kn) (Fu z5) rfl)
 have hl2:dG [b_ t2.po] z5=.ok (.int (t2.size:Nat)) z5:=by have:=gQ t2.po z5;rwa[MT.po_len]at this
 obtain⟨pw,d,t3,dk,da,db,g3,s3,e9,z6,ed,hk7,k56⟩:∃(pw:Pn) (d:Dd) (t3:MT),d.ok/\d.a=t8 t ds up/\d.b=t3/\xF t3/\t3.size<=100/\gz (eO (e2 F' (bJ dG (ah (ag 10) aD)) (eI 100))) (aM (bd 9 (fJ (ah (eC (.str [119,104,111,108,101])) (ah (e2 bu (ag 6) (eI 0)) aD)))) (bd 10 (e2 bu (ag 6) (eI 0)))) bW ([lO 0,some M.w,some (b_ t.po),some (.str pool),lO 1,lO L2,lO F,iO (many:Nat),o8,some p.w,some (b_ t2.po),iO (dn:Nat),iO (up:Nat)]) z5=.nx [lO 0,some M.w,some (b_ t.po),some (.str pool),lO 1,lO L2,lO F,iO (many:Nat),o8,some pw.w,some (b_ t3.po),iO (dn:Nat),iO (up:Nat)] z5/\∃z6,ij [.loc 1,pw.w] z5=.ok .non z6/\j' M 1 a z5.length t3 (d.ct M) (d::(ds.take up).reverse) [] z6/\K3 1 a b z5 z6:=by
  by_cases h:t2.size<=100
  ·obtain⟨d,dk,da,db,hdo⟩:=hdo h
   obtain⟨z6,ed,hk7,k56⟩:=hdo hk6 (by rw[gI,aF];omega)
   exact⟨p,d,t2,dk,da,db,g2,h,cz (aY (bv (cq kn hl2) bI (lW (a7 #[0])))) c9,z6,ed,hk7,k56⟩
  ·obtain⟨z6,ed,hk7,k56⟩:=xE hM hn sU A8 hk6 (by rw[gI,aF];omega)
   exact⟨.wh t,.wh (t8 t ds up) t,t,⟨sU,A8⟩,rfl,rfl,htg,A8,dg (aY (bv (cq kn hl2) bI (lW (bF #[0])))) (cZ (bb (eQ (am bI (am (bv kv bI i0) aQ)) (ao rfl))) (bb (bv kv bI i0))),z6,NF ed hk6.ob (jn _ hk6 hk7),hk7,k56⟩
 apply az
 ·exact e9
 apply az
 ·exact dU (bU (am kv kn) ed rfl)
 have f6:=k56.at f5 hv.nf
 have tw6:=tw5.k3 k56 n1 n2 ⟨by omega,by omega,by omega⟩
 have wa:=Fl t ds d up hupl
 rw[db]at wa
 have hch2:En t (ds.take up++[d]):=(hv.ch.take up).app da ⟨dk,by rw[da];exact gU,by rw[db];exact g3⟩
 have Q8:(ds.take up++[d]).length=up+1:=by rw[ai,aF,bt];omega
 have esl:wE (.loc F) none (some ((up:Int)+1)) z6=.ok (.loc z6.length) (z6++[.lst ((q_ t ds).take (up+1))]):=by
  rw[MF (bX f6),show((up:Int)+1)=((up+1:Nat):Int)from rfl,m8 (by rw[ma];omega)]
 have e6:e2 cN (rk (ag 6) gM (eW (e2 cN (ag 12) (eI 1)))) (l6 (ah (ag 10) aD)) [lO 0,some M.w,some (b_ t.po),some (.str pool),lO 1,lO L2,lO F,iO (many:Nat),o8,some pw.w,some (b_ t3.po),iO (dn:Nat),iO (up:Nat)] z6=.ok (.loc (z6.length+2)) (z6++[.lst ((q_ t ds).take (up+1)),.lst [b_ t3.po],.lst (q_ t (ds.take up++[d]))]):=by
  have a1:=Pf (st:=z6++[.lst ((q_ t ds).take (up+1)),.lst [b_ t3.po]]) (n:=z6.length) (m:=z6.length+1) (ws:=(q_ t ds).take (up+1)) (xs:=[b_ t3.po]) (by rw[dQ];rfl) (by rw[iC];rfl) (by rw[wa,ma];show _<=1000000;omega)
  rw[wa]at a1
  have a2:z6++[au.lst ((q_ t ds).take (up+1))]++[.lst [b_ t3.po]]=z6++[.lst ((q_ t ds).take (up+1)),.lst [b_ t3.po]]:=by rw[al];rfl
  have a3:(z6++[au.lst ((q_ t ds).take (up+1)),.lst [b_ t3.po]]).length=z6.length+2:=by simp
  have a4:(z6++[au.lst ((q_ t ds).take (up+1))]).length=z6.length+1:=by simp
  rw[a3]at a1
  have a5:=qh (fs:=ah (ag 10) aD) (ρ:=[lO 0,some M.w,some (b_ t.po),some (.str pool),lO 1,lO L2,lO F,iO (many:Nat),o8,some pw.w,some (b_ t3.po),iO (dn:Nat),iO (up:Nat)]) (st:=z6++[.lst ((q_ t ds).take (up+1))]) kn (ao rfl)
  rw[a2,a4]at a5
  refine(bv (ny kv tu (nv (bv kv bI dM)) esl) a5 a1).trans ?_
  rw[al];rfl
 apply az
 ·exact bb e6
 have hk8:=hk7.app (x:=[.lst ((q_ t ds).take (up+1)),.lst [b_ t3.po],.lst (q_ t (ds.take up++[d]))])
 have tw8:=tw6.app (x:=[.lst ((q_ t ds).take (up+1)),.lst [b_ t3.po],.lst (q_ t (ds.take up++[d]))])
 have f8:(z6++[.lst ((q_ t ds).take (up+1)),.lst [b_ t3.po],.lst (q_ t (ds.take up++[d]))])[z6.length+2]?=some (.lst (q_ t (ds.take up++[d]))):=by rw[iC];rfl
 have hz56:=k56.1
 have hz35:=k35.1
 have k3l:=k3.1
 have twl:=d_ tw6.u
 have hkl:=d_ hk7.u
 generalize z6++[au.lst ((q_ t ds).take (up+1)),.lst [b_ t3.po],.lst (q_ t (ds.take up++[d]))]=z7 at *
 generalize hF2:z6.length+2=F2 at *
 generalize hB:z5.length=B at *
 generalize hD:ds.take up++[d]=D at *
 have nF2:F2≠1/\F2≠a/\F2≠B:=⟨by omega,by omega,by omega⟩
 have tE:t8 t D (up+1)=t3:=by
  rw[<- Q8,t9,<- hD,t7,db]
 have t0:t8 t D 0=t:=rfl
 have hrv:(d::(ds.take up).reverse)=(D.take (up+1)).reverse:=by
  rw[<- Q8,cJ,<- hD,gJ];rfl
 have hdr:D.drop (up+1)=[]:=by rw[<- Q8,List.drop_length]
 have hk8:j' M 1 a B (t8 t D (up+1)) (d.ct M) (D.take (up+1)).reverse (D.drop (up+1)) z7:=by rw[tE,<- hrv,hdr];exact hk8
 have hk8n:j' M 1 a B t3 (d.ct M) (D.take (up+1)).reverse [] z7:=by rw[<- tE,<- hdr];exact hk8
 apply az
 ·exact cz (nS (aY (bU (am kv (am kv (am kv (am (x:=Pn.again.w) (eQ (am bI aQ) (ao rfl)) aQ)))) (oV hM hn s3 hk8n (CI hk8n)) rfl)) rfl) c9
 obtain⟨z8,k8,ew8,hk9,k78,hl8⟩:=qY hM hn hch2 #[0] htg A8 f8 nF2 (show up+1<=D.length by omega) (bY _) hk8
 have hk9n:j' M 1 a B t k8 [] (D.drop 0) z8:=hk9
 apply az
 ·refine cz (m6 (nS (aY (bU (am kv (am kv (am kv (am (bv kv bI dM) (am bI aQ))))) ew8 rfl)) rfl) (nS (aY (bU (am kv (am kv (am kv (am (x:=Pn.back.w) (eQ (am bI aQ) (ao rfl)) aQ)))) (oV hM hn A8 hk9n (Ma hk9n)) rfl)) rfl)) c9
 have f9:=k78.at f8 nF2
 obtain⟨z9,k9,ew9,hk10,k89,hl9⟩:=qY hM hn hch2 #[0] htg A8 f9 nF2 (bY _) (show up+1<=D.length by omega) hk9
 have hk10n:j' M 1 a B t3 k9 (D.take (up+1)).reverse [] z9:=by rw[<- tE,<- hdr];exact hk10
 apply az
 ·exact cz (m6 (nS (aY (bU (am kv (am kv (am kv (am bI (am (bv kv bI dM) aQ))))) ew9 rfl)) rfl) (nS (aY (bU (am kv (am kv (am kv (am (x:=Pn.again.w) (eQ (am bI aQ) (ao rfl)) aQ)))) (oV hM hn s3 hk10n (CI hk10n)) rfl)) rfl)) c9
 have k79:=k78.trans k89
 have tw9:j' M L2 (L2+1) B2 (Dd.wh t (oU t ds)).b (oU t ds).size [Dd.wh t (oU t ds)] [] z9:=tw8.k3 k79 ⟨by omega,by omega,by omega⟩ ⟨by omega,by omega,by omega⟩ ⟨by omega,by omega,by omega⟩
 obtain⟨z10,eb,hkb,k910,_⟩:=Fj hM hn (d:=Dd.wh t (oU t ds)) ⟨A8,sE⟩ tw9 (ja 999)
 have hkb:j' M L2 (L2+1) B2 t ((Dd.wh t (oU t ds)).tn.ct M) [] [Dd.wh t (oU t ds)] z10:=hkb
 have hk11:=hk10n.k3 k910 ⟨by omega,by omega,by omega⟩ ⟨by omega,by omega,by omega⟩ ⟨by omega,by omega,by omega⟩
 apply az
 ·exact dU (hZ kv tw9.ob rfl aQ rfl eb)
 apply bP
 ·exact qU (bU (am kv (am kv (am kv (am bI aQ)))) (qX hM hn #[0] hkb 1) rfl) (bU (am kv (am kv (am kv (am bI aQ)))) (qX hM hn #[0] hk11 2) rfl)
 ·exact⟨_,_,rfl,rfl⟩
theorem all_mk{l:PySem.W.OpenLaw}{w:World}{fa:Addr}(X:K.In h)(G:h.Ns mainGlobals mg)(Wr:mg "law"=some (.ref fa))
  {Ey:Addr} {QV J4:Option Addr} {QQ:Array (Option Value)} {QL J_ J5 Ka Eu Kp:Value} {fB:Addr} {bz:Addr} {nZ:Addr} {iq:Addr} {cU:Addr} {kP:Addr} {cF:Addr} {n5:Addr} {n9:Addr} {bE:Addr} {iu:Addr} {ym:Tok}
  (EC:DefIn K "in_order" Pm)
  (CO:DefIn K "letter_of" Po)
  (Er:DefIn K "has_left" Pp)
  (C0:DefIn K "has_right" Pq)
  (Ew:DefIn K "links_of" Pr)
  (Ko:DefIn K "ups_of" Ps)
  (GG:DefIn K "up_from" Pt)
  (Et:DefIn K "sizes_of" Pu)
  (yw:DefIn K "check_place" Pv)
  (AY:DefIn K "check_size" Ip)
  (GE:DefIn K "part_at" Iq)
  (yo:DefIn K "branches_at" Ir)
  (Ez:DefIn K "with_top" Iu)
  (AL:DefIn K "branch_put" Iv)
  (AR:DefIn K "room_below" Iw)
  (GK:DefIn K "room_at" Iy)
  (Ev:DefIn K "rooms_of" IA)
  (Ku:DefIn K "turned" IB)
  (AQ:DefIn K "with_marks" ID)
  (xK:DefIn K "branch_rooms" IE)
  (GI:DefIn K "climbed" IF)
  (CM:DefIn K "_law_cell" IG)
  (AS:DefIn K "_law_mixed" IH)
  (AX:DefIn K "_law_draws" IJ)
  (CL:DefIn K "_law_same" IK)
  (CS:DefIn K "_law_pool" IN)
  (AG:DefIn K "_law_marks" IP)
  (CY:DefIn K "_law_tree" IQ)
  (AK:DefIn K "_law_links" IR)
  (xL:DefIn K "_law_machine" IS)
  (yq:DefIn K "_law_letter" IT)
  (Ex:DefIn K "_law_run" IU)
  (CN:DefIn K "_law_lets" IV)
  (AU:DefIn K "_law_sizes" IW)
  (yt:DefIn K "_law_bounds" IX)
  (vL:DefIn K "_law_branched" IY)
  (AH:DefIn K "_law_start" IZ)
  (xN:DefIn K "_law_planned" I_)
  (xM:DefIn K "_law_changed" Ja)
  (AT:DefIn K "_law_doing" Jb)
  (yz:DefIn K "_law_stands" Jc)
  (xI:DefIn K "_law_refused" Jd)
  (yy:DefIn K "_law_walked" Je)
  (u6:DefIn K "_law_none_left" Jf)
  (NO:nsIn K mainGlobals "law"=some (some (.ref Ey)))
  (Uj:K.lookup Ey=some ⟨QL,QV,.func (fnOf "law" "law" (iV tM) (hJ tM) (aO tM) .none J_ J5 Ka J4 Eu Kp),QQ⟩)
  (GJ:codeIn K Eu "law"=true)
  (T3:keepIn K (.ref Ey)=true)
  (ke:nsIn K mainGlobals "Kept"=some (some (.ref fB)))
  (cl_Kept:L2.Cls K fB)
  (vN:findIn K (.ref fB) "machine"=some none)
  (AJ:findIn K (.ref fB) "many"=some none)
  (yA:findIn K (.ref fB) "rooms"=some none)
  (u9:findIn K (.ref fB) "standing"=some none)
  (sH:findIn K (.ref fB) "taken_back"=some none)
  (AW:findIn K (.ref fB) "tree"=some none)
  (Mj:makesIn K fB=true)
  (Mh:keepIn K (.ref fB)=true)
  (dm_Kept___init__:DefM K fB "Kept.__init__" "__init__" lH)
  (dm_Kept_carry_out:DefM K fB "Kept.carry_out" "carry_out" kK)
  (dm_Kept_do_deed:DefM K fB "Kept.do_deed" "do_deed" mv)
  (dm_Kept_mark_deed:DefM K fB "Kept.mark_deed" "mark_deed" kL)
  (dm_Kept_put:DefM K fB "Kept.put" "put" sk)
  (dm_Kept_take:DefM K fB "Kept.take" "take" qj)
  (dm_Kept_branch:DefM K fB "Kept.branch" "branch" nz)
  (dm_Kept_whole:DefM K fB "Kept.whole" "whole" oJ)
  (dm_Kept_back:DefM K fB "Kept.back" "back" ql)
  (dm_Kept_again:DefM K fB "Kept.again" "again" oK)
  (dm_Kept_tree_now:DefM K fB "Kept.tree_now" "tree_now" lI)
  (dm_Kept_rooms_now:DefM K fB "Kept.rooms_now" "rooms_now" kM)
  (dm_Kept_lets_now:DefM K fB "Kept.lets_now" "lets_now" lJ)
  (eh:nsIn K mainGlobals "TrunkError"=some (some (.ref bz)))
  (Kg:nsIn K mainGlobals "NoTree"=some (some (.ref nZ)))
  (yr:nsIn K mainGlobals "NoStatement"=some (some (.ref iq)))
  (jP:nsIn K mainGlobals "NoPlace"=some (some (.ref cU)))
  (Es:nsIn K mainGlobals "NoNumber"=some (some (.ref kP)))
  (iN:nsIn K mainGlobals "TooGreat"=some (some (.ref cF)))
  (Kj:nsIn K mainGlobals "NoName"=some (some (.ref n5)))
  (J7:nsIn K mainGlobals "NoLine"=some (some (.ref n9)))
  (fF:nsIn K mainGlobals "NothingDone"=some (some (.ref bE)))
  (yn:nsIn K mainGlobals "NothingHeld"=some (some (.ref iu)))
  (x_TrunkError:excIn K bz q5 rD=true)
  (jo:findIn K (.ref bz) "__getattribute__"=some (some (.builtin "BaseException.__getattribute__")))
  (jp:findIn K (.ref bz) "__getattr__"=some none)
  (jq:findIn K (.ref bz) "__class__"=some (some (.builtin "object.__class__")))
  (w_TrunkError_NoPlace:kitOne K (.ref bz) (.ref cU)=some false)
  (w_TrunkError_NothingDone:kitOne K (.ref bz) (.ref bE)=some false)
  (w_TrunkError_TooGreat:kitOne K (.ref bz) (.ref cF)=some false)
  (w_TrunkError_t0:kitAny K (.ref bz) ([nZ,iq,kP,n5,n9,iu].map Value.ref)=some false)
  (w_TrunkError_VE:kitOne K (.ref bz) (.type "ValueError")=some true)
  (x_NoPlace:excIn K cU q5 rD=true)
  (mz:findIn K (.ref cU) "__getattribute__"=some (some (.builtin "BaseException.__getattribute__")))
  (mC:findIn K (.ref cU) "__getattr__"=some none)
  (mB:findIn K (.ref cU) "__class__"=some (some (.builtin "object.__class__")))
  (w_NoPlace_NoPlace:kitOne K (.ref cU) (.ref cU)=some true)
  (w_NoPlace_NothingDone:kitOne K (.ref cU) (.ref bE)=some false)
  (w_NoPlace_TooGreat:kitOne K (.ref cU) (.ref cF)=some false)
  (w_NoPlace_t0:kitAny K (.ref cU) ([nZ,iq,kP,n5,n9,iu].map Value.ref)=some false)
  (w_NoPlace_VE:kitOne K (.ref cU) (.type "ValueError")=some true)
  (x_TooGreat:excIn K cF q5 rD=true)
  (li:findIn K (.ref cF) "__getattribute__"=some (some (.builtin "BaseException.__getattribute__")))
  (lj:findIn K (.ref cF) "__getattr__"=some none)
  (lg:findIn K (.ref cF) "__class__"=some (some (.builtin "object.__class__")))
  (w_TooGreat_NoPlace:kitOne K (.ref cF) (.ref cU)=some false)
  (w_TooGreat_NothingDone:kitOne K (.ref cF) (.ref bE)=some false)
  (w_TooGreat_TooGreat:kitOne K (.ref cF) (.ref cF)=some true)
  (w_TooGreat_t0:kitAny K (.ref cF) ([nZ,iq,kP,n5,n9,iu].map Value.ref)=some false)
  (w_TooGreat_VE:kitOne K (.ref cF) (.type "ValueError")=some true)
  (x_NothingDone:excIn K bE q5 rD=true)
  (iP:findIn K (.ref bE) "__getattribute__"=some (some (.builtin "BaseException.__getattribute__")))
  (iQ:findIn K (.ref bE) "__getattr__"=some none)
  (iR:findIn K (.ref bE) "__class__"=some (some (.builtin "object.__class__")))
  (w_NothingDone_NoPlace:kitOne K (.ref bE) (.ref cU)=some false)
  (w_NothingDone_NothingDone:kitOne K (.ref bE) (.ref bE)=some true)
  (w_NothingDone_TooGreat:kitOne K (.ref bE) (.ref cF)=some false)
  (w_NothingDone_t0:kitAny K (.ref bE) ([nZ,iq,kP,n5,n9,iu].map Value.ref)=some false)
  (w_NothingDone_VE:kitOne K (.ref bE) (.type "ValueError")=some true)
  (u_TrunkError_TrunkError:(BB K bz).contains (.ref bz)=true)
  (u_NoPlace_TrunkError:(BB K cU).contains (.ref bz)=true)
  (u_TooGreat_TrunkError:(BB K cF).contains (.ref bz)=true)
  (u_NothingDone_TrunkError:(BB K bE).contains (.ref bz)=true)
  (AI:nsIn K mainGlobals "ValueError"=some none)
  (QX:nsIn K mainGlobals "bool"=some none)
  (C1:nsIn K mainGlobals "enumerate"=some none)
  (Ud:nsIn K mainGlobals "int"=some none)
  (AN:nsIn K mainGlobals "isinstance"=some none)
  (TV:nsIn K mainGlobals "len"=some none)
  (QR:nsIn K mainGlobals "list"=some none)
  (TZ:nsIn K mainGlobals "max"=some none)
  (T4:nsIn K mainGlobals "min"=some none)
  (Mi:nsIn K mainGlobals "range"=some none)
  (TR:nsIn K mainGlobals "set"=some none)
  (Ke:nsIn K mainGlobals "sorted"=some none)
  (T':nsIn K mainGlobals "str"=some none)
  (Mg:nsIn K mainGlobals "tuple"=some none)
  (Uf:nsIn K mainGlobals "zip"=some none)
  (yx:nsIn K mainGlobals "MOST_PLACES"=some (some (.int 100 ym))) :
  ∃fd:FuncData,fd.scope.names.lookup ("_law_script":Str)=some .local/\(∀(s:Shared) (v:Value),BindsTo s fd ⟨[v],[]⟩ [("_law_script",v)])/\∀base:Heap,K.In base->base.Ns mainGlobals mg->c6 l.prog w K mg base (iJ l.prog w) 43 fa fd Jh (iY K mg 1 f_q45):=by
 have e:=Wr.symm.trans (mg_of X G NO)
 cases e
 obtain⟨_,_,F_q1,m_q1⟩:=EC.fn X G
 obtain⟨_,_,F_q2,m_q2⟩:=CO.fn X G
 obtain⟨_,_,F_q3,m_q3⟩:=Er.fn X G
 obtain⟨_,_,F_q4,m_q4⟩:=C0.fn X G
 obtain⟨_,_,F_q5,m_q5⟩:=Ew.fn X G
 obtain⟨_,_,F_q6,m_q6⟩:=Ko.fn X G
 obtain⟨_,_,F_q7,m_q7⟩:=GG.fn X G
 obtain⟨_,_,F_q8,m_q8⟩:=Et.fn X G
 obtain⟨_,_,F_q9,m_q9⟩:=yw.fn X G
 obtain⟨_,_,F_q10,m_q10⟩:=AY.fn X G
 obtain⟨_,_,F_q11,m_q11⟩:=GE.fn X G
 obtain⟨_,_,F_q12,m_q12⟩:=yo.fn X G
 obtain⟨_,_,F_q13,m_q13⟩:=Ez.fn X G
 obtain⟨_,_,F_q14,m_q14⟩:=AL.fn X G
 obtain⟨_,_,F_q15,m_q15⟩:=AR.fn X G
 obtain⟨_,_,F_q16,m_q16⟩:=GK.fn X G
 obtain⟨_,_,F_q17,m_q17⟩:=Ev.fn X G
 obtain⟨_,_,F_q18,m_q18⟩:=Ku.fn X G
 obtain⟨_,_,F_q19,m_q19⟩:=AQ.fn X G
 obtain⟨_,_,F_q20,m_q20⟩:=xK.fn X G
 obtain⟨_,_,F_q21,m_q21⟩:=GI.fn X G
 obtain⟨_,_,F_q22,m_q22⟩:=CM.fn X G
 obtain⟨_,_,F_q23,m_q23⟩:=AS.fn X G
 obtain⟨_,_,F_q24,m_q24⟩:=AX.fn X G
 obtain⟨_,_,zo,CW⟩:=CL.fn X G
 obtain⟨_,_,F_q26,m_q26⟩:=CS.fn X G
 obtain⟨_,_,F_q27,m_q27⟩:=AG.fn X G
 obtain⟨_,_,F_q28,m_q28⟩:=CY.fn X G
 obtain⟨_,_,F_q29,m_q29⟩:=AK.fn X G
 obtain⟨_,_,F_q30,m_q30⟩:=xL.fn X G
 obtain⟨_,_,F_q31,m_q31⟩:=yq.fn X G
 obtain⟨_,_,F_q32,m_q32⟩:=Ex.fn X G
 obtain⟨_,_,F_q33,m_q33⟩:=CN.fn X G
 obtain⟨_,_,F_q34,m_q34⟩:=AU.fn X G
 obtain⟨_,_,F_q35,m_q35⟩:=yt.fn X G
 obtain⟨_,_,F_q36,m_q36⟩:=vL.fn X G
 obtain⟨_,_,F_q37,m_q37⟩:=AH.fn X G
 obtain⟨_,_,F_q38,m_q38⟩:=xN.fn X G
 obtain⟨_,_,F_q39,m_q39⟩:=xM.fn X G
 obtain⟨_,_,F_q40,m_q40⟩:=AT.fn X G
 obtain⟨_,_,F_q41,m_q41⟩:=yz.fn X G
 obtain⟨_,_,F_q42,m_q42⟩:=xI.fn X G
 obtain⟨_,_,F_q43,m_q43⟩:=yy.fn X G
 obtain⟨_,_,F_q44,m_q44⟩:=u6.fn X G
 have F_q45:=zC (st:=tM) Uj GJ T3
 have m_q45:=mg_of X G NO
 have B:Bl mg:=⟨mg_none_of X G AI,mg_none_of X G QX,mg_none_of X G C1,mg_none_of X G Ud,mg_none_of X G AN,mg_none_of X G TV,mg_none_of X G QR,mg_none_of X G TZ,mg_none_of X G T4,mg_none_of X G Mi,mg_none_of X G TR,mg_none_of X G Ke,mg_none_of X G T',mg_none_of X G Mg,mg_none_of X G Uf⟩
 have C:Cls K mg:=⟨⟨bz,mg_of X G eh,x_TrunkError⟩,⟨cU,mg_of X G jP,x_NoPlace⟩,⟨cF,mg_of X G iN,x_TooGreat⟩,⟨bE,mg_of X G fF,x_NothingDone⟩,⟨cU,mg_of X G jP,⟨fun c b hb=>by by_cases e0:c="TrunkError";(· subst e0;rw[show jD "TrunkError"=some false from by decide +kernel]at hb;cases hb;exact⟨bz,mg_of X G eh,x_TrunkError,⟨jo,jp,jq⟩,w_TrunkError_NoPlace⟩);by_cases e1:c="NoPlace";(· subst e1;rw[show jD "NoPlace"=some true from by decide +kernel]at hb;cases hb;exact⟨cU,mg_of X G jP,x_NoPlace,⟨mz,mC,mB⟩,w_NoPlace_NoPlace⟩);by_cases e2:c="TooGreat";(· subst e2;rw[show jD "TooGreat"=some false from by decide +kernel]at hb;cases hb;exact⟨cF,mg_of X G iN,x_TooGreat,⟨li,lj,lg⟩,w_TooGreat_NoPlace⟩);by_cases e3:c="NothingDone";(· subst e3;rw[show jD "NothingDone"=some false from by decide +kernel]at hb;cases hb;exact⟨bE,mg_of X G fF,x_NothingDone,⟨iP,iQ,iR⟩,w_NothingDone_NoPlace⟩);simp only[jD,e0,e1,e2,e3,gW,reduceCtorEq]at hb⟩⟩,⟨bE,mg_of X G fF,⟨fun c b hb=>by by_cases e0:c="TrunkError";(· subst e0;rw[show fL "TrunkError"=some false from by decide +kernel]at hb;cases hb;exact⟨bz,mg_of X G eh,x_TrunkError,⟨jo,jp,jq⟩,w_TrunkError_NothingDone⟩);by_cases e1:c="NoPlace";(· subst e1;rw[show fL "NoPlace"=some false from by decide +kernel]at hb;cases hb;exact⟨cU,mg_of X G jP,x_NoPlace,⟨mz,mC,mB⟩,w_NoPlace_NothingDone⟩);by_cases e2:c="TooGreat";(· subst e2;rw[show fL "TooGreat"=some false from by decide +kernel]at hb;cases hb;exact⟨cF,mg_of X G iN,x_TooGreat,⟨li,lj,lg⟩,w_TooGreat_NothingDone⟩);by_cases e3:c="NothingDone";(· subst e3;rw[show fL "NothingDone"=some true from by decide +kernel]at hb;cases hb;exact⟨bE,mg_of X G fF,x_NothingDone,⟨iP,iQ,iR⟩,w_NothingDone_NothingDone⟩);simp only[fL,e0,e1,e2,e3,gW,reduceCtorEq]at hb⟩⟩,⟨cF,mg_of X G iN,⟨fun c b hb=>by by_cases e0:c="TrunkError";(· subst e0;rw[show iM "TrunkError"=some false from by decide +kernel]at hb;cases hb;exact⟨bz,mg_of X G eh,x_TrunkError,⟨jo,jp,jq⟩,w_TrunkError_TooGreat⟩);by_cases e1:c="NoPlace";(· subst e1;rw[show iM "NoPlace"=some false from by decide +kernel]at hb;cases hb;exact⟨cU,mg_of X G jP,x_NoPlace,⟨mz,mC,mB⟩,w_NoPlace_TooGreat⟩);by_cases e2:c="TooGreat";(· subst e2;rw[show iM "TooGreat"=some true from by decide +kernel]at hb;cases hb;exact⟨cF,mg_of X G iN,x_TooGreat,⟨li,lj,lg⟩,w_TooGreat_TooGreat⟩);by_cases e3:c="NothingDone";(· subst e3;rw[show iM "NothingDone"=some false from by decide +kernel]at hb;cases hb;exact⟨bE,mg_of X G fF,x_NothingDone,⟨iP,iQ,iR⟩,w_NothingDone_TooGreat⟩);simp only[iM,e0,e1,e2,e3,gW,reduceCtorEq]at hb⟩⟩,⟨nZ,iq,kP,n5,n9,iu,mg_of X G Kg,mg_of X G yr,mg_of X G Es,mg_of X G Kj,mg_of X G J7,mg_of X G yn,⟨fun c b hb=>by by_cases e0:c="TrunkError";(· subst e0;rw[show xi "TrunkError"=some false from by decide +kernel]at hb;cases hb;exact⟨bz,mg_of X G eh,x_TrunkError,⟨jo,jp,jq⟩,w_TrunkError_t0⟩);by_cases e1:c="NoPlace";(· subst e1;rw[show xi "NoPlace"=some false from by decide +kernel]at hb;cases hb;exact⟨cU,mg_of X G jP,x_NoPlace,⟨mz,mC,mB⟩,w_NoPlace_t0⟩);by_cases e2:c="TooGreat";(· subst e2;rw[show xi "TooGreat"=some false from by decide +kernel]at hb;cases hb;exact⟨cF,mg_of X G iN,x_TooGreat,⟨li,lj,lg⟩,w_TooGreat_t0⟩);by_cases e3:c="NothingDone";(· subst e3;rw[show xi "NothingDone"=some false from by decide +kernel]at hb;cases hb;exact⟨bE,mg_of X G fF,x_NothingDone,⟨iP,iQ,iR⟩,w_NothingDone_t0⟩);simp only[xi,e0,e1,e2,e3,gW,reduceCtorEq]at hb⟩⟩,⟨fun c b hb=>by by_cases e0:c="TrunkError";(· subst e0;rw[show gs "TrunkError"=some true from by decide +kernel]at hb;cases hb;exact⟨bz,mg_of X G eh,x_TrunkError,⟨jo,jp,jq⟩,w_TrunkError_VE⟩);by_cases e1:c="NoPlace";(· subst e1;rw[show gs "NoPlace"=some true from by decide +kernel]at hb;cases hb;exact⟨cU,mg_of X G jP,x_NoPlace,⟨mz,mC,mB⟩,w_NoPlace_VE⟩);by_cases e2:c="TooGreat";(· subst e2;rw[show gs "TooGreat"=some true from by decide +kernel]at hb;cases hb;exact⟨cF,mg_of X G iN,x_TooGreat,⟨li,lj,lg⟩,w_TooGreat_VE⟩);by_cases e3:c="NothingDone";(· subst e3;rw[show gs "NothingDone"=some true from by decide +kernel]at hb;cases hb;exact⟨bE,mg_of X G fF,x_NothingDone,⟨iP,iQ,iR⟩,w_NothingDone_VE⟩);simp only[gs,e0,e1,e2,e3,gW,reduceCtorEq]at hb⟩,⟨fun c hc=>by simp only[aX,eV,mL]at hc;rcases hc with rfl|rfl|rfl|rfl;(· exact⟨bz,bz,mg_of X G eh,mg_of X G eh,x_TrunkError,x_TrunkError,u_TrunkError_TrunkError⟩);(· exact⟨cU,bz,mg_of X G jP,mg_of X G eh,x_NoPlace,x_TrunkError,u_NoPlace_TrunkError⟩);(· exact⟨cF,bz,mg_of X G iN,mg_of X G eh,x_TooGreat,x_TrunkError,u_TooGreat_TrunkError⟩);(· exact⟨bE,bz,mg_of X G fF,mg_of X G eh,x_NothingDone,x_TrunkError,u_NothingDone_TrunkError⟩)⟩⟩
 have O:Ow K mg:=⟨⟨fB,mg_of X G ke,cl_Kept,fun f hf=>by simp only[aX,eV,mL]at hf;rcases hf with rfl|rfl|rfl|rfl|rfl|rfl;(· exact vN);(· exact AJ);(· exact yA);(· exact u9);(· exact sH);(· exact AW)⟩⟩
 have Gg:Gc K mg:=⟨⟨_,.int 100,mg_of X G yx,⟨_,rfl⟩,fun μ H=>.int⟩⟩
 refine⟨fnOf "law" "law" (iV tM) (hJ tM) (aO tM) .none J_ J5 Ka J4 Eu Kp,rfl,fun s v=>.of_eq rfl,fun base _ _=>?_⟩
 have QO:bQ l.prog w K mg base 1 "in_order" 1 Ji:=cO F_q1 m_q1 (S6 F_q1 B)
 have QU:bQ l.prog w K mg base 1 "letter_of" 2 Jj:=cO F_q2 m_q2 (S8 F_q2)
 have QM:bQ l.prog w K mg base 1 "has_left" 1 Aq:=cO F_q3 m_q3 (S9 F_q3)
 have GH:bQ l.prog w K mg base 1 "has_right" 1 xj:=cO F_q4 m_q4 (S_ F_q4)
 have vP:bQ l.prog w K mg base 2 "links_of" 1 xk:=cO F_q5 m_q5 (Tc F_q5 B  QM GH)
 have QY:bQ l.prog w K mg base 3 "ups_of" 1 Jk:=cO F_q6 m_q6 (Td F_q6 B  vP)
 have Q0:bQ l.prog w K mg base 1 "up_from" 2 Gp:=cO F_q7 m_q7 (Te F_q7)
 have GF:bQ l.prog w K mg base 3 "sizes_of" 1 D2:=cO F_q8 m_q8 (Tg F_q8 B  vP)
 have AO:bQ l.prog w K mg base 1 "check_place" 2 Ar:=cO F_q9 m_q9 (Ti F_q9 B C)
 have J3:bQ l.prog w K mg base 1 "check_size" 1 y6:=cO F_q10 m_q10 (PL F_q10 Gg C)
 have Kb:bQ l.prog w K mg base 4 "part_at" 2 B1:=cO F_q11 m_q11 (PM F_q11   AO GF)
 have xJ:bQ l.prog w K mg base 5 "branches_at" 2 rJ:=cO F_q12 m_q12 (PN F_q12 B  GH Kb GF)
 have Kh:bQ l.prog w K mg base 1 "with_top" 3 B3:=cO F_q13 m_q13 (PP F_q13 B)
 have J2:bQ l.prog w K mg base 6 "branch_put" 4 B4:=cO F_q14 m_q14 (PQ F_q14 B  xJ J3 Kh)
 have Fq:bQ l.prog w K mg base 1 "room_below" 2 y7:=cO F_q15 m_q15 (PR F_q15)
 have zp:bQ l.prog w K mg base 2 "room_at" 4 tN:=cO F_q16 m_q16 (PU F_q16   QU Fq)
 have rL:bQ l.prog w K mg base 3 "rooms_of" 2 pK:=cO F_q17 m_q17 (PV F_q17 B  vP zp)
 have J8:bQ l.prog w K mg base 1 "turned" 1 B5:=cO F_q18 m_q18 (PX F_q18)
 have J':bQ l.prog w K mg base 1 "with_marks" 3 B6:=cO F_q19 m_q19 (PY F_q19)
 have Kr:bQ l.prog w K mg base 6 "branch_rooms" 3 y8:=cO F_q20 m_q20 (PZ F_q20 B  xJ rL)
 have Kv:bQ l.prog w K mg base 4 "climbed" 4 B8:=cO F_q21 m_q21 (P0 F_q21 B  vP zp Q0 QY)
 have jt:LN l.prog w K mg base 4 "Kept" 3 fY:=Pd dm_Kept___init__ (mg_of X G ke) Mj Mh (fun F=>uW F B O rL)
 have dB:iy l.prog w K mg base 7 "Kept" "carry_out" 2 dA:=lG dm_Kept_carry_out (mg_of X G ke) cl_Kept (fun F=>tO F B O Kr Kv rL)
 have ef:iy l.prog w K mg base 8 "Kept" "do_deed" 2 d9:=lG dm_Kept_do_deed (mg_of X G ke) cl_Kept (fun F=>vI F O dB)
 have fH:iy l.prog w K mg base 9 "Kept" "mark_deed" 3 eT:=lG dm_Kept_mark_deed (mg_of X G ke) cl_Kept (fun F=>tP F O ef J')
 have sF:iy l.prog w K mg base 10 "Kept" "put" 3 kO:=lG dm_Kept_put (mg_of X G ke) cl_Kept (fun F=>B9 F O fH AO QO)
 have qD:iy l.prog w K mg base 10 "Kept" "take" 3 jO:=lG dm_Kept_take (mg_of X G ke) cl_Kept (fun F=>As F O fH AO)
 have nE:iy l.prog w K mg base 9 "Kept" "branch" 4 ip:=lG dm_Kept_branch (mg_of X G ke) cl_Kept (fun F=>xl F B O ef J2)
 have i8:iy l.prog w K mg base 9 "Kept" "whole" 2 gk:=lG dm_Kept_whole (mg_of X G ke) cl_Kept (fun F=>yj F O ef)
 have jQ:iy l.prog w K mg base 8 "Kept" "back" 1 gl:=lG dm_Kept_back (mg_of X G ke) cl_Kept (fun F=>Av F B C O dB J8)
 have oY:iy l.prog w K mg base 8 "Kept" "again" 1 hX:=lG dm_Kept_again (mg_of X G ke) cl_Kept (fun F=>yk F B C O dB)
 have lN:iy l.prog w K mg base 1 "Kept" "tree_now" 1 ig:=lG dm_Kept_tree_now (mg_of X G ke) cl_Kept (fun F=>uY F O)
 have kR:iy l.prog w K mg base 1 "Kept" "rooms_now" 1 gP:=lG dm_Kept_rooms_now (mg_of X G ke) cl_Kept (fun F=>tQ F O)
 have lM:iy l.prog w K mg base 1 "Kept" "lets_now" 1 ii:=lG dm_Kept_lets_now (mg_of X G ke) cl_Kept (fun F=>u0 F B O)
 have n6:bQ l.prog w K mg base 1 "_law_cell" 2 mw:=cO F_q22 m_q22 (P1 F_q22 B)
 have xQ:bQ l.prog w K mg base 1 "_law_mixed" 3 tU:=cO F_q23 m_q23 (P2 F_q23)
 have qC:bQ l.prog w K mg base 2 "_law_draws" 3 mx:=cO F_q24 m_q24 (P3 F_q24 B  xQ)
 have rO:=Fa (P:=l.prog) (w:=w) (base:=base) zo CW B  40
 have J6:bQ l.prog w K mg base 3 "_law_pool" 3 y9:=cO F_q26 m_q26 (P4 F_q26 B  qC)
 have Kk:bQ l.prog w K mg base 1 "_law_marks" 2 Cb:=cO F_q27 m_q27 (P5 F_q27 B)
 have zm:bQ l.prog w K mg base 2 "_law_tree" 2 xn:=cO F_q28 m_q28 (P6 F_q28 B  Kk)
 have Kq:bQ l.prog w K mg base 1 "_law_links" 1 Cc:=cO F_q29 m_q29 (P7 F_q29 B)
 have Kf:bQ l.prog w K mg base 1 "_law_machine" 4 Cd:=cO F_q30 m_q30 (P8 F_q30 B)
 have Kd:bQ l.prog w K mg base 1 "_law_letter" 2 y_:=cO F_q31 m_q31 (P9 F_q31 B)
 have zq:bQ l.prog w K mg base 2 "_law_run" 2 xo:=cO F_q32 m_q32 (P_ F_q32   Kd)
 have Kt:bQ l.prog w K mg base 3 "_law_lets" 2 Ce:=cO F_q33 m_q33 (P' F_q33 B  zq)
 have Kl:bQ l.prog w K mg base 1 "_law_sizes" 1 Cf:=cO F_q34 m_q34 (Qa F_q34)
 have Km:bQ l.prog w K mg base 2 "_law_bounds" 2 Cg:=cO F_q35 m_q35 (Qb F_q35   Kq Kl)
 have J1:bQ l.prog w K mg base 3 "_law_branched" 4 Ch:=cO F_q36 m_q36 (Qc F_q36 B  Km)
 have Ki:bQ l.prog w K mg base 4 "_law_start" 1 Ci:=cO F_q37 m_q37 (Qd F_q37 B  n6 qC Kf J6 zm)
 have Ft:bQ l.prog w K mg base 3 "_law_planned" 5 rK:=cO F_q38 m_q38 (Qe F_q38 B  n6 qC zm)
 have Fs:bQ l.prog w K mg base 4 "_law_changed" 2 qu:=cO F_q39 m_q39 (Qf F_q39 B  J1)
 have rN:bQ l.prog w K mg base 11 "_law_doing" 2 ij:=cO F_q40 m_q40 (Qg F_q40   oY jQ nE sF qD i8)
 have rM:bQ l.prog w K mg base 41 "_law_stands" 4 qv:=cO F_q41 m_q41 (Qh F_q41 B  lM kR lN Kt zq rO)
 have Kc:bQ l.prog w K mg base 12 "_law_refused" 2 Cj:=cO F_q42 m_q42 (Qi F_q42 B C  rN)
 have zk:bQ l.prog w K mg base 42 "_law_walked" 5 vw:=cO F_q43 m_q43 (Qj F_q43   rN rM)
 have CJ:bQ l.prog w K mg base 42 "_law_none_left" 4 xp:=cO F_q44 m_q44 (Ql F_q44   Kc rO rM)
 exact Qm F_q45 B  jt jQ i8 n6 Fs rN xQ CJ Ft rM Ki zk
end P
end
namespace PySem.W.Fast
def tw2297909254804871903:=0
def tw7898461155023063103:=0
def tw12420259433655228094:=0
def tw6939501629812900349:=0
def tw6293648939730291773:=0
def tw5806408391194429500:=0
def tw15489487797452696475:=0
def tw17335659889757178777:=0
def tw14766147140900174521:=0
def tw16150897793909449337:=0
def tw6621349312971490745:=0
def tw4484909076770981049:=0
def tw8824327840188396534:=0
def tw13542608212755478421:=0
def tw1520770395929189204:=0
def tw7551958836279258260:=0
def tw9306587353198681619:=0
def tw6480181339471683121:=0
def tw2662480364244396784:=0
def tw1530302367570984592:=0
def tw17398913913746640112:=0
def tw4784865394670421806:=0
def tw9167533741942935433:=0
def tw6739046812864507848:=0
def tw2687023848988802504:=0
def tw12211577137987819944:=0
def tw6298632058239196935:=0
def tw5899366256893223302:=0
def tw18446562939731026821:=0
def tw7363920555027640805:=0
def tw6343753143315176741:=0
def tw7723930000032339364:=0
def tw11107750497074717571:=0
def tw17635609799104993283:=0
def tw3919192300954864514:=0
def tw10329984180148995424:=0
def tw17921441161216346336:=0
def tw1841397147312677952:=0
def tw12866662263014906868:=0
def tw10390233921647938539:=0
def tw15466556371332373034:=0
def tw3520390145786488683:=0
def tw15191487121427153032:=0
def tw2494471280739333489:=0
def tw16958300717008443617:=0
def tw7244997161475186307:=0
def tw18007359782490822600:=0
def tw18220375276615567517:=0
def tw15605133296508510298:=0
def tw11076201743643436301:=0
def tw5951003581039305934:=0
def tw7901564082026866435:=0
def tw8554893749209280657:=0
def tw17980883701266090648:=0
def tw17193240164682250253:=0
def tw1188176189370034767:=0
def tw10548864613203859467:=0
def tw10222992652018642874:=0
def tw18267032336286453946:=0
def tw9971762238427234082:=0
def tw14769666919721590869:=0
def tw14936833585418978213:=0
def tw3555544056556948075:=0
def tw7404248637083761730:=0
def tw11672182806108860806:=0
def tw762578034352441080:=0
def tw236711931740364325:=0
def tw4732371981487348716:=0
def tw16550677490054787362:=0
def tw1896601261855474971:=0
def tw16792348911062155659:=0
def tw6646336970436375795:=0
def tw7941116699712779220:=0
def tw4550958722956383336:=0
def tw18386307833286263678:=0
def tw391012817815167235:=0
def tw16846868185410151594:=0
def tw12438378608994839494:=0
def tw14047566564532192433:=0
def tw10905618650198470416:=0
def tw993728490379242558:=0
def tw7528466727691440649:=0
def tw16564314079782980557:=0
def tw8717296316896828857:=0
def tw13292183310655751814:=0
def tw4808253438360324053:=0
def tw3062287844133337243:=0
def tw14252311322081374377:=0
def tw5037262208673241011:=0
def tw10842636851312958148:=0
def tw7304525930442406937:=0
def tw8897213769351430569:=0
def tw16105949869278569656:=0
def tw4425426411466177256:=0
def tw18371977005489105924:=0
def tw4510365303676511540:=0
def tw10600977307599484434:=0
def tw769140185609546958:=0
def tw1673447167657769196:=0
def tw12429699401863518883:=0
def tw14454334836707304559:=0
def tw10972797222393955890:=0
def tw10426496636536771391:=0
def tw4386791686981808742:=0
def tw776295015598137149:=0
def tw4906821355369506240:=0
def tw2996265919815723443:=0
def tw3109662893935987179:=0
def tw8050032385406618550:=0
def tw701393511816855003:=0
def tw17150855190325737957:=0
def tw9632566496230077559:=0
def tw12501301184861434969:=0
def tw1774498752586952571:=0
def tw17190968630035698089:=0
def tw10777217431360091647:=0
def tw11058254601522657051:=0
def tw13812743344955197575:=0
def tw1149330631744785652:=0
def tw328866659860297740:=0
def tw2972705125407097598:=0
def tw13560505105736129414:=0
def tw1447375353834267836:=0
def tw1297274711653268498:=0
def tw2390371124016614173:=0
def tw248392087665687138:=0
def tw7865660164654754006:=0
def tw770627447422046417:=0
def tw7282335220993882703:=0
def tw17593686765642302820:=0
def tw7719420241204583127:=0
def tw14267417645052457434:=0
def tw15073802311717091469:=0
def tw12615730587890350954:=0
def tw16642470099716061456:=0
def tw13066348410303962354:=0
def tw3819217457804108263:=0
def tw825545306153210247:=0
def tw8992385230896581723:=0
def tw8748439756182861199:=0
def tw7299491739079911100:=0
def tw13923779931711078457:=0
def tw14292170225619349565:=0
def tw8777237690196792092:=0
def tw5112110415586702666:=0
def tw16081735288961855703:=0
def tw1371682259593966000:=0
def tw7252651827498832256:=0
def tw9443024073522166709:=0
def tw13836234776820461849:=0
def tw1465818569580969637:=0
def tw13060432896619800502:=0
def tw8929340221647210808:=0
def tw5720130302574720220:=0
def tw5311738469078517242:=0
def tw3816907092544593112:=0
def tw3300739775581646846:=0
def tw346268383820017944:=0
def tw15422228246467852197:=0
def tw12654631251498424719:=0
def tw9102613980523368666:=0
def tw3587264450005901620:=0
def tw2173961581280390377:=0
def tw9757792903882010791:=0
def tw1701508379798313286:=0
def tw13375767606894158178:=0
def tw214344657757687752:=0
def tw9960086754055778564:=0
def tw5230728134659971608:=0
def tw7306979279773260477:=0
def tw10900970693732605304:=0
def tw817160554950637239:=0
def tw10996850525500406410:=0
def tw9265795355030358815:=0
def tw5025209435093576728:=0
def tw17164369693208083940:=0
def tw6717936246040771308:=0
def tw17838733291080007256:=0
def tw11234990379009777685:=0
def tw11140382136543532438:=0
def tw17334316173147113409:=0
def tw1875754091321111168:=0
def tw6175629874974136503:=0
def tw9995677803894140945:=0
def tw525165222368149391:=0
def tw3438423902560381636:=0
def tw5249203965573937465:=0
def tw12463707693219696219:=0
def tw6731953026725202208:=0
def tw14033091730404206768:=0
def tw3964844559617425959:=0
def tw7751414939248034816:=0
def tw7349444952037855586:=0
def tw14098196705735739567:=0
def tw3284627897400137193:=0
def tw16247078834668035538:=0
def tw15759080012754019437:=0
def tw14635468299397800402:=0
def tw7074798024745589176:=0
def tw17886664938832930895:=0
def tw16141896064350554649:=0
def tw13416513292238481364:=0
def tw11914650776442070677:=0
def tw989213163449233481:=0
def tw11752421458596022233:=0
def tw6244246207639557001:=0
def tw15503349218013106538:=0
def tw573322732097687434:=0
def tw131114866141795978:=0
def tw1256369634552902099:=0
def tw13858900690516020517:=0
def tw10138217521228419194:=0
def tw8901375168622444535:=0
def tw11242383844381563063:=0
def tw16207635835087826919:=0
def tw9609230204442210735:=0
def tw8655488781020745036:=0
def tw6564005594486193617:=0
def tw4281570797537647137:=0
def tw16941401628964733221:=0
def tw15292750599240633207:=0
def tw11256930504113671493:=0
def tw3326826431622382221:=0
def tw11936760430165411874:=0
def tw11687210552339224199:=0
def tw5974866432711469084:=0
def tw3683522588619703063:=0
def tw3029930299013839117:=0
def tw11264549625704750058:=0
def tw2873454998683621544:=0
def tw12825092142261628450:=0
def tw13564804680588260163:=0
def tw14327211476311949964:=0
def tw15777776543829148705:=0
def tw9252157583552750951:=0
def tw4172332557430646936:=0
def tw17412829878514945584:=0
def tw16931376471915511673:=0
def tw5795244282034847128:=0
def tw17072672792308000124:=0
def tw5165955672799555158:=0
def tw17091672441493640051:=0
def tw10667898062981081014:=0
def tw9683432045844121936:=0
def tw14435311879128364720:=0
def tw9616808798576096870:=0
def tw4580209543655973735:=0
def tw15926282206199717546:=0
def tw11783233348593018506:=0
def tw549653093197280717:=0
def tw2171406765591998576:=0
def tw10480513342973295999:=0
def tw11010720911403421190:=0
def tw6246537846144107813:=0
def tw3263294904198048337:=0
def tw8779454297724694687:=0
def tw6798800378500083296:=0
def tw14140689109297887207:=0
def tw3817436828092394142:=0
def tw17817546878439969453:=0
def tw17011759964614259129:=0
def tw15157104336550951724:=0
def tw2154687802006017489:=0
def tw11368565850266780010:=0
def tw4787436358477702000:=0
def tw9801821477428215393:=0
def tw4458803537718061701:=0
def tw6003560745352892031:=0
def tw1516445237255813699:=0
def tw455016401748934258:=0
def tw10058075401394778892:=0
def tw8040057401930163085:=0
def tw10476743679572215172:=0
def tw7343161850028347226:=0
def tw17469388447629482951:=0
def tw13019601304776470778:=0
def tw6442982139534903332:=0
def tw14856482756623113430:=0
def tw12272603988916406206:=0
def tw13894590667358426494:=0
def tw10952424181660726257:=0
def tw12511528550788559430:=0
def tw12207016976654203600:=0
def tw15935331482222429829:=0
def tw16487234629972029360:=0
def tw17869241854461465285:=0
def tw15848911547926809873:=0
def tw8525923455572443774:=0
def tw10552120302917658385:=0
def tw9079655442214368274:=0
def tw7305094185152220095:=0
def tw1479957307386415081:=0
def tw13093392035022113042:=0
def tw7501423786622994552:=0
def tw15919579480120855376:=0
def tw15029122367294234432:=0
def tw5143733104668832891:=0
def tw4186944274031056509:=0
def tw11925515636794129971:=0
def tw11106513189134489145:=0
def tw8624436227477954465:=0
def tw6786629150071214712:=0
def tw9260922765416828852:=0
def tw7594294066067800047:=0
def tw3000350343718246301:=0
def tw18292349462706896665:=0
def tw11098709984247440452:=0
def tw10619269435001892766:=0
def tw10378895890930208186:=0
def tw3779259828917650304:=0
end PySem.W.Fast
open PySem PySem.W PyProof.Rows
set_option maxRecDepth 100000 in
set_option maxHeartbeats 0 in
theorem PySem.Challenge.cw_trunksay_k66_whole_to_and_fro_holds : PySem.Challenge.rw_trunksay_k66_whole_to_and_fro.Holds := by
 w_on; o_law; k_head; (case hw => w_witness2)
 k_fill
 refine L2.walkW (l := PySem.Challenge.rw_trunksay_k66_whole_to_and_fro) (k := 43) (x := "_law_script") (G := P.f_q45) rfl rfl ⟨rfl, by decide, by decide⟩ (fun w h Y => PySem.W.kIn_of Y) ?F P.law_ok
 case F =>
  intro w mg fa h KX G hmg
  refine' P.all_mk KX G hmg ?_ ?_ ?_ ?_ ?_ ?_ ?_ ?_ ?_ ?_ ?_ ?_ ?_ ?_ ?_ ?_ ?_ ?_ ?_ ?_ ?_ ?_ ?_ ?_ ?_ ?_ ?_ ?_ ?_ ?_ ?_ ?_ ?_ ?_ ?_ ?_ ?_ ?_ ?_ ?_ ?_ ?_ ?_ ?_ ?_ ?_ ?_ ?_ ?_ ?cl_Kept ?_ ?_ ?_ ?_ ?_ ?_ ?_ ?_ ?dm_Kept___init__ ?dm_Kept_carry_out ?dm_Kept_do_deed ?dm_Kept_mark_deed ?dm_Kept_put ?dm_Kept_take ?dm_Kept_branch ?dm_Kept_whole ?dm_Kept_back ?dm_Kept_again ?dm_Kept_tree_now ?dm_Kept_rooms_now ?dm_Kept_lets_now ?_ ?_ ?_ ?_ ?_ ?_ ?_ ?_ ?_ ?_ ?x_TrunkError ?_ ?_ ?_ ?w_TrunkError_NoPlace ?w_TrunkError_NothingDone ?w_TrunkError_TooGreat ?w_TrunkError_t0 ?w_TrunkError_VE ?x_NoPlace ?_ ?_ ?_ ?w_NoPlace_NoPlace ?w_NoPlace_NothingDone ?w_NoPlace_TooGreat ?w_NoPlace_t0 ?w_NoPlace_VE ?x_TooGreat ?_ ?_ ?_ ?w_TooGreat_NoPlace ?w_TooGreat_NothingDone ?w_TooGreat_TooGreat ?w_TooGreat_t0 ?w_TooGreat_VE ?x_NothingDone ?_ ?_ ?_ ?w_NothingDone_NoPlace ?w_NothingDone_NothingDone ?w_NothingDone_TooGreat ?w_NothingDone_t0 ?w_NothingDone_VE ?u_TrunkError_TrunkError ?u_NoPlace_TrunkError ?u_TooGreat_TrunkError ?u_NothingDone_TrunkError ?_ ?_ ?_ ?_ ?_ ?_ ?_ ?_ ?_ ?_ ?_ ?_ ?_ ?_ ?_ ?_
  any_goals (refine' L2.DefIn.mk ?a ?l ?c ?k; (case a => k_is); (case l => k_is); (case c => k_is); (case k => k_is))
  any_goals k_is
  (case cl_Kept => exact ⟨by kernel_rfl, by kernel_rfl, by kernel_rfl, by first | k_is | kernel_rfl⟩)
  (case dm_Kept___init__ => (refine' L2.DefM.mk ?a ?i ?l ?c ?k; (case a => k_is); (case i => first | k_is | kernel_rfl); (case l => k_is); (case c => k_is); (case k => k_is)))
  (case dm_Kept_carry_out => (refine' L2.DefM.mk ?a ?i ?l ?c ?k; (case a => k_is); (case i => first | k_is | kernel_rfl); (case l => k_is); (case c => k_is); (case k => k_is)))
  (case dm_Kept_do_deed => (refine' L2.DefM.mk ?a ?i ?l ?c ?k; (case a => k_is); (case i => first | k_is | kernel_rfl); (case l => k_is); (case c => k_is); (case k => k_is)))
  (case dm_Kept_mark_deed => (refine' L2.DefM.mk ?a ?i ?l ?c ?k; (case a => k_is); (case i => first | k_is | kernel_rfl); (case l => k_is); (case c => k_is); (case k => k_is)))
  (case dm_Kept_put => (refine' L2.DefM.mk ?a ?i ?l ?c ?k; (case a => k_is); (case i => first | k_is | kernel_rfl); (case l => k_is); (case c => k_is); (case k => k_is)))
  (case dm_Kept_take => (refine' L2.DefM.mk ?a ?i ?l ?c ?k; (case a => k_is); (case i => first | k_is | kernel_rfl); (case l => k_is); (case c => k_is); (case k => k_is)))
  (case dm_Kept_branch => (refine' L2.DefM.mk ?a ?i ?l ?c ?k; (case a => k_is); (case i => first | k_is | kernel_rfl); (case l => k_is); (case c => k_is); (case k => k_is)))
  (case dm_Kept_whole => (refine' L2.DefM.mk ?a ?i ?l ?c ?k; (case a => k_is); (case i => first | k_is | kernel_rfl); (case l => k_is); (case c => k_is); (case k => k_is)))
  (case dm_Kept_back => (refine' L2.DefM.mk ?a ?i ?l ?c ?k; (case a => k_is); (case i => first | k_is | kernel_rfl); (case l => k_is); (case c => k_is); (case k => k_is)))
  (case dm_Kept_again => (refine' L2.DefM.mk ?a ?i ?l ?c ?k; (case a => k_is); (case i => first | k_is | kernel_rfl); (case l => k_is); (case c => k_is); (case k => k_is)))
  (case dm_Kept_tree_now => (refine' L2.DefM.mk ?a ?i ?l ?c ?k; (case a => k_is); (case i => first | k_is | kernel_rfl); (case l => k_is); (case c => k_is); (case k => k_is)))
  (case dm_Kept_rooms_now => (refine' L2.DefM.mk ?a ?i ?l ?c ?k; (case a => k_is); (case i => first | k_is | kernel_rfl); (case l => k_is); (case c => k_is); (case k => k_is)))
  (case dm_Kept_lets_now => (refine' L2.DefM.mk ?a ?i ?l ?c ?k; (case a => k_is); (case i => first | k_is | kernel_rfl); (case l => k_is); (case c => k_is); (case k => k_is)))
  (case x_TrunkError => k_exc)
  (case w_TrunkError_NoPlace => kernel_rfl)
  (case w_TrunkError_NothingDone => kernel_rfl)
  (case w_TrunkError_TooGreat => kernel_rfl)
  (case w_TrunkError_t0 => kernel_rfl)
  (case w_TrunkError_VE => kernel_rfl)
  (case x_NoPlace => k_exc)
  (case w_NoPlace_NoPlace => kernel_rfl)
  (case w_NoPlace_NothingDone => kernel_rfl)
  (case w_NoPlace_TooGreat => kernel_rfl)
  (case w_NoPlace_t0 => kernel_rfl)
  (case w_NoPlace_VE => kernel_rfl)
  (case x_TooGreat => k_exc)
  (case w_TooGreat_NoPlace => kernel_rfl)
  (case w_TooGreat_NothingDone => kernel_rfl)
  (case w_TooGreat_TooGreat => kernel_rfl)
  (case w_TooGreat_t0 => kernel_rfl)
  (case w_TooGreat_VE => kernel_rfl)
  (case x_NothingDone => k_exc)
  (case w_NothingDone_NoPlace => kernel_rfl)
  (case w_NothingDone_NothingDone => kernel_rfl)
  (case w_NothingDone_TooGreat => kernel_rfl)
  (case w_NothingDone_t0 => kernel_rfl)
  (case w_NothingDone_VE => kernel_rfl)
  (case u_TrunkError_TrunkError => kernel_rfl)
  (case u_NoPlace_TrunkError => kernel_rfl)
  (case u_TooGreat_TrunkError => kernel_rfl)
  (case u_NothingDone_TrunkError => kernel_rfl)
