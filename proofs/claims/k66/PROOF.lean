import PyProof.Rows.All
import Wide.All
import OpenK.AllK
import Wide.FinOn
import Lean
import PyProof.EqAt
import PyProof.EqKinds
import PyProof.TupleCall
import PyProof.StrLawsIn
import PyProof.StationsW
import PyProof.NeData
import OpenK.KOwn
import PyProof.NsDelKeeps
import PyProof.ExcArgsOwn
import PyProof.ExcAttrAll.ValueError
import PyProof.IsiH_tuple
import KE.KIsAll
import PyProof.CollectStr
import PyProof.ZipIter
import PyProof.Rows.ZipGen
import PyProof.JoinWalk
import PyProof.CollectIter
import PyProof.EnumMake
import PyProof.SumAny
import PyProof.MeetsSeq3
import PyProof.ListRange
import PyProof.ListNew
import PyProof.DictUpdate
import PyProof.FitsBits
import PyProof.StrCalls6
import PySem.Challenge.RW_trunksay_k66_whole_to_and_fro
set_option Elab.async false
set_option linter.all false
set_option genSizeOf false
set_option maxRecDepth 100000

def tv0:=trivial
set_option hygiene false
local macro_rules|`(tactic|walk_at "1")=>`(tactic|refine⟨μ,ρ,st,l,RK.bind h l fun μ1 st1 x v H1 p1 x1 l1 q1 h1=>?_⟩)
local macro_rules|`(tactic|walk_at "2")=>`(tactic|obtain⟨μ,ρ,st,l,h⟩:=h)
local macro_rules|`(#[0])=>`(by omega)
local macro_rules|`(#[1])=>`(bf C (.nd l r m))
local macro_rules|`(#[2])=>`(fA X nm scope (cellsFrom (G2.objs.size+1) scope.names []++cl) G2.objs.size s2 H1 fp)
local macro_rules|`(#[3])=>`(by decide)
local macro_rules|`(#[4])=>`(model X.prog X.w)
local macro_rules|`(#[5])=>`(.loc st.length)
local macro_rules|`(#[6])=>`(model prog w)
local macro_rules|`(#[7])=>`(s.heap.objs.size+1)
local macro_rules|`(#[8])=>`(Option Nat×Option Nat)
local macro_rules|`(#[9])=>`(cC (aY (bw kx bJ (dZ rfl))) c_)
local macro_rules|`(#[10])=>`(d6 X nm scope cl C s0 H0 fp)
local macro_rules|`(#[11])=>`(.ListComp sI [⟨tg,et,oq,0⟩] scope pos)
local macro_rules|`(#[12])=>`(ws.map some++List.replicate (N-ws.length) none)
local macro_rules|`(#[13])=>`((relabel scope X.env).names.lookup x=some .cell\/(relabel scope X.env).names.lookup x=some .free)
local macro_rules|`(#[14])=>`(.nd (if s then x else l) (if s then r else x) m)
local macro_rules|`(#[15])=>`(by simp)
local macro_rules|`(#[16])=>`(st++[.lst (cZ (sz.take i))])
local macro_rules|`(#[17])=>`(gP O.Kept (ae 0))
local macro_rules|`(#[18])=>`((e::es).length+([]:List Keyword).length+(if ([]:List Keyword).isEmpty then 0 else 1)<30)
local macro_rules|`(#[19])=>`(be (ae 1) aB)
local macro_rules|`(#[20])=>`(excClassObj nm q C N bs bm hdct sn sub ab col dd k0 k1 k2 k3 k5 qF)
set_option hygiene true
open Array renaming length_toList→eG,getElem?_eq_getElem→eQ,getElem?_toList→fT,eq_empty_of_size_eq_zero→gW,getD_eq_getD_getElem?→mh,toList_push→nj
open Bool renaming and_eq_true→dD,and_true→dM,false_ne_true→eV,not_eq_true'→fm,false_eq_true→fQ,or_false→nI,eq_iff_iff→pS
open Int renaming toNat_natCast→cf,natCast_add→gf,natCast_mul→jA,emod_nonneg→jB,fdiv_eq_ediv_of_nonneg→mI,emod_lt_of_pos→mQ,mul_comm→pE,zero_add→uj
open LawfulBEq renaming eq_of_beq→om
open List renaming length_append→ai,getElem?_eq_getElem→aj,append_assoc→al,prefix_refl→aq,getElem?_eq_some_iff→ax,length_map→aE,length_take→aF,getElem?_map→aG,getD_eq_getElem?_getD→aI,mem_append_right→aP,getElem?_append_left→aR,getElem?_append_right→aS,size_toArray→aT,mem_append→aV,mem_cons_of_mem→aW,mem_cons→aX,mem_singleton→aZ,append_nil→a8,prefix_append→a_,take_of_length_le→bn,map_cons→bt,length_singleton→bu,mem_append_left→bB,getElem?_eq_none→bE,map_append→bH,length_cons→b6,pairwise_cons→b7,getElem?_set_self→b9,take_append_of_le_length→b_,length_drop→cm,map_map→cq,mem_cons_self→cu,getElem?_take_of_lt→cy,mem_of_getElem?→cz,reverse_cons→cE,take_length→cK,getElem?_set_ne→cM,mem_map→c8,drop_eq_getElem_cons→dE,flatten_append→dF,getElem_mem→dS,nil_append→eK,not_mem_nil→eW,map_congr_left→fy,getElem?_reverse→fU,filterMap_cons→gF,getElem?_range→gI,length_reverse→gJ,reverse_append→gK,take_left→gZ,eq_nil_of_length_eq_zero→hJ,length_eq_one_iff→ia,drop_left'→im,ext_getElem?→iJ,mem_filter→jw,nodup_cons→jy,lookup_append→jI,getElem?_replicate→jS,map_id→jU,take_add_one→kr,length_filter_le→kG,lookup_cons→kW,forIn_cons→lT,take_left'→lX,filter_eq_self→l6,mem_range→mF,mem_filterMap→mH,contains_cons→mP,take_take→mS,length_range→ni,nodup_append→nn,flatten_cons→nq,map_take→nK,map_drop→nL,getElem_map→oo,range_succ_eq_map→ph,drop_eq_nil_of_le→pi,drop_of_length_le→pz,set_set→pF,of_mem_zip→pO,length_set→pP,set_append_right→p5,dropLast_eq_take→p6,forIn_nil→qI,take_zero→qL,sum_cons→rY,map_set→uk
open List.Perm renaming refl→iT,append_left→pZ
open Nat renaming le_of_ble_eq_true→ao,le_refl→aA,lt_of_lt_of_le→aL,le_trans→aN,ne_of_lt→a9,le_succ→bp,zero_le→bZ,lt_succ_self→ce,lt_succ_of_lt→cX,lt_irrefl→dL,ne_of_gt→eu,min_eq_left→gc,le_of_lt→gp,le_succ_of_le→iG,zero_lt_succ→jb,lt_of_le_of_lt→jH,not_lt→jJ,lt_of_succ_lt_succ→ko,not_lt_zero→lV,zero_add→mi,add_assoc→nM,le_add_right→oh,add_zero→uf,lt_trans→ui
open Option renaming map_eq_some_iff→fE
open Option.some renaming inj→bg
open PyProof.Rows renaming callWith_type1→dU,slot_tuple_getitem→eO,boot_tuple→fx,boot_isinstance→jz,callWith_builtin1→kU,subscriptTail_builtinR→pd,sorted_out_str→qJ,boot_sorted→qM,boot_int→qN,Constant_none→rR,strKind_oneLt→rW,keyKind_strs→ug,boot_bool→vc
open PyProof.Rows.F renaming plain_set_update_loop→fz,entry_set_update_loop→jk
open PySem renaming wpAny_bind→af,wpAny_pure→ay,boot_len→bM,wpAny_callSpecial?_slot→bU,wpAny_call_entry→cn,wpAny_newObj_type→cD,wpAny_setField_rec→cH,wpAny_field→df,wpAny_holding→dw,wpAny_loadPart'→dy,codeAny_builtin→dz,wpAny_seqItems→eD,isSubtype_type→eF,wpAny_loadPart_at→fq,plainId_quiet→fH,wpAny_pyIter_tuple→fO,wpAny_Call_Name_kw→fR,wpAny_passesOwn→gb,wpAny_setState_of→gq,wpAny_setEntries_of→gH,wpAny_isInstance→gY,wpAny_attempt→iy,wpAny_truthy_bool→iH,wpAny_nameGoes_keeps→iV,wpAny_typeOf→ja,wpAny_isSubtype_exc→jl,wpAny_execs_nil→jx,wpAny_mono→jG,wpAny_pyNext_ascii_item→jT,wpAny_pyNext_wide_item→kj,wpAny_rule→kX,sizeLine_eq→lv,codeAny_call_builtin→lD,wpAny_updateSeq_pair→lE,pushCells_keeps→lS,typeIs_str→mJ,wpAny_pyIter_ascii→mK,isSubtype_stop→mL,wpAny_fieldsOf→mM,wpAny_pyIter_wide→nh,wpAny_onRaise→nJ,noFill_tuple_add→ol,wpAny_askSetting→on,wpAny_Call_method_late→py,wpAny_noteFrame_againW→pD,wpAny_ite_split→pQ,wpAny_updateSeq→pR,wpAny_storeName_local→pV,wpAny_isTrue_Compare1→pW,builtinLookup_eq_fast→pY,wpAny_loadPart→qH,wpAny_runValue→qK,wpAny_standAt→rS,seq_tuple_add→rV,wpAny_call→sN,call_meets→sO,concat_meets→ud,seqIndex_neg→ue,wpAny_landsW→uh,putSet_of→vb
open PySem.Around renaming under_plainId→c6
open PySem.Calls renaming spliced_cons→fP,spliced_nil→iI,callWith_builtin→km,evalArgs_plain→ly,Name_function_global→mG,call_function_entry→mV
open PySem.F renaming slot_tuple_iterator_next→fS,typeOf_object_class→kE,args_tuple_iterator_next_1→lU,slot_zip_next→lW,entry_tuple_iterator_next→mf,slot_enumerate_next→pX
open PySem.Heap renaming get?_push_of_some→aw,get?_push_size→aC,lt_size→aJ,size_push→bx,get?_update_other→cN,get?_update_self→dI
open PySem.Heap.SameBut renaming update→ji
open PySem.SeqAt renaming str_beq→rX
open PySem.StrLaws renaming glued_eq_join→iB
open PySem.Value renaming isStrOf_shape→lZ
def aK:=@if_pos
def aU:=@if_neg
def a7:=@decide_eq_false
def bq:=@beq_eq_false_iff_ne
def bG:=@decide_eq_true
def dv:=@beq_iff_eq
def gG:=@if_true
def gX:=@if_false
def il:=@congrArg
def i':=@PySem.codeAny_mono
def mO:=@or_false
def mR:=@congrFun
def mT:=@decide_eq_true_iff
set_option compiler.extract_closed false
noncomputable section
variable{M:PySem.Model}{p pos i_ gT p2 eN:PySem.Pos}{s:PySem.Shared}{α β:Type}{A:PySem.Around}{E Q Qv:PySem.Value->PySem.Shared->Prop}{nk n n' t' N i j k kk ep q L:Nat}{x name fN:PySem.Str}{v u:PySem.Value}{us bO:List PySem.Value}{o e c tg et sI:PySem.Expr}{P prog:PySem.Program}{h h' base:PySem.Heap}{ak pins':List (PySem.Addr×PySem.Obj)}{g':Array PySem.GenState}{ch fp μ μ':List PySem.Addr}{it C:PySem.Addr}{op:PySem.CmpOp}{K:PySem.W.Frag}{es oq xL:List PySem.Expr}{g:PySem.Value->PySem.Value->PySem.Sem PySem.Value}{body:List PySem.Stmt}{f:Option Nat×Option Nat->Option Nat}{mA mg:PySem.Str->Option PySem.Value}{pl:PySem.Sem Bool}{kw:List (PySem.Str×PySem.Value)}{env:PySem.Env}{fd:PySem.FuncData}{ps ks nm:List PySem.Str}{outer:List PySem.Env}{kindOf:PySem.Str->Option PySem.NameKind}{scope:PySem.Scope}{T:String}{l m S pool:List Nat}{XP:(PySem.Str->Option PySem.Value)->PySem.Heap->Prop}{YP:PySem.World->PySem.Heap->Prop}{ns:List Int}{cl:List (PySem.Str×PySem.Addr)}{cap B:List (Option Nat)}{use:Option (PySem.Value->PySem.Sem Unit)}{ls:List (List Nat)}
open PySem.W (Frag)
open PySem.W (instObj hideAll lookIn plainGet findIn isFn makesIn emptyDict keepIn kitOne kia_one fnOf codeIn excIn kitAny nsIn mg_of mg_none_of)
namespace L2
open PySem PySem.Spec PyProof.Rows
theorem zv{Γ:PySem.Ctx}{t:Sem Fin}{fs:List Frame}{s':Shared}{e:End}(h:Runs M Γ p t fs s e s'):s.toks<=s'.toks:=by
 induction h
 case fresh ih=>exact aN (bp _) ih
 case call i1 i2=>exact aN i1 i2
 case resumeFresh i1 i2=>exact aN i1 i2
 case resumeSuspended i1 i2=>exact aN i1 i2
 case segRet i1 i2=>exact aN i1 i2
 case segGen i1 i2=>exact aN i1 i2
 case segSuspGen i1 i2=>exact aN i1 i2
 all_goals first|exact aA _|assumption
theorem GR{Γ:PySem.Ctx}{g:Nat}{r:Resume}{s':Shared}{res:GenResult}(h:Wakes M Γ p g r s res s'):s.toks<=s'.toks:=by
 unfold Wakes at h
 split at h
 ·exact h.elim
 ·split at h
  ·obtain⟨e,s1,h1,_,_,rfl⟩:=h;have q:=zv h1;exact q
  ·rw[h.2];exact aA _
  ·rw[h.2];exact aA _
 ·obtain⟨e,s1,h1,_,_,rfl⟩:=h;have q:=zv h1;exact q
 ·rw[h.2];exact aA _
 ·rw[h.2];exact aA _
theorem Rc{Γ:PySem.Ctx}(n:Nat)(m:Sem α):∀{Q:α->Pos->Shared->Prop} {E:Value->Pos->Shared->Prop} {p:Pos} {s:Shared},n<=s.toks->Sem.wp M Γ m Q E p s ->
  Sem.wp M Γ m (fun a p' s'=>n<=s'.toks/\Q a p' s') (fun e p' s'=>n<=s'.toks/\E e p' s') p s:=by
 induction m
 all_goals intro Q E p s hn h
 all_goals (first|(rename_i ih)|skip)
 all_goals (try simp only[Sem.wp]at h ⊢)
 all_goals first
  |exact⟨hn,h⟩
  |exact ih _ hn h
  |exact ih _ (iG hn) h
  |(obtain⟨o,h1,h2⟩:=h;exact⟨o,h1,ih _ hn h2⟩)
  |exact⟨h.1,ih _ hn h.2⟩
  |(obtain⟨r,s',h1,h2⟩:=h;exact⟨r,s',h1,ih _ (aN hn (zv h1)) h2⟩)
  |(obtain⟨r,s',h1,h2⟩:=h;exact⟨r,s',h1,ih _ (aN hn (GR h1)) h2⟩)
theorem up{m:Sem α}{Q:α->Shared->Prop}(h:wpAny M A m (fun a s'=>s.toks<=s'.toks->Q a s') (fun e s'=>s.toks<=s'.toks->E e s') s):wpAny M A m Q E s:=fun Γ p hΓ=>
 Sem.wp_mono M Γ m (fun a p' s' h'=>h'.2 h'.1) (fun e p' s' h'=>h'.2 h'.1) p s (Rc s.toks m (aA _) (h Γ p hΓ))
end L2
namespace L2
open PySem PySem.Spec PyProof.Rows
noncomputable abbrev v_:=Sum Int Str
def Mp:v_->Value->Bool
 |.inl k,v=>Value.isInt k v
 |.inr x,v=>Value.isStrOf x v
def UP(w:World):v_->Int
 |.inl k=>hashInt k
 |.inr x=>hashStr w x
theorem gg:∀{k:v_} {v:Value},Mp k v=true->(∃i t,k=Sum.inl i/\v=Value.int i t)\/(∃x t,k=Sum.inr x/\v=Value.str x t)
 |.inl i,v,h=>by
  obtain⟨t,e⟩:=Value.isInt_shape (k:=i) (v:=v) h
  exact .inl ⟨i,t,rfl,e⟩
 |.inr x,v,h=>by
  obtain⟨t,e⟩:=lZ (x:=x) (v:=v) h
  exact .inr ⟨x,t,rfl,e⟩
theorem NS(a b:Int):decide ((Sum.inl a:v_)=Sum.inl b)=(a==b):=by
 by_cases e:a=b
 ·subst e;simp
 ·have h:¬ (Sum.inl a:v_)=Sum.inl b:=fun q=>e (Sum.inl.inj q)
  rw[a7 h]
  exact(bq.mpr e).symm
theorem NT(a b:Str):decide ((Sum.inr a:v_)=Sum.inr b)=decide (a=b):=by
 by_cases e:a=b
 ·subst e;simp
 ·have h:¬ (Sum.inr a:v_)=Sum.inr b:=fun q=>e (Sum.inr.inj q)
  rw[a7 h,a7 e]
theorem NU(a:Int)(b:Str):decide ((Sum.inl a:v_)=Sum.inr b)=false:=a7 (fun q=>nomatch q)
theorem NV(a:Str)(b:Int):decide ((Sum.inr a:v_)=Sum.inl b)=false:=a7 (fun q=>nomatch q)
def EG(prog:Program)(w:World):PySem.KeyKind prog w v_ where
 is:=Mp
 hash:=UP w
 inj:=fun v a b ha hb=>by
  rcases gg ha with⟨i,t,rfl,rfl⟩|⟨x,t,rfl,rfl⟩
  ·rcases gg hb with⟨j,u,rfl,e⟩|⟨y,u,rfl,e⟩
   ·injection e with e1 _;rw[e1]
   ·exact nomatch e
  ·rcases gg hb with⟨j,u,rfl,e⟩|⟨y,u,rfl,e⟩
   ·exact nomatch e
   ·injection e with e1 _;rw[e1]
 byValue:=fun k v h=>by
  rcases gg h with⟨i,t,rfl,rfl⟩|⟨x,t,rfl,rfl⟩<;>rfl
 pyHash:=fun hv h=>by
  rcases gg hv with⟨i,t,rfl,rfl⟩|⟨x,t,rfl,rfl⟩
  ·exact wpAny_pyHash_int h
  ·exact wpAny_pyHash_str h
 eqBool:=fun hu hv h=>by
  rcases gg hu with⟨i,t,rfl,rfl⟩|⟨x,t,rfl,rfl⟩
  ·rcases gg hv with⟨j,u,rfl,rfl⟩|⟨y,u,rfl,rfl⟩
   ·rw[NS]at h;exact wpAny_eqBool_int h
   ·rw[NU]at h;exact SeqAt.EqAt.int_str i t y u _ _ _ _ h
  ·rcases gg hv with⟨j,u,rfl,rfl⟩|⟨y,u,rfl,rfl⟩
   ·rw[NV]at h;exact SeqAt.EqAt.str_int x t j u _ _ _ _ h
   ·rw[NT]at h;exact wpAny_eqBool_str h
 «strs»:=fun k x t v h=>by
  rcases gg h with⟨i,u,rfl,e⟩|⟨y,u,rfl,e⟩
  ·exact nomatch e
  ·injection e with e1 _
   subst e1
   cases v<;>rfl
end L2
namespace L2
open PySem PySem.Spec PyProof.Rows
inductive V where
 |non|bl (b:Bool)|int (i:Int)|str (x:Str)|byt (b:Array UInt8)|flt (b:UInt64)|ref (a:Addr)|ty (n:String)
 deriving DecidableEq
def Tk(n:Nat)(x:Str):Type:={ t:Tok // x.length=1->0<t/\t<n }
instance {n:Nat} {x:Str}:CoeOut (Tk n x) Tok:=⟨fun t=>t.1⟩
noncomputable def Tk.up(h:n<=n')(t:Tk n x):Tk n' x:=⟨t.1,fun e=>⟨(t.2 e).1,aL (t.2 e).2 h⟩⟩
def dA(n:Nat):V->Value->Prop
 |.non,u=>u=Value.none
 |.bl b,u=>u=Value.bool b
 |.int i,u=>∃t,u=Value.int i t
 |.str x,u=>∃t:Tk n x,u=Value.str x t.1
 |.byt b,u=>∃t,u=Value.bytes b t
 |.flt b,u=>∃t,u=Value.float b t
 |.ref a,u=>u=Value.ref a
 |.ty n,u=>u=Value.type n
theorem dA.up(h:n<=n'){v:V}(r:dA n v u):dA n' v u:=by
 cases v with
 |str x=>obtain⟨t,e⟩:=r;exact⟨t.up h,e⟩
 |_=>exact r
abbrev cL(n:Nat):List V->List Value->Prop:=Paired (dA n)
theorem cL.up(h:n<=n'):∀{xs:List V} {us:List Value},cL n xs us->cL n' xs us
 |_,_,.nil=>.nil
 |_,_,.cons r t=>.cons (r.up h) (cL.up h t)
theorem cL.length{xs:List V}(r:cL nk xs us):xs.length=us.length:=Paired.length r
theorem cL.get:∀{xs:List V} {us:List Value} {i:Nat} {x:V},cL nk xs us->xs[i]?=some x->∃u,us[i]?=some u/\dA nk x u
 |_,_,_,_,.nil,e=>by simp at e
 |_,_,0,_,.cons r _,e=>by simp at e;subst e;exact⟨_,rfl,r⟩
 |_,_,i+1,x,.cons _ t,e=>by
  obtain⟨u,h1,h2⟩:=cL.get (i:=i) (x:=x) t (by simpa using e)
  exact⟨u,by simpa using h1,h2⟩
theorem cL.set{x:V}(r:dA nk x u):∀{xs:List V} {us:List Value} (i:Nat),cL nk xs us->cL nk (xs.set i x) (us.set i u)
 |_,_,_,.nil=>.nil
 |_,_,0,.cons _ t=>.cons r t
 |_,_,i+1,.cons q t=>.cons q (cL.set r i t)
theorem cL.append:∀{xs ys:List V} {us ws:List Value},cL nk xs us->cL nk ys ws->cL nk (xs++ys) (us++ws)
 |_,_,_,_,.nil,s=>s
 |_,_,_,_,.cons r t,s=>.cons r (cL.append t s)
theorem cL.take:∀{xs:List V} {us:List Value} (n:Nat),cL nk xs us->cL nk (xs.take n) (us.take n)
 |_,_,0,_=>.nil
 |_,_,_+1,.nil=>.nil
 |_,_,n+1,.cons r t=>.cons r (cL.take n t)
theorem cL.drop:∀{xs:List V} {us:List Value} (n:Nat),cL nk xs us->cL nk (xs.drop n) (us.drop n)
 |_,_,0,r=>r
 |_,_,_+1,.nil=>.nil
 |_,_,n+1,.cons _ t=>cL.drop n t
def uo(n:Nat):Option V->Option Value->Prop
 |some v,some u=>dA n v u
 |none,none=>True
 |_,_=>False
theorem uo.up(h:n<=n'):∀{o:Option V} {u:Option Value},uo n o u->uo n' o u
 |some _,some _,r=>dA.up h r
 |none,none,_=>trivial
 |none,some _,r=>r
 |some _,none,r=>r
def KV{κ:Type}(n:Nat):List (κ×V)->List (κ×Value)->Prop:=Paired fun(p:κ×V) (q:κ×Value)=>p.1=q.1/\dA n p.2 q.2
def kV:v_->V
 |.inl i=>.int i
 |.inr x=>.str x
inductive HO where
 /-- a list -/
 |lst (xs:List V)
 /-- a tuple (never changes) -/
 |tup (xs:List V)
 /-- a dict whose keys are ints and texts;one whose keys are tuples of ints and texts (the empty one is both) -/
 |dK (hG:List (v_×V))|dT (hG:List (List v_×V))
 /-- a set of ints: bO members,bO size -/
 |set (S:Int->Bool) (n:Nat)
 /-- an instance of the class at C,bO dict at dx,bO attributes -/
 |ins (C dx:Addr) (fs:List (Str×V))
 /-- the dict of the instance at x -/
 |own (x:Addr)
 /-- the dict of an exception -/
 |xd (fs:List (Str×V))
 /-- a bound method,f of x -/
 |met (f x:Addr)
 /-- a range object lo,lo+1,.. below hi -/
 |rng (lo hi:Int)
 /-- a thing that is known to the object (the script;a dict while a loop walks it): read,never written while it is so -/
 |frz (o:Obj) (u:HO)
 /-- a code object's table -/
 |tbl (ps:Array Value)
 /-- any other thing,by what is true of bO one object (a def of Wf own: SetO a S n:=HO.ext fun h=>..) -/
 |ext (φ:Heap->Prop)
noncomputable abbrev Hp:=Addr->Option HO
def fW(H:Hp)(a:Addr)(o:HO):Hp:=fun b=>if b=a then some o else H b
theorem ib{H:Hp}{a:Addr}{o:HO}:fW H a o a=some o:=by unfold fW;rw[aK rfl]
theorem cY{H:Hp}{a b:Addr}{o:HO}(h:b≠a):fW H a o b=H b:=by unfold fW;rw[aU h]
theorem fJ{H:Hp}{a b:Addr}{o:HO}(h:H a=some o)(h':H b=none):a≠b:=by
 intro e;subst e;rw[h]at h';cases h'
section
variable(P:Program)(w:World)
def g9(n:Nat)(H:Hp)(h:Heap)(a:Addr):HO->Prop
 |.lst xs=>xs.length<=sizeLine/\∃(bO:List Value) (m:Nat),cL n xs bO/\h.get? a=some { cls:=.type "list",data:=.seq bO.toArray m }
 |.tup xs=>xs.length<=sizeLine/\∃bO:List Value,cL n xs bO/\IsTup h a bO.toArray
 |.dK hG=>hG.length<=sizeLine/\(a==sysModules)=false/\∃vs,KV n hG vs/\h.DictOf (EG P w) a vs
 |.dT hG=>hG.length<=sizeLine/\(a==sysModules)=false/\∃xs:List (List v_×Addr×Value),
   Paired (fun(p:List v_×V) (q:List v_×Addr×Value)=>p.1=q.1/\H q.2.1=some (.tup (p.1.map kV))/\dA n p.2 q.2.2) hG xs /\
   ∃o es ep,h.get? a=some o/\o.ExactDict/\o.data=.dict es ep/\es.toList=xs.map (entryOfKey (tupleKind (EG P w)))/\(xs.map (·.1)).Nodup
 |.set S m=>h.SetOf (intKind P w) a S m
 |.ins C dx fs=>H dx=some (.own a)/\fs.length<=1000/\dx≠a/\h.get? a=some (instObj C dx) /\
   ∃mA,h.Ns1 dx mA/\(∀f,uo n (fs.lookup f) (mA f))/\PySem.Within mA (fs.map (·.1))
 |.own _=>∃o,h.get? a=some o
 |.xd fs=>∃mA,h.Ns1 a mA/\∀f,uo n (fs.lookup f) (mA f)
 |.rng lo hi=>∃t u v,h.get? a=some { cls:=.type "range",data:=.fields #[.int lo t,.int hi u,.int 1 v] }
 |.frz o u=>h.get? a=some o/\g9 n H h a u
 |.tbl ps=>h.get? a=some { cls:=.none,data:=.fields ps }
 |.met f x=>h.get? a=some (PySem.W.methodObj (.ref f) (.ref x))
 |.ext φ=>φ h/\(∃o,h.get? a=some o)/\∀h1 h2:Heap,φ h1->(∀o,h1.get? a=some o->h2.get? a=some o)->φ h2
def ul(n:Nat)(H:Hp)(h:Heap):Prop:=∀a o,H a=some o->g9 P w n H h a o
end
section
variable{w:World}{H H':Hp}{a:Addr}{o:HO}
theorem g9.lt(x:g9 P w nk H h a o):a<h.objs.size:=by
 cases o with
 |lst xs=>obtain⟨_,_,_,_,e⟩:=x;exact aJ e
 |tup xs=>obtain⟨_,_,_,p⟩:=x;exact p.lt
 |dK hG=>obtain⟨_,_,_,_,o,_,_,e,_⟩:=x;exact aJ e
 |dT hG=>obtain⟨_,_,_,_,o,_,_,e,_⟩:=x;exact aJ e
 |set S n=>obtain⟨o,_,_,_,e,_⟩:=x;exact aJ e
 |ins C dx fs=>obtain⟨_,_,_,e,_⟩:=x;exact aJ e
 |own y=>obtain⟨_,e⟩:=x;exact aJ e
 |xd fs=>obtain⟨_,⟨_,_,_,e,_⟩,_⟩:=x;exact aJ e
 |rng lo hi=>obtain⟨_,_,_,e⟩:=x;exact aJ e
 |frz ob u=>obtain⟨e,_⟩:=x;exact aJ e
 |tbl ps=>exact aJ (show h.get? a=some _ from x)
 |met f y=>exact aJ (show h.get? a=some _ from x)
 |ext φ=>obtain⟨_,⟨_,e⟩,_⟩:=x;exact aJ e
theorem Paired.mapP{F G:α->β->Prop}:∀{l₁:List α} {l₂:List β},Paired F l₁ l₂->(∀a b,F a b->G a b)->Paired G l₁ l₂
 |_,_,.nil,_=>.nil
 |_,_,.cons r t,f=>.cons (f _ _ r) (Paired.mapP t f)
theorem Paired.imp'{F G:α->β->Prop}(f:∀a b,F a b->G a b){l₁:List α}{l₂:List β}(r:Paired F l₁ l₂):Paired G l₁ l₂:=Paired.mapP r f
theorem g9.stay(x:g9 P w nk H h a o)(k:∀b u,(b=a\/H b=some (.own a))->h.get? b=some u->h'.get? b=some u)
  (ho:∀b,H b=some (.own a)->H' b=some (.own a)) (ht:∀b xs,H b=some (.tup xs)->H' b=some (.tup xs)):g9 P w nk H' h' a o:=by
 induction o with
 |lst xs=>obtain⟨z,bO,n,r,e⟩:=x;exact⟨z,bO,n,r,k _ _ (.inl rfl) e⟩
 |tup xs=>obtain⟨z,bO,r,ob,e,c⟩:=x;exact⟨z,bO,r,ob,k _ _ (.inl rfl) e,c⟩
 |dK hG=>obtain⟨z,y,vs,r,ob,es,ep,e,c⟩:=x;exact⟨z,y,vs,r,ob,es,ep,k _ _ (.inl rfl) e,c⟩
 |dT hG=>
  obtain⟨z,y,xs,r,ob,es,ep,e,c⟩:=x
  exact⟨z,y,xs,Paired.mapP r fun p q z=>⟨z.1,ht _ _ z.2.1,z.2.2⟩,ob,es,ep,k _ _ (.inl rfl) e,c⟩
 |set S n=>obtain⟨ob,es,ep,t,e,c⟩:=x;exact⟨ob,es,ep,t,k _ _ (.inl rfl) e,c⟩
 |ins C dx fs=>
  obtain⟨d,z,ne,e,mA,⟨od,es,ep,e2,c⟩,r⟩:=x
  exact⟨ho _ d,z,ne,k _ _ (.inl rfl) e,mA,⟨od,es,ep,k _ _ (.inr d) e2,c⟩,r⟩
 |own y=>obtain⟨ob,e⟩:=x;exact⟨ob,k _ _ (.inl rfl) e⟩
 |xd fs=>obtain⟨mA,⟨od,es,ep,e,c⟩,r⟩:=x;exact⟨mA,⟨od,es,ep,k _ _ (.inl rfl) e,c⟩,r⟩
 |rng lo hi=>obtain⟨t,u,v,e⟩:=x;exact⟨t,u,v,k _ _ (.inl rfl) e⟩
 |frz ob u ih=>obtain⟨e,q⟩:=x;exact⟨k _ _ (.inl rfl) e,ih q⟩
 |tbl ps=>
  have e:h.get? a=some { cls:=.none,data:=.fields ps }:=x
  show h'.get? a=some { cls:=.none,data:=.fields ps }
  exact k a _ (.inl rfl) e
 |met f y=>
  have e:h.get? a=some (PySem.W.methodObj (.ref f) (.ref y)):=x
  show h'.get? a=some (PySem.W.methodObj (.ref f) (.ref y))
  exact k a _ (.inl rfl) e
 |ext φ=>obtain⟨p,⟨o,e⟩,st⟩:=x;exact⟨st _ _ p fun o q=>k _ _ (.inl rfl) q,⟨o,k _ _ (.inl rfl) e⟩,st⟩
theorem Paired.upR(h:n<=n'){κ:Type}{l₁:List (κ×V)}{l₂:List (κ×Value)}(r:KV n l₁ l₂):KV n' l₁ l₂:=Paired.mapP r fun _ _ z=>⟨z.1,z.2.up h⟩
theorem g9.up(hn:nk<=n')(x:g9 P w nk H h a o):g9 P w n' H h a o:=by
 induction o with
 |lst xs=>obtain⟨z,bO,n,r,e⟩:=x;exact⟨z,bO,n,r.up hn,e⟩
 |tup xs=>obtain⟨z,bO,r,ob⟩:=x;exact⟨z,bO,r.up hn,ob⟩
 |dK hG=>obtain⟨z,y,vs,r,ob⟩:=x;exact⟨z,y,vs,Paired.upR hn r,ob⟩
 |dT hG=>obtain⟨z,y,xs,r,ob⟩:=x;exact⟨z,y,xs,Paired.mapP r fun p q z=>⟨z.1,z.2.1,z.2.2.up hn⟩,ob⟩
 |ins C dx fs=>obtain⟨d,z,ne,e,mA,c,r,q⟩:=x;exact⟨d,z,ne,e,mA,c,fun f=>(r f).up hn,q⟩
 |xd fs=>obtain⟨mA,c,r⟩:=x;exact⟨mA,c,fun f=>(r f).up hn⟩
 |frz ob u ih=>obtain⟨e,q⟩:=x;exact⟨e,ih q⟩
 |_=>exact x
theorem ul.up(hn:nk<=n')(x:ul P w nk H h):ul P w n' H h:=fun a o e=>(x a o e).up hn
theorem ul.lt(x:ul P w nk H h)(e:H a=some o):a<h.objs.size:=(x a o e).lt
theorem ul.fresh(x:ul P w nk H h)(e:h.objs.size<=a):H a=none:=by
 cases q:H a with
 |none=>rfl
 |some u=>exact absurd (aL (x.lt q) e) (dL _)
theorem ul.kept(x:ul P w nk H h)(k:∀b u,h.get? b=some u->h'.get? b=some u):ul P w nk H h':=fun a o e=>
 (x a o e).stay (fun b u _ q=>k b u q) (fun _ q=>q) fun _ _ q=>q
theorem ul.laid(x:ul P w nk H h)(k:∀b u,h.get? b=some u->h'.get? b=some u)(hp:h.objs.size<=a)(new:g9 P w nk (fW H a o) h' a o):ul P w nk (fW H a o) h':=fun b u e=>by
 have hn:=x.fresh hp
 by_cases hb:b=a
 ·subst hb;rw[ib]at e;cases e;exact new
 ·rw[cY hb]at e
  exact(x b u e).stay (fun c v _ q=>k c v q) (fun c q=>by rw[cY (fJ q hn)];exact q) fun c xs q=>by rw[cY (fJ q hn)];exact q
end
def Rd(H:Hp)(a:Addr)(u:HO):Prop:=H a=some u\/∃o,H a=some (.frz o u)
theorem Rd.ok{w:World}{H:Hp}{a:Addr}{u:HO}(r:Rd H a u)(x:ul P w nk H h):g9 P w nk H h a u:=by
 rcases r with r|⟨o,r⟩
 ·exact x a u r
 ·obtain⟨_,q⟩:=x a _ r
  exact q
def Um:Option HO->Prop
 |some (.lst _)=>True
 |some (.dK _)=>True
 |some (.dT _)=>True
 |some (.set _ _)=>True
 |some (.ins _ _ _)=>True
 |some (.ext _)=>True
 |_=>False
section
variable{w:World}{H:Hp}{x e:Addr}{o':HO}
theorem ul.write(ok:ul P w nk H h)(mu:Um (H x))(he:e=x\/H e=some (.own x))(k:∀b u,b≠e->h.get? b=some u->h'.get? b=some u)(KH:∃u,h'.get? e=some u)
  (new:g9 P w nk (fW H x o') h' x o'):ul P w nk (fW H x o') h':=fun b u q=>by
 have nown:∀c y,H c=some (.own y)->c≠x:=fun c y r z=>by subst z;rw[r]at mu;exact mu
 have ntup:∀c xs,H c=some (.tup xs)->c≠x:=fun c xs r z=>by subst z;rw[r]at mu;exact mu
 by_cases hb:b=x
 ·subst hb;rw[ib]at q;cases q;exact new
 ·rw[cY hb]at q
  by_cases hbe:b=e
  ·have q':H b=some (.own x):=by
    rcases he with z|z
    ·exact absurd (hbe.trans z) hb
    ·rw[hbe];exact z
   rw[q]at q';cases q'
   obtain⟨v,hv⟩:=KH
   exact⟨v,by rw[hbe];exact hv⟩
  ·refine(ok b u q).stay (fun c v hc r=>k c v ?_ r) (fun c r=>by rw[cY (nown c b r)];exact r) fun c xs r=>by rw[cY (ntup c xs r)];exact r
   rcases hc with rfl|hc
   ·exact hbe
   ·rintro rfl
    rcases he with z|z
    ·exact nown c b hc z
    ·rw[hc]at z;cases z;exact hb rfl
end
structure Un(fs ex:List Addr)(H H':Hp)(h h':Heap):Prop where
 keep:∀b o,h.get? b=some o->H b=none->b∉fs->b∉ex->h'.get? b=some o
 slot:∀b o,h.get? b=some o->H b=none->b∈fs->b∉ex->∃sl,h'.get? b=some { o with slots:=sl }
 free:∀b o,h.get? b=some o->H b=none->b∉ex->H' b=none
 there:∀b o,h.get? b=some o->b∉ex->∃o',h'.get? b=some o'
 tups:∀b xs,H b=some (.tup xs)->H' b=some (.tup xs)
 frzs:∀b o u,H b=some (.frz o u)->H' b=some (.frz o u)
 tbls:∀b ps,H b=some (.tbl ps)->∃more,H' b=some (.tbl (ps++more))
section
variable{fs Uc ex WI:List Addr}{H H1 H2:Hp}{h1 h2:Heap}{a x e:Addr}{o:HO}
theorem Un.any(u:Un fs ex H H1 h h1){b:Addr}{ob:Obj}(q:h.get? b=some ob)(n:H b=none)(hx:b∉ex):∃sl,h1.get? b=some { ob with slots:=sl }:=by
 by_cases hb:b∈fs
 ·exact u.slot b ob q n hb hx
 ·exact⟨ob.slots,u.keep b ob q n hb hx⟩
theorem Un.kept(k:∀b u,h.get? b=some u->h'.get? b=some u):Un fs ex H H h h':=
 ⟨fun b ob q _ _ _=>k b ob q,fun b ob q _ _ _=>⟨ob.slots,k b ob q⟩,fun _ _ _ n _=>n,fun b ob q _=>⟨ob,k b ob q⟩,fun _ _ q=>q,fun _ _ _ q=>q,fun _ ps q=>⟨#[],by rw[q];simp⟩⟩
theorem Un.refl:Un fs ex H H h h:=Un.kept fun _ _ q=>q
theorem Un.laid(k:∀b u,h.get? b=some u->h'.get? b=some u)(hp:h.objs.size<=a)(hn:H a=none):Un fs ex H (fW H a o) h h' where
 keep:=fun b u q _ _ _=>k b u q
 slot:=fun b u q _ _ _=>⟨u.slots,k b u q⟩
 free:=fun b u q n _=>by rw[cY (a9 (aL (aJ q) hp))];exact n
 there:=fun b u q _=>⟨u,k b u q⟩
 tups:=fun b xs q=>by rw[cY (fJ q hn)];exact q
 frzs:=fun b u xs q=>by rw[cY (fJ q hn)];exact q
 tbls:=fun b ps q=>⟨#[],by rw[cY (fJ q hn),q];simp⟩
theorem Un.write(mu:Um (H x))(he:e=x\/H e=some (.own x))(k:∀b u,b≠e->h.get? b=some u->h'.get? b=some u)(KH:∃u,h'.get? e=some u):Un fs ex H (fW H x o) h h':=by
 have hx:∀b,H b=none->b≠x:=fun b n z=>by subst z;rw[n]at mu;exact mu
 have hb:∀b,H b=none->b≠e:=fun b n z=>by
  subst z
  rcases he with r|r
  ·exact hx b n r
  ·rw[n]at r;cases r
 have hm:∀b u,H b=some u->¬ Um (some u)->b≠x:=fun b u q nm z=>by subst z;rw[q]at mu;exact nm mu
 refine⟨fun b u q n _ _=>k b u (hb b n) q,fun b u q n _ _=>⟨u.slots,k b u (hb b n) q⟩,fun b u q n _=>by rw[cY (hx b n)];exact n,fun b u q _=>?_,
  fun b xs q=>by rw[cY (hm b _ q fun z=>z)];exact q,fun b u xs q=>by rw[cY (hm b _ q fun z=>z)];exact q,fun b ps q=>⟨#[],by rw[cY (hm b _ q fun z=>z),q];simp⟩⟩
 by_cases hbe:b=e
 ·subst hbe;exact KH
 ·exact⟨u,k b u hbe q⟩
end
def Uo(h:Heap)(H:Hp):List Addr:=(List.range h.objs.size).filter fun a=>(H a).isSome
def zw(h:Heap)(H:Hp):Heap:=hideAll h (Uo h H)
theorem Fz(h:Heap)(H:Hp):(zw h H).objs.size=h.objs.size:=PySem.W.hideAll_size _ _
theorem GS{H:Hp}{b:Addr}{o:Obj}(e:h.get? b=some o)(n:H b=none):(zw h H).get? b=some o:=
 PySem.W.hideAll_get _ e fun hm=>by
  have q:(H b).isSome=true:=(jw.mp hm).2
  rw[n]at q;simp at q
theorem KM{H:Hp}{b:Addr}{o:Obj}(e:(zw h H).get? b=some o):h.get? b=some o/\H b=none:=by
 have e':h.get? b=some o:=PySem.W.of_hideAll (Uo h H) e
 refine⟨e',?_⟩
 cases q:H b with
 |none=>rfl
 |some x=>
  have hm:b∈Uo h H:=jw.mpr ⟨mF.mpr (aJ e'),by simp[q]⟩
  have z:(zw h H).get? b=none:=PySem.W.hideAll_none (Uo h H) hm
  rw[z]at e;cases e
noncomputable def KN(g h:Heap)(L:Addr):List (Addr×Obj):=(List.range h.objs.size).filterMap fun a=>if a=L\/(g.get? a).isSome=true then none else(h.get? a).map fun o=>(a,o)
def gM(g h:Heap)(L d:Addr):List (Addr×Obj):=(KN g h L).filter fun p=>decide (p.1≠d)
end L2
variable{xs vs:List L2.V}{H H':L2.Hp}
namespace L2
open PySem PySem.Spec PyProof.Rows
structure Mod(K:Frag)(mg:Str->Option Value)(base:Heap):Prop where
 kin:K.In base
 glob:base.Ns mainGlobals mg
 blt:∃mb,base.Ns builtinsNs mb/\∀x:Str,x ≠ "__name__"->mb x=bootBuiltins x
 nolimit:base.NoLimit
structure Cx where
 prog:Program
 w:World
 K:Frag
 mg:Str->Option Value
 base:Heap
 A:Around
 N:List Str
 s₀:Shared
 H₀:Hp
 env:Env
 outer:List Env
 stack:List Env
 ex:List Addr
 fn:Str->Bool
 calm:Bool
 pn:List (Addr×Obj)
 xe:Value->Shared->Prop
noncomputable def sP(l:List Env):List Addr:=l.filterMap (·.frame)
abbrev Cx.fs(X:Cx):List Addr:=sP X.outer
def Re(sc:Scope)(x:Str):Prop:=sc.names.lookup x=some .local\/sc.names.lookup x=some .cell\/sc.names.lookup x=some .free
def Ky(sc:Scope)(x:Str):Prop:=sc.names.lookup x=some .local\/sc.names.lookup x=some .cell
def UQ(env:Env)(h:Heap)(m:Str->Option Value)(x:Str)(u:Value):Prop:=
 (env.kindOf x=some .local/\m x=some u)\/((env.kindOf x=some .cell\/env.kindOf x=some .free)/\∃c,env.cells.lookup x=some c/\h.IsCell c (some u))
structure Cx.Ok(X:Cx):Prop where
 mod:Mod X.K X.mg X.base
 kind:X.env.scope.kind=.function
 glob:X.env.globals=mainGlobals
 blt:X.env.builtins=builtinsNs
 above:X.s₀.heap.objs.size<=X.env.locals
 inj:∀x y c,X.env.cells.lookup x=some c->X.env.cells.lookup y=some c->x=y
 has:∀x,(X.env.kindOf x=some .cell\/X.env.kindOf x=some .free)->∃c,X.env.cells.lookup x=some c
 cab:∀x c,X.fn x=true->X.env.cells.lookup x=some c->X.s₀.heap.objs.size<=c
 hd:X.calm=true->X.A.handled=none
 frames:X.A.frames=some X.stack
 stk:X.stack=X.outer\/(X.stack=X.env::X.outer/\X.env.frame=some X.env.locals)
 exf:∀b∈X.ex,b≠X.env.locals/\∀x c,X.env.cells.lookup x=some c->c≠b
 bs:∀b o,X.base.get? b=some o->X.s₀.heap.get? b=some o/\X.H₀ b=none
 bsz:X.base.objs.size<=X.s₀.heap.objs.size
 noex:∀b o,X.base.get? b=some o->b∉X.ex
 exfs:∀b∈X.ex,b∉X.fs
 funs:X.s₀.heap.FunFrames X.base X.outer
 frf:∀b∈X.fs,X.H₀ b=none
structure bI(X:Cx)(ak:List (Addr×Obj))(σ:List (Option V))(H:Hp)(s:Shared):Prop where
 ok:X.Ok
 os:s.os=X.s₀.os
 bare:AllBare s.gens
 base:Un X.fs X.ex X.H₀ H X.s₀.heap s.heap
 loc:∃m,s.heap.Ns X.env.locals m/\∀(i:Nat) (x:Str) (v:V),X.N[i]?=some x->σ[i]?=some (some v)->Re X.env.scope x->∃u,dA s.toks v u/\UQ X.env s.heap m x u
 cell:∀x c,X.env.cells.lookup x=some c->∃v,s.heap.IsCell c v
 free:H X.env.locals=none
 freeC:∀x c,X.env.cells.lookup x=some c->H c=none
 pin:∀p∈X.pn++ak,s.heap.get? p.1=some p.2/\H p.1=none/\p.1≠X.env.locals/\p.1∉X.fs/\∀v,p.2.data≠.cell v
 hok:ul X.prog X.w s.toks H s.heap
 len:σ.length=X.N.length
 pos:0<s.toks
 tk:X.s₀.toks<=s.toks
section
variable{X:Cx}{σ:List (Option V)}
theorem Cx.Ok.nofr(ok:X.Ok){b:Addr}{o:Obj}(e:X.base.get? b=some o):b∉X.fs:=fun hb=>by
 have:=(ok.funs.mem hb).1
 rw[e]at this;cases this
theorem bI.bs(I:bI X ak σ H s):∀b o,X.base.get? b=some o->s.heap.get? b=some o/\H b=none:=fun b o e=>
 ⟨I.base.keep b o (I.ok.bs b o e).1 (I.ok.bs b o e).2 (I.ok.nofr e) (I.ok.noex b o e),I.base.free b o (I.ok.bs b o e).1 (I.ok.bs b o e).2 (I.ok.noex b o e)⟩
theorem bI.bk(I:bI X ak σ H s):∀b o,X.base.get? b=some o->s.heap.get? b=some o:=fun b o e=>(I.bs b o e).1
theorem bI.mod(I:bI X ak σ H s):Mod X.K X.mg X.base:=I.ok.mod
theorem bI.kIn(I:bI X ak σ H s):X.K.In s.heap:=I.ok.mod.kin.keeps I.bk
theorem bI.lt(I:bI X ak σ H s):X.env.locals<s.heap.objs.size:=let ⟨_,hn,_⟩:=I.loc;hn.lt
theorem bI.sz(I:bI X ak σ H s):X.s₀.heap.objs.size<=s.heap.objs.size:=aN I.ok.above (gp I.lt)
theorem bI.nofs(I:bI X ak σ H s){a:Addr}(h:s.heap.objs.size<=a):a∉X.fs:=fun hb=>by
 obtain⟨_,o,ho,_⟩:=I.ok.funs.mem hb
 exact absurd (aL (aJ ho) (aN I.sz h)) (dL _)
theorem bI.cne(I:bI X ak σ H s):∀x c,X.env.cells.lookup x=some c->c≠X.env.locals:=fun x c e z=>by
 obtain⟨v,o,ho,hd⟩:=I.cell x c e
 obtain⟨m,⟨o',es,ep,ho',hd',_⟩,_⟩:=I.loc
 rw[z,ho']at ho;cases ho;rw[hd']at hd;cases hd
theorem bI.funs(I:bI X ak σ H s):s.heap.FunFrames X.base X.outer:=by
 have all:∀(l:List Env),(∀b∈sP l,b∈X.fs)->X.s₀.heap.FunFrames X.base l->s.heap.FunFrames X.base l:=by
  intro l
  induction l with
  |nil=>intro _ _;trivial
  |cons env r ih=>
   intro hs hl
   obtain⟨hk,⟨L,o,hf,hn,ho,hd⟩,hr⟩:=hl
   have hL:L∈X.fs:=hs L (by unfold sP;rw[gF,hf];exact cu)
   obtain⟨sl,e⟩:=I.base.slot L o ho (I.ok.frf L hL) hL fun z=>I.ok.exfs L z hL
   exact⟨hk,⟨L,_,hf,hn,e,hd⟩,ih (fun b hb=>hs b (by unfold sP;rw[gF,hf];exact aW _ hb)) hr⟩
 exact all X.outer (fun _ hb=>hb) I.ok.funs
theorem bI.stack(I:bI X ak σ H s):s.heap.FunFrames X.base X.stack:=by
 rcases I.ok.stk with e|⟨e,hf⟩
 ·rw[e];exact I.funs
 ·rw[e]
  obtain⟨m,hn,_⟩:=I.loc
  refine .cons (by rw[I.ok.kind];decide) hf hn ?_ I.funs
  exact Heap.get?_none_of_le (aN I.ok.bsz I.ok.above)
theorem bI.stkSub(I:bI X ak σ H s):∀b∈sP X.stack,b∈X.env.locals::X.fs:=fun b hb=>by
 rcases I.ok.stk with e|⟨e,hf⟩
 ·rw[e]at hb;exact aW _ hb
 ·rw[e]at hb
  unfold sP at hb
  rw[gF,hf]at hb
  exact hb
theorem bI.stkFree(I:bI X ak σ H s):∀b∈sP X.stack,H b=none:=fun b hb=>by
 rcases aX.mp (I.stkSub b hb)with e|hb
 ·rw[e];exact I.free
 ·obtain⟨_,o,ho,_⟩:=I.ok.funs.mem hb
  exact I.base.free b o ho (I.ok.frf b hb) fun z=>I.ok.exfs b z hb
theorem bI.step{g':Array GenState}{t':Nat}{d':Drawn}{ch:List Addr}(I:bI X ak σ H s)
  (Fy:∀b∈ch,(b∈X.ex\/X.s₀.heap.objs.size<=b)/\b≠X.env.locals/\(∀x c,X.env.cells.lookup x=some c->c≠b)/\∀p∈X.pn++ak,p.1≠b)
  (keep:∀b o,b≠X.env.locals->b∉X.fs->b∉ch->s.heap.get? b=some o->H b=none->h'.get? b=some o)
  (slot:∀b o,b≠X.env.locals->b∈X.fs->b∉ch->s.heap.get? b=some o->H b=none->∃sl,h'.get? b=some { o with slots:=sl }) (free:∀b o,b∉ch->s.heap.get? b=some o->H b=none->H' b=none)
  (there:∀b o,b∉ch->s.heap.get? b=some o->∃o',h'.get? b=some o')
  (tups:∀b xs,H b=some (.tup xs)->H' b=some (.tup xs)) (frzs:∀b o u,H b=some (.frz o u)->H' b=some (.frz o u)) (tbls:∀b ps,H b=some (.tbl ps)->∃more,H' b=some (.tbl (ps++more)))
  (ns:∀m,s.heap.Ns X.env.locals m->h'.Ns X.env.locals m) (hok:ul X.prog X.w t' H' h') (hg:AllBare g') (hk:s.toks<=t') :
  bI X ak σ H' { s with heap:=h',gens:=g',drawn:=d',toks:=t' }:=by
 have neL:∀b o,X.s₀.heap.get? b=some o->b≠X.env.locals:=fun b o e=>a9 (aL (aJ e) I.ok.above)
 have neC:∀b o,X.s₀.heap.get? b=some o->b∉X.ex->b∉ch:=fun b o e hx hb=>by
  rcases(Fy b hb).1 with z|z
  ·exact hx z
  ·exact absurd (aL (aJ e) z) (dL _)
 have cellK:∀x c,X.env.cells.lookup x=some c->∀v,s.heap.IsCell c v->h'.IsCell c v:=fun x c e v zq=>by
  obtain⟨o,ho,hd⟩:=zq
  have nch:c∉ch:=fun z=>(Fy c z).2.2.1 x c e rfl
  by_cases hc:c∈X.fs
  ·obtain⟨sl,q⟩:=slot c o (I.cne x c e) hc nch ho (I.freeC x c e)
   exact⟨_,q,hd⟩
  ·exact⟨o,keep c o (I.cne x c e) hc nch ho (I.freeC x c e),hd⟩
 refine⟨I.ok,I.os,hg,⟨fun b o e n hb hx=>?_,fun b o e n hb hx=>?_,fun b o e n hx=>?_,fun b o e hx=>?_,fun b xs e=>tups b xs (I.base.tups b xs e),fun b o xs e=>frzs b o xs (I.base.frzs b o xs e),fun b ps e=>?_⟩,?_,fun x c e=>?_,?_,fun x c e=>?_,fun p hp=>?_,hok,I.len,aL I.pos hk,aN I.tk hk⟩
 ·exact keep b o (neL b o e) hb (neC b o e hx) (I.base.keep b o e n hb hx) (I.base.free b o e n hx)
 ·obtain⟨sl,e1⟩:=I.base.slot b o e n hb hx
  obtain⟨sl',e2⟩:=slot b _ (neL b o e) hb (neC b o e hx) e1 (I.base.free b o e n hx)
  exact⟨sl',e2⟩
 ·obtain⟨o',e1⟩:=I.base.there b o e hx
  exact free b o' (neC b o e hx) e1 (I.base.free b o e n hx)
 ·obtain⟨o',e1⟩:=I.base.there b o e hx
  exact there b o' (neC b o e hx) e1
 ·obtain⟨m1,e1⟩:=I.base.tbls b ps e
  obtain⟨m2,e2⟩:=tbls b _ e1
  exact⟨m1++m2,by rw[e2,Array.append_assoc]⟩
 ·obtain⟨m,hn,hl⟩:=I.loc
  refine⟨m,ns m hn,fun i x v e1 e2 e3=>?_⟩
  obtain⟨u,r,l⟩:=hl i x v e1 e2 e3
  refine⟨u,r.up hk,?_⟩
  rcases l with l|⟨k,c,e,z⟩
  ·exact .inl l
  ·exact .inr ⟨k,c,e,cellK x c e _ z⟩
 ·obtain⟨v,z⟩:=I.cell x c e
  exact⟨v,cellK x c e v z⟩
 ·obtain⟨m,⟨o,_,_,ho,_⟩,_⟩:=I.loc
  exact free _ o (fun z=>(Fy _ z).2.1 rfl) ho I.free
 ·obtain⟨v,o,ho,hd⟩:=I.cell x c e
  exact free c o (fun z=>(Fy c z).2.2.1 x c e rfl) ho (I.freeC x c e)
 ·obtain⟨e,n,ne,nf,d⟩:=I.pin p hp
  have nch:p.1∉ch:=fun z=>(Fy p.1 z).2.2.2 p hp rfl
  exact⟨keep p.1 p.2 ne nf nch e n,free p.1 p.2 nch e n,ne,nf,d⟩
theorem bI.un{t':Nat}(I:bI X ak σ H s)(u:Un X.fs [] H H' s.heap h')(hok:ul X.prog X.w t' H' h')(hk:s.toks<=t':=by first|exact aA _|exact bp _|assumption|omega):bI X ak σ H' { s with heap:=h',toks:=t' }:=by
 obtain⟨m,⟨o,es,ep,ho,r⟩,_⟩:=id I.loc
 obtain⟨sl,hL⟩:=u.any ho I.free #[15]
 exact I.step (g':=s.gens) (d':=s.drawn) (ch:=[]) (fun _ z=>nomatch z) (fun b o _ hb _ e n=>u.keep b o e n hb #[15]) (fun b o _ hb _ e n=>u.slot b o e n hb #[15]) (fun b o _ e n=>u.free b o e n #[15]) (fun b o _ e=>u.there b o e #[15]) u.tups u.frzs u.tbls (fun m' hm=>by
  obtain⟨o',es',ep',ho',r'⟩:=hm
  rw[ho]at ho';cases ho'
  exact⟨_,es',ep',hL,r'⟩) hok I.bare hk
theorem bI.call{g':Array GenState}{t':Nat}{d':Drawn}{ch:List Addr}(I:bI X ak σ H s)(u:Un (sP X.stack) ch H H' s.heap h')(hok:ul X.prog X.w t' H' h')(hg:AllBare g')
  (Fy:∀b∈ch,(b∈X.ex\/X.s₀.heap.objs.size<=b)/\b≠X.env.locals/\(∀x c,X.env.cells.lookup x=some c->c≠b)/\∀p∈X.pn++ak,p.1≠b) (hk:s.toks<=t') :
  bI X ak σ H' { s with heap:=h',gens:=g',drawn:=d',toks:=t' }:=by
 obtain⟨m,⟨o,es,ep,ho,r⟩,_⟩:=id I.loc
 obtain⟨sl,hL⟩:=u.any ho I.free fun z=>(Fy _ z).2.1 rfl
 exact I.step (ch:=ch) Fy (fun b o hL hb hc e n=>u.keep b o e n (fun z=>(aX.mp (I.stkSub b z)).elim hL hb) hc) (fun b o _ _ hc e n=>u.any e n hc) (fun b o hc e n=>u.free b o e n hc) (fun b o hc e=>u.there b o e hc) u.tups u.frzs u.tbls (fun m' hm=>by
  obtain⟨o',es',ep',ho',r'⟩:=hm
  rw[ho]at ho';cases ho'
  exact⟨_,es',ep',hL,r'⟩) hok hg hk
theorem bI.turned{t':Nat}{it:Addr}(I:bI X ak σ H s)(k:∀b o,b≠it->s.heap.get? b=some o->h'.get? b=some o)(hn:H it=none)(hL:it≠X.env.locals)
  (h1:it∈X.ex\/X.s₀.heap.objs.size<=it) (h2:∀x c,X.env.cells.lookup x=some c->c≠it) (h3:∀p∈X.pn++ak,p.1≠it) (hk:s.toks<=t':=by first|exact aA _|exact bp _|assumption|omega):bI X ak σ H { s with heap:=h',toks:=t' }:=by
 have nit:∀b u,H b=some u->b≠it:=fun b u e z=>by rw[z,hn]at e;cases e
 refine I.step (g':=s.gens) (d':=s.drawn) (ch:=[it]) (fun b hb=>?_) (fun b o _ _ hc e _=>k b o (fun z=>hc (by simp[z])) e) (fun b o _ _ hc e _=>⟨o.slots,k b o (fun z=>hc (by simp[z])) e⟩) (fun _ _ _ _ n=>n)
  (fun b o hc e=>⟨o,k b o (fun z=>hc (by simp[z])) e⟩) (fun _ _ e=>e) (fun _ _ _ e=>e) (fun b ps e=>⟨#[],by rw[e];simp⟩) (fun m hm=>?_) (fun b u e=>?_) I.bare hk
 ·have e:b=it:=by simpa using hb
  subst e
  exact⟨h1,hL,h2,h3⟩
 ·obtain⟨o,es,ep,ho,r⟩:=hm
  exact⟨o,es,ep,k _ o (Ne.symm hL) ho,r⟩
 ·refine((I.hok b u e).up hk).stay (fun c v hc q=>k c v ?_ q) (fun _ q=>q) fun _ _ q=>q
  rcases hc with z|z
  ·rw[z];exact nit b u e
  ·exact nit c _ z
theorem bI.tok(I:bI X ak σ H s)(t:Nat)(hk:s.toks<=t:=by first|exact aA _|exact bp _|assumption|omega):bI X ak σ H { s with toks:=t }:=I.un (h':=s.heap) (t':=t) Un.refl (I.hok.up hk) hk
theorem bI.kept{t':Nat}(I:bI X ak σ H s)(k:∀b u,s.heap.get? b=some u->h'.get? b=some u)(hk:s.toks<=t':=by first|exact aA _|exact bp _|assumption|omega):bI X ak σ H { s with heap:=h',toks:=t' }:=I.un (Un.kept k) ((I.hok.kept k).up hk) hk
theorem bI.laid{a:Addr}{o:HO}{t':Nat}(I:bI X ak σ H s)(k:∀b u,s.heap.get? b=some u->h'.get? b=some u)(hp:s.heap.objs.size<=a)(new:g9 X.prog X.w t' (fW H a o) h' a o)(hk:s.toks<=t':=by first|exact aA _|exact bp _|assumption|omega) :
  bI X ak σ (fW H a o) { s with heap:=h',toks:=t' }:=I.un (Un.laid k hp (I.hok.fresh hp)) ((I.hok.up hk).laid k hp new) hk
theorem bI.write{x e:Addr}{o:HO}(I:bI X ak σ H s)(mu:Um (H x))(he:e=x\/H e=some (.own x))(k:∀b u,b≠e->s.heap.get? b=some u->h'.get? b=some u)(KH:∃u,h'.get? e=some u)
  (new:g9 X.prog X.w t' (fW H x o) h' x o) (hk:s.toks<=t':=by first|exact aA _|exact bp _|assumption|omega):bI X ak σ (fW H x o) { s with heap:=h',toks:=t' }:=I.un (Un.write mu he k KH) ((I.hok.up hk).write mu he k KH new) hk
theorem bI.pins_of{pins':List (Addr×Obj)}(I:bI X ak σ H s)(h:∀p∈pins',s.heap.get? p.1=some p.2/\H p.1=none/\p.1≠X.env.locals/\p.1∉X.fs/\∀v,p.2.data≠.cell v):bI X pins' σ H s:=
 ⟨I.ok,I.os,I.bare,I.base,I.loc,I.cell,I.free,I.freeC,fun p hp=>(aV.mp hp).elim (fun z=>I.pin p (bB _ z)) (h p),I.hok,I.len,I.pos,I.tk⟩
theorem wb{N:List Str}(hN:N.Nodup)(a:N[i]?=some x)(b:N[j]?=some x):i=j:=by
 obtain⟨h1,e1⟩:=ax.mp a
 obtain⟨h2,e2⟩:=ax.mp b
 exact(List.getElem_inj hN).mp (e1.trans e2.symm)
theorem FB{M:Model}{A:Around}{E:Value->Shared->Prop}{v:V}{Q:Unit->Shared->Prop}(I:bI X ak σ H s)(hN:X.N.Nodup)(hi:X.N[i]?=some x)(hx:Ky X.env.scope x)(r:dA s.toks v u)
  (h:∀s',bI X ak (σ.set i (some v)) H s'->(∃a,Heap.SameBut a s.heap s'.heap/\(a=X.env.locals\/X.env.cells.lookup x=some a))->Q () s') (hf:X.fn x=true\/X.env.scope.names.lookup x=some .local:=by first|exact .inl rfl|exact .inr rfl|assumption):wpAny M A (storeName X.env x u) Q E s:=by
 obtain⟨m,hn,hl⟩:=id I.loc
 have Kh:(X.env.scope.kind==.class||(X.env.scope.kind==.module&&X.env.locals != X.env.globals))=false:=by rw[I.ok.kind];rfl
 have hiσ:i<σ.length:=by rw[I.len];exact(ax.mp hi).1
 have cne:=I.cne
 have tracked:∀{a:Addr} {h':Heap},(∃o,s.heap.get? a=some o/\H a=none)->Heap.SameBut a s.heap h'->ul X.prog X.w s.toks H h':=fun{a h'} ha hs b ob e=>by
  obtain⟨_,_,hfree⟩:=ha
  refine(I.hok b ob e).stay (fun c w' hc q=>(hs.2 c ?_).trans q) (fun _ q=>q) fun _ _ q=>q
  rintro rfl
  rcases hc with rfl|hc
  ·rw[hfree]at e;cases e
  ·rw[hfree]at hc;cases hc
 rcases hx with hk|hk
 ·refine pV hk hn (fun h' TX hs=>?_) Kh
  obtain⟨oL,_,_,hoL,_⟩:=id hn
  refine h { s with heap:=h',toks:=s.toks+1 } ⟨I.ok,I.os,I.bare,⟨fun b o e n hb hx=>?_,fun b o e n hb hx=>?_,I.base.free,fun b o e hx=>?_,I.base.tups,I.base.frzs,I.base.tbls⟩,⟨_,TX,fun j y v' e1 e2 e3=>?_⟩,fun y c e=>?_,I.free,I.freeC,fun p hp=>?_,(tracked ⟨oL,hoL,I.free⟩ hs).up (bp _),by simpa using I.len,Nat.succ_pos _,iG I.tk⟩ ⟨_,hs,.inl rfl⟩
  ·exact(hs.2 b (a9 (aL (aJ e) I.ok.above))).trans (I.base.keep b o e n hb hx)
  ·obtain⟨sl,e1⟩:=I.base.slot b o e n hb hx
   exact⟨sl,(hs.2 b (a9 (aL (aJ e) I.ok.above))).trans e1⟩
  ·obtain⟨o',e1⟩:=I.base.there b o e hx
   exact⟨o',(hs.2 b (a9 (aL (aJ e) I.ok.above))).trans e1⟩
  ·by_cases hj:j=i
   ·subst hj
    rw[hi]at e1;cases e1
    rw[b9 hiσ]at e2
    cases e2
    exact⟨u,r.up (bp _),.inl ⟨hk,by simp⟩⟩
   ·rw[cM (Ne.symm hj)]at e2
    obtain⟨u',r',q⟩:=hl j y v' e1 e2 e3
    refine⟨u',r'.up (bp _),?_⟩
    rcases q with⟨k,e⟩|⟨k,c,e,z⟩
    ·refine .inl ⟨k,?_⟩
     have:y≠x:=fun e=>hj (wb hN e1 (e▸hi))
     simp[this,e]
    ·exact .inr ⟨k,c,e,z.sameBut hs (cne y c e)⟩
  ·obtain⟨w',z⟩:=I.cell y c e
   exact⟨w',z.sameBut hs (cne y c e)⟩
  ·obtain⟨e,n,ne,nf,d⟩:=I.pin p hp
   exact⟨(hs.2 p.1 ne).trans e,n,ne,nf,d⟩
 ·have hfn:X.fn x=true:=by
   rcases hf with z|z
   ·exact z
   ·rw[z]at hk;cases hk
  obtain⟨c,hc⟩:=I.ok.has x (.inl hk)
  obtain⟨w',z⟩:=I.cell x c hc
  refine wpAny_storeName_cell I.ok.kind hk hc z (fun h' hc' hs=>?_)
  obtain⟨oc,hoc,hocd⟩:=id z
  refine h { s with heap:=h' } ⟨I.ok,I.os,I.bare,⟨fun b o e n hb hx=>?_,fun b o e n hb hx=>?_,I.base.free,fun b o e hx=>?_,I.base.tups,I.base.frzs,I.base.tbls⟩,⟨m,hn.sameBut hs (Ne.symm (cne x c hc)),fun j y v' e1 e2 e3=>?_⟩,fun y c' e=>?_,I.free,I.freeC,fun p hp=>?_,tracked ⟨oc,hoc,I.freeC x c hc⟩ hs,by simpa using I.len,I.pos,I.tk⟩ ⟨c,hs,.inr hc⟩
  ·exact(hs.2 b (a9 (aL (aJ e) (I.ok.cab x c hfn hc)))).trans (I.base.keep b o e n hb hx)
  ·obtain⟨sl,e1⟩:=I.base.slot b o e n hb hx
   exact⟨sl,(hs.2 b (a9 (aL (aJ e) (I.ok.cab x c hfn hc)))).trans e1⟩
  ·obtain⟨o',e1⟩:=I.base.there b o e hx
   exact⟨o',(hs.2 b (a9 (aL (aJ e) (I.ok.cab x c hfn hc)))).trans e1⟩
  ·by_cases hj:j=i
   ·subst hj
    rw[hi]at e1;cases e1
    rw[b9 hiσ]at e2
    cases e2
    exact⟨u,r,.inr ⟨.inl hk,c,hc,hc'⟩⟩
   ·rw[cM (Ne.symm hj)]at e2
    obtain⟨u',r',q⟩:=hl j y v' e1 e2 e3
    refine⟨u',r',?_⟩
    rcases q with q|⟨k,c',e,z'⟩
    ·exact .inl q
    ·refine .inr ⟨k,c',e,z'.sameBut hs ?_⟩
     rintro rfl
     exact hj (wb hN e1 (I.ok.inj _ _ _ e hc▸hi))
  ·by_cases hcc:c'=c
   ·subst hcc;exact⟨_,hc'⟩
   ·obtain⟨w2,z2⟩:=I.cell y c' e
    exact⟨w2,z2.sameBut hs hcc⟩
  ·obtain⟨e,n,ne,nf,d⟩:=I.pin p hp
   refine⟨(hs.2 p.1 ?_).trans e,n,ne,nf,d⟩
   intro q
   rw[q,hoc]at e
   have q':oc=p.2:=bg e
   exact d w' (by rw[<- q'];exact hocd)
theorem wc{M:Model}{A:Around}{E:Value->Shared->Prop}{v:V}{Q:Unit->Shared->Prop}(I:bI X ak σ H s)(hN:X.N.Nodup)(hi:X.N[i]?=some x)(hx:Ky X.env.scope x)(r:dA s.toks v u)
  (h:∀s',bI X ak (σ.set i (some v)) H s'->Q () s') (hf:X.fn x=true\/X.env.scope.names.lookup x=some .local:=by first|exact .inl rfl|exact .inr rfl|assumption):wpAny M A (storeName X.env x u) Q E s:=
 FB I hN hi hx r (fun s' I' _=>h s' I') hf
theorem bI.call'{s':Shared}{ch:List Addr}(I:bI X ak σ H s)(ho:s'.os=s.os)(u:Un (sP X.stack) ch H H' s.heap s'.heap)(hok:ul X.prog X.w s'.toks H' s'.heap)(hg:AllBare s'.gens)
  (Fy:∀b∈ch,(b∈X.ex\/X.s₀.heap.objs.size<=b)/\b≠X.env.locals/\(∀x c,X.env.cells.lookup x=some c->c≠b)/\∀p∈X.pn++ak,p.1≠b) (hk:s.toks<=s'.toks):bI X ak σ H' s':=by
 obtain⟨h',g',d',t',o'⟩:=s'
 have e:o'=s.os:=ho
 subst e
 exact I.call (g':=g') (t':=t') (d':=d') u hok hg Fy hk
end
abbrev XK:=Value->Option Addr->Hp->Prop
noncomputable abbrev St:=List (Option V)
abbrev VK:=V->Hp->Prop
abbrev TE:=St->Hp->VK->Prop
abbrev TT:=St->Hp->(Bool->Hp->Prop)->Prop
abbrev TA:=St->Hp->(List V->Hp->Prop)->Prop
structure zx where
 nx:St->Hp->Prop
 rt:VK
 bk:St->Hp->Prop:=fun _ _=>False
 ct:St->Hp->Prop:=fun _ _=>False
abbrev TS:=zx->St->Hp->Prop
def EP(X:Cx)(ak:List (Addr×Obj))(σ:St)(Q:VK)(u:Value)(s':Shared):Prop:=∃v H',bI X ak σ H' s'/\dA s'.toks v u/\Q v H'
def TP(X:Cx)(ak:List (Addr×Obj))(σ:St)(Q:Bool->Hp->Prop)(b:Bool)(s':Shared):Prop:=∃H',bI X ak σ H' s'/\Q b H'
def AP(X:Cx)(ak:List (Addr×Obj))(σ:St)(Q:List V->Hp->Prop)(us:List Value)(s':Shared):Prop:=∃vs H',bI X ak σ H' s'/\cL s'.toks vs us/\Q vs H'
def SP(X:Cx)(ak:List (Addr×Obj))(D:zx)(f:Flow)(s':Shared):Prop:=
 match f with
 |.next=>∃σ' H',bI X ak σ' H' s'/\D.nx σ' H'
 |.brk=>∃σ' H',bI X ak σ' H' s'/\D.bk σ' H'
 |.cont=>∃σ' H',bI X ak σ' H' s'/\D.ct σ' H'
 |.ret u=>∃v σ' H',bI X ak σ' H' s'/\dA s'.toks v u/\D.rt v H'
def PE(X:Cx)(e:Expr)(t:TE):Prop:=
 ∀(ak:List (Addr×Obj)) (s:Shared) (σ:St) (H:Hp) (Q:VK),bI X ak σ H s->t σ H Q->wpAny #[4] X.A (eval e X.env) (EP X ak σ Q) X.xe s
def PT(X:Cx)(e:Expr)(t:TT):Prop:=
 ∀(ak:List (Addr×Obj)) (s:Shared) (σ:St) (H:Hp) (Q:Bool->Hp->Prop),bI X ak σ H s->t σ H Q->wpAny #[4] X.A (isTrue e X.env (eval e X.env)) (TP X ak σ Q) X.xe s
def PW(X:Cx)(e:Expr)(t:TT):Prop:=
 ∀(whole:Sem Value) (ak:List (Addr×Obj)) (s:Shared) (σ:St) (H:Hp) (Q:Bool->Hp->Prop),bI X ak σ H s->t σ H Q->wpAny #[4] X.A (isTrue e X.env whole) (TP X ak σ Q) X.xe s
theorem PW.pt{X:Cx}{t:TT}(h:PW X e t):PT X e t:=h _
def PA(X:Cx)(es:List Expr)(t:TA):Prop:=
 ∀(pos:Pos) (ak:List (Addr×Obj)) (s:Shared) (σ:St) (H:Hp) (Q:List V->Hp->Prop),bI X ak σ H s->t σ H Q->wpAny #[4] X.A (spliced (backTo pos (starEach es X.env))) (AP X ak σ Q) X.xe s
def PS(X:Cx)(st:Stmt)(t:TS):Prop:=
 ∀(ak:List (Addr×Obj)) (s:Shared) (σ:St) (H:Hp) (D:zx),bI X ak σ H s->t D σ H->wpAny #[4] X.A (exec st X.env) (SP X ak D) X.xe s
def FC(X:Cx)(st:List Stmt)(t:TS):Prop:=
 ∀(ak:List (Addr×Obj)) (s:Shared) (σ:St) (H:Hp) (D:zx),bI X ak σ H s->t D σ H->wpAny #[4] X.A (execs st X.env) (SP X ak D) X.xe s
theorem ky{t:Sem α}{Q Q':α->Shared->Prop}(h:wpAny M A t Q E s)(hQ:∀a s',s.toks<=s'.toks->Q a s'->Q' a s'):wpAny M A t Q' E s:=
 up (jG h (fun a s' q k=>hQ a s' k q) fun _ _ x _=>x)
theorem C5{t:Sem α}{Q Q':α->Shared->Prop}(h:wpAny M A t Q E s)(hQ:∀a s,Q a s->Q' a s):wpAny M A t Q' E s:=jG h hQ fun _ _ x=>x
end L2
variable{X:L2.Cx}{σ:L2.St}{te:L2.TE}{r:L2.V->List L2.V->L2.Hp->L2.VK->Prop}
namespace L2
open PySem PySem.Spec PyProof.Rows
section
def Rf(i:Nat):TE:=fun σ H Q=>∃v,σ[i]?=some (some v)/\Q v H
def tC(v:V):TE:=fun _ H Q=>Q v H
theorem NW{pos:Pos}(hN:X.N[i]?=some x)(hv:Re X.env.scope x)(hd:(x==("__debug__":Str))=false:=by decide)(C4:(x==("__classdict__":Str))=false:=by decide):PE X (.Name x pos) (Rf i):=by
 intro ak s σ H Q I h
 obtain⟨v,e,h⟩:=h
 obtain⟨m,hn,hl⟩:=I.loc
 obtain⟨u,r,l⟩:=hl i x v hN e hv
 have kT:EP X ak σ Q u s:=⟨v,H,I,r,h⟩
 rcases l with⟨hk,hm⟩|⟨hk,c,hc,iF⟩
 ·exact wpAny_Name (wpAny_loadName_local I.ok.kind hk hn hm kT) hd
 ·rcases hk with hk|hk
  ·exact wpAny_Name (wpAny_loadName_cell I.ok.kind hk hc iF kT) hd
  ·exact wpAny_Name (wpAny_loadName_free I.ok.kind hk hc iF kT C4) hd
theorem NX{i j pos}:PE X (.Constant (.int i) j pos) (tC (.int i)):=fun _ _ _ H _ I h=>wpAny_Constant_int ⟨.int i,H,I.tok _,⟨_,rfl⟩,h⟩
theorem Rg{b j pos}:PE X (.Constant (.bool b) j pos) (tC (.bl b)):=fun _ _ _ H _ I h=>Constant_bool ⟨.bl b,H,I,rfl,h⟩
theorem NY{j pos}:PE X (.Constant .none j pos) (tC .non):=fun _ _ _ H _ I h=>rR ⟨.non,H,I,rfl,h⟩
theorem bI.tkS(I:bI X ak σ H s):dA (s.toks+1) (.str x) (.str x s.toks):=⟨⟨s.toks,fun _=>⟨I.pos,ce _⟩⟩,rfl⟩
theorem NZ{x j pos}:PE X (.Constant (.str x) j pos) (tC (.str x)):=fun _ _ _ H _ I h=>Calls.Constant_str ⟨.str x,H,I.tok _,I.tkS,h⟩
def Gl(X:Cx)(x:Str):Prop:=X.env.kindOf x=some .globalImplicit
theorem sQ{E:Value->Shared->Prop}{pos:Pos}(I:bI X ak σ H s)(hg:Gl X x)(hm:X.mg x=some u)(h:Q u s)
  (hd:(x==("__debug__":Str))=false:=by decide):wpAny #[4] X.A (eval (.Name x pos) X.env) Q E s:=
 mG I.ok.kind hg (Calls.loadGlobal_global (by rw[I.ok.glob];exact I.mod.glob.keeps I.bk) hm h) hd
theorem p7{E:Value->Shared->Prop}{pos:Pos}(I:bI X ak σ H s)(hg:Gl X x)(hm:X.mg x=none)(hv:bootBuiltins x=some u)(h:Q u s)
  (hn:x ≠ "__name__":=by decide) (hd:(x==("__debug__":Str))=false:=by decide):wpAny #[4] X.A (eval (.Name x pos) X.env) Q E s:=by
 obtain⟨mb,h1,h2⟩:=I.mod.blt
 exact mG I.ok.kind hg (Calls.loadGlobal_builtin (by rw[I.ok.glob];exact I.mod.glob.keeps I.bk) hm (by rw[I.ok.blt];exact h1.keeps I.bk) ((h2 x hn).trans hv) h) hd
theorem zy{v:V}{pos:Pos}(hg:Gl X x)(hm:X.mg x=some u)(r:dA 0 v u)(hd:(x==("__debug__":Str))=false:=by decide):PE X (.Name x pos) (tC v):=
 fun _ _ _ H _ I h=>sQ I hg hm ⟨v,H,I,r.up (bZ _),h⟩ hd
theorem EH{v:V}{pos:Pos}(hg:Gl X x)(hm:X.mg x=none)(hv:bootBuiltins x=some u)(r:dA 0 v u)(hn:x ≠ "__name__":=by decide)(hd:(x==("__debug__":Str))=false:=by decide):PE X (.Name x pos) (tC v):=
 fun _ _ _ H _ I h=>p7 I hg hm hv ⟨v,H,I,r.up (bZ _),h⟩ hn hd
variable{a b:Expr}{ta tb:TE}
def PC(X:Cx)(op:CmpOp)(a b:Expr)(t:TE):Prop:=
 ∀(ak:List (Addr×Obj)) (s:Shared) (σ:St) (H:Hp) (Q:VK),bI X ak σ H s->t σ H Q ->
  wpAny #[4] X.A (eval a X.env) (fun v s₁=>wpAny #[4] X.A (eval b X.env) (fun u s₂=>wpAny #[4] X.A (compareOp op v u) (EP X ak σ Q) X.xe s₂) X.xe s₁) X.xe s
theorem A'(b:Expr)(h:op≠.In)(h2:op≠.NotIn):behindInMarks op b=false:=by
 have e1:(op==CmpOp.In)=false:=by cases op<;>first|rfl|exact absurd rfl h
 have e2:(op==CmpOp.NotIn)=false:=by cases op<;>first|rfl|exact absurd rfl h2
 cases b<;>simp[behindInMarks,e1,e2]
def Rh(ta:TE):TE:=fun σ H Q=>ta σ H fun x H1=>Q (.bl (decide (x=.non))) H1
def Mq(ta:TE):TE:=fun σ H Q=>ta σ H fun x H1=>Q (.bl (!decide (x=.non))) H1
theorem dA.none_iff{x:V}(r:dA nk x v):(v==Value.none)=decide (x=.non):=by
 cases x with
 |non=>cases r;rfl
 |bl _=>cases r;rfl
 |int _=>obtain⟨t,rfl⟩:=r;rfl
 |str _=>obtain⟨t,rfl⟩:=r;rfl
 |byt _=>obtain⟨t,rfl⟩:=r;rfl
 |flt _=>obtain⟨t,rfl⟩:=r;rfl
 |ref _=>cases r;rfl
 |ty _=>cases r;rfl
theorem GT{j i_}(ha:PE X a ta):PC X .Is a (.Constant .none j i_) (Rh ta):=by
 intro ak s σ H Q I h
 refine ky (ha ak s σ H _ I h) fun v s1 kt1 zq=>?_
 obtain⟨x,H1,I1,r1,q1⟩:=zq
 exact rR (is_none_gen ⟨.bl _,H1,I1,by rw[r1.none_iff];rfl,q1⟩)
theorem KO{j i_}(ha:PE X a ta):PC X .IsNot a (.Constant .none j i_) (Mq ta):=by
 intro ak s σ H Q I h
 refine ky (ha ak s σ H _ I h) fun v s1 kt1 zq=>?_
 obtain⟨x,H1,I1,r1,q1⟩:=zq
 exact rR (isnot_none_gen ⟨.bl _,H1,I1,by rw[r1.none_iff];rfl,q1⟩)
def tB(t:TE):TT:=fun σ H Q=>t σ H fun x H1=>∃c,x=.bl c/\Q c H1
theorem N0{t:TE}(h:PC X op a b t)(h1:behindInMarks op b=false:=by first|exact A' _ #[3] #[3]|rfl):PE X (.Compare a [op] [b] pos) t:=fun ak s σ H Q I hw=>wpAny_Compare1 (h ak s σ H Q I hw) h1
theorem GU{t:TE}(h:PC X op a b t)(h1:behindInMarks op b=false:=by first|exact A' _ #[3] #[3]|rfl):PT X (.Compare a [op] [b] pos) (tB t):=by
 intro ak s σ H Q I hw
 refine pW (C5 (h ak s σ H _ I hw) fun v s1 h1=>C5 h1 fun u s2 h2=>C5 h2 fun c s3 ⟨x,H1,I1,r1,q1⟩=>?_) h1
 obtain⟨d,rfl,q⟩:=q1
 cases r1
 exact iH ⟨H1,I1,q⟩
theorem N1{t:TE}(h:PE X e t)(he:∀whole,isTrue e X.env whole=(do let v <- whole;standAt e.pos;holding [v] (truthy v)):=by intro _;rfl):PT X e (tB t):=by
 intro ak s σ H Q I hw
 refine isTrue_plain (ky (h ak s σ H _ I hw) fun v s1 kt1 ⟨x,H1,I1,r1,q1⟩=>?_) (he _)
 obtain⟨d,rfl,q⟩:=q1
 cases r1
 exact iH ⟨H1,I1,q⟩
variable{tA Ua:TT}{gM:List Expr}
def UR(t u:TT):TT:=fun σ H Q=>t σ H fun c H1=>if c=true then u σ H1 Q else Q false H1
def Wi(t u:TT):TT:=fun σ H Q=>t σ H fun c H1=>if c=true then Q true H1 else u σ H1 Q
def US(t:TT):TT:=fun σ H Q=>t σ H fun c H1=>Q (!c) H1
theorem KP(ha:PT X a tA):PW X (.BoolOp .And [a] pos) tA:=by
 intro wh ak s σ H Q I h
 refine isTrue_and (C5 (ha ak s σ H Q I h) fun c s1 e=>?_)
 cases c with
 |true=>exact isTrue_and_nil e
 |false=>exact e
theorem N2(ha:PT X a tA):PW X (.BoolOp .Or [a] pos) tA:=by
 intro wh ak s σ H Q I h
 refine isTrue_or (C5 (ha ak s σ H Q I h) fun c s1 e=>?_)
 cases c with
 |false=>exact isTrue_or_nil e
 |true=>exact e
theorem N3(ha:PT X a tA)(hb:PW X (.BoolOp .And (b::gM) pos) Ua):PW X (.BoolOp .And (a::b::gM) pos) (UR tA Ua):=by
 intro wh ak s σ H Q I h
 refine isTrue_and (ky (ha ak s σ H _ I h) fun c s1 kt1 zq=>?_)
 obtain⟨H1,I1,q1⟩:=zq
 cases c with
 |true=>exact hb wh ak s1 σ H1 Q I1 q1
 |false=>exact⟨H1,I1,q1⟩
theorem Ri(ha:PT X a tA)(hb:PW X (.BoolOp .Or (b::gM) pos) Ua):PW X (.BoolOp .Or (a::b::gM) pos) (Wi tA Ua):=by
 intro wh ak s σ H Q I h
 refine isTrue_or (ky (ha ak s σ H _ I h) fun c s1 kt1 zq=>?_)
 obtain⟨H1,I1,q1⟩:=zq
 cases c with
 |true=>exact⟨H1,I1,q1⟩
 |false=>exact hb wh ak s1 σ H1 Q I1 q1
theorem N4(ha:PT X a tA):PT X (.UnaryOp .Not a pos) (US tA):=by
 intro ak s σ H Q I h
 exact isTrue_not (ha ak s σ H (fun c H1=>Q (!c) H1) I h)
def Rj(ta tb:TE):TE:=fun σ H Q=>ta σ H fun x H1=>∃c,x=.bl c/\if c=true then tb σ H1 Q else Q (.bl false) H1
def Rk(ta:TE):TE:=fun σ H Q=>ta σ H fun x H1=>∃c,x=.bl c/\Q (.bl (!c)) H1
theorem N5{op}{t:TE}(h:PE X a t):PE X (.BoolOp op [a] pos) t:=fun ak s σ H Q I hw=>BoolOp_one (h ak s σ H Q I hw)
theorem N6(ha:PE X a ta)(hb:PE X (.BoolOp .And (b::gM) pos) tb):PE X (.BoolOp .And (a::b::gM) pos) (Rj ta tb):=by
 intro ak s σ H Q I h
 refine BoolOp_and (ky (ha ak s σ H _ I h) fun v s1 kt1 zq=>?_)
 obtain⟨x,H1,I1,r1,q1⟩:=zq
 obtain⟨c,rfl,q1⟩:=q1
 cases r1
 refine iH ?_
 cases c with
 |true=>exact hb ak s1 σ H1 Q I1 q1
 |false=>exact⟨.bl false,H1,I1,rfl,q1⟩
theorem N7(ha:PE X a ta):PE X (.UnaryOp .Not a pos) (Rk ta):=by
 intro ak s σ H Q I h
 refine UnaryOp_ (ky (ha ak s σ H _ I h) fun v s1 kt1 zq=>?_)
 obtain⟨x,H1,I1,r1,q1⟩:=zq
 obtain⟨c,rfl,q1⟩:=q1
 cases r1
 exact not_of (iH ⟨.bl (!c),H1,I1,rfl,q1⟩)
def Wj(t:TT)(ta tb:TE):TE:=fun σ H Q=>t σ H fun c H1=>if c=true then ta σ H1 Q else tb σ H1 Q
theorem GV(hc:PT X c tA)(ha:PE X a ta)(hb:PE X b tb):PE X (.IfExp c a b pos) (Wj tA ta tb):=by
 intro ak s σ H Q I h
 refine wpAny_IfExp (ky (hc ak s σ H _ I h) fun d s1 kt1 zq=>?_)
 obtain⟨H1,I1,q1⟩:=zq
 cases d with
 |true=>exact ha ak s1 σ H1 Q I1 q1
 |false=>exact hb ak s1 σ H1 Q I1 q1
end
end L2
namespace L2
open PySem PySem.Spec PyProof.Rows
def uq(K:Frag)(H:Hp)(a:Addr)(xs:List V):Prop:=
 Rd H a (.lst xs) \/
  ∃(o:Obj) (bO:Array Value) (n:Nat),K.lookup a=some o/\o.cls=.type "list"/\o.dict=none/\o.data=.seq bO n/\bO.size<=sizeLine/\cL 0 xs bO.toList
def gz(K:Frag)(H:Hp)(a:Addr)(xs:List V):Prop:=
 Rd H a (.tup xs) \/
  ∃(o:Obj) (bO:Array Value) (n:Nat),K.lookup a=some o/\o.cls=.type "tuple"/\o.data=.seq bO n/\bO.size<=sizeLine/\cL 0 xs bO.toList
noncomputable def UT:Value->Option V
 |.none=>some .non
 |.bool b=>some (.bl b)
 |.int i _=>some (.int i)
 |.str x _=>some (.str x)
 |.bytes b _=>some (.byt b)
 |.float b _=>some (.flt b)
 |.ref a=>some (.ref a)
 |.type n=>some (.ty n)
 |_=>none
theorem dA.abs{x:V}(r:dA nk x u):UT u=some x:=by
 cases x with
 |non=>cases r;rfl
 |bl _=>cases r;rfl
 |int _=>obtain⟨t,rfl⟩:=r;rfl
 |str _=>obtain⟨t,rfl⟩:=r;rfl
 |byt _=>obtain⟨t,rfl⟩:=r;rfl
 |flt _=>obtain⟨t,rfl⟩:=r;rfl
 |ref _=>cases r;rfl
 |ty _=>cases r;rfl
theorem dA.inj{x y:V}(r:dA nk x u)(q:dA nk y u):x=y:=bg (r.abs.symm.trans q.abs)
theorem cL.inj:∀{xs ys:List V} {us:List Value},cL nk xs us->cL nk ys us->xs=ys
 |_,_,_,.nil,.nil=>rfl
 |_,_,_,.cons r t,.cons r' t'=>by rw[r.inj r',cL.inj t t']
section
variable{a:Addr}{ys:List V}
theorem uq.of(h:H a=some (.lst xs)):uq K H a xs:=.inl (.inl h)
theorem gz.of(h:H a=some (.tup xs)):gz K H a xs:=.inl (.inl h)
theorem bI.list(I:bI X ak σ H s)(h:uq X.K H a xs):∃bO:List Value,cL s.toks xs bO/\PlainL s.heap a bO.toArray/\xs.length<=sizeLine:=by
 rcases h with h|⟨o,bO,n,hk,hc,hd,hs,hz,r⟩
 ·obtain⟨z,bO,n,r,e⟩:=h.ok I.hok
  exact⟨bO,r,⟨_,n,e,rfl,rfl,rfl⟩,z⟩
 ·refine⟨bO.toList,r.up (bZ _),⟨o,n,I.kIn a o hk,hc,hd,by simpa using hs⟩,?_⟩
  have e:=r.length
  simp only[eG]at e
  omega
theorem bI.tuple(I:bI X ak σ H s)(h:gz X.K H a xs):∃bO:List Value,cL s.toks xs bO/\IsTup s.heap a bO.toArray/\xs.length<=sizeLine:=by
 rcases h with h|⟨o,bO,n,hk,hc,hs,hz,r⟩
 ·obtain⟨z,bO,r,p⟩:=h.ok I.hok
  exact⟨bO,r,p,z⟩
 ·refine⟨bO.toList,r.up (bZ _),⟨o,I.kIn a o hk,hc,n,by simpa using hs⟩,?_⟩
  have e:=r.length
  simp only[eG]at e
  omega
theorem bI.list_inj(I:bI X ak σ H s)(h:uq X.K H a xs)(h':uq X.K H a ys):xs=ys:=by
 obtain⟨bO,r,⟨o,n,e,_,_,d⟩,_⟩:=I.list h
 obtain⟨its',r',⟨o',n',e',_,_,d'⟩,_⟩:=I.list h'
 rw[e]at e';cases e'
 rw[d]at d'
 injection d' with d1 _
 have:bO=its':=by simpa using il Array.toList d1
 subst this
 exact r.inj r'
theorem bI.tuple_inj(I:bI X ak σ H s)(h:gz X.K H a xs)(h':gz X.K H a ys):xs=ys:=by
 obtain⟨bO,r,⟨o,e,_,n,d⟩,_⟩:=I.tuple h
 obtain⟨its',r',⟨o',e',_,n',d'⟩,_⟩:=I.tuple h'
 rw[e]at e';cases e'
 rw[d]at d'
 injection d' with d1 _
 have:bO=its':=by simpa using il Array.toList d1
 subst this
 exact r.inj r'
end
section
end
section
variable{st:Stmt}{gM:List Stmt}{t u:TS}
def Rm:TS:=fun D σ H=>D.nx σ H
def UU(t u:TS):TS:=fun D σ H=>t { D with nx:=u D } σ H
theorem KQ:FC X [] Rm:=fun _ _ σ H _ I h=>jx ⟨σ,H,I,h⟩
theorem GW(h1:PS X st t)(h2:FC X gM u):FC X (st::gM) (UU t u):=by
 intro ak s σ H D I h
 refine wpAny_execs_cons (C5 (h1 ak s σ H { D with nx:=u D } I h) fun f s1 q=>?_)
 cases f with
 |next=>
  obtain⟨σ',H',I',q⟩:=q
  exact h2 ak s1 σ' H' D I' q
 |ret v=>exact q
 |brk=>exact q
 |cont=>exact q
theorem KR(h1:PS X st t):FC X [st] t:=by
 intro ak s σ H D I h
 refine wpAny_execs_cons (C5 (h1 ak s σ H D I h) fun f s1 q=>?_)
 cases f with
 |next=>exact jx q
 |ret v=>exact q
 |brk=>exact q
 |cont=>exact q
def N8:TS:=fun D σ H=>D.bk σ H
theorem GX:PS X (.Break pos) N8:=fun _ _ σ H _ I h=>wpAny_Break ⟨σ,H,I,h⟩
theorem bI.quiet(I:bI X ak σ H s):interactive X.env=false:=by simp[interactive,I.ok.kind]
def Rn(te:TE):TS:=fun D σ H=>te σ H fun _ H1=>D.nx σ H1
theorem KS(he:PE X e te)(hs:swapsWith e none pos.line X.env=pure false:=by rfl):PS X (.Expr e pos) (Rn te):=by
 intro ak s σ H D I h
 exact wpAny_Expr_any (ky (he ak s σ H _ I h) fun v s1 kt1 ⟨x,H1,I1,r1,q1⟩=>⟨σ,H1,I1,q1⟩) I.quiet hs
def UV(te:TE):TS:=fun D σ H=>te σ H D.rt
theorem N9(he:PE X e te):PS X (.Return (some e) pos) (UV te):=by
 intro ak s σ H D I h
 exact wpAny_Return_some (ky (he ak s σ H _ I h) fun v s1 kt1 ⟨x,H1,I1,r1,q1⟩=>⟨x,σ,H1,I1,r1,q1⟩)
def UW(c:TT)(t u:TS):TS:=fun D σ H=>c σ H fun b H1=>if b=true then t D σ H1 else u D σ H1
theorem Ro{a b:List Stmt}{tc:TT}(hc:PT X c tc)(ha:FC X a t)(hb:FC X b u):PS X (.If c a b pos) (UW tc t u):=by
 intro ak s σ H D I h
 refine wpAny_If (ky (hc ak s σ H _ I h) fun d s1 kt1 zq=>?_)
 obtain⟨H1,I1,q1⟩:=zq
 cases d with
 |true=>exact ha ak s1 σ H1 D I1 q1
 |false=>exact hb ak s1 σ H1 D I1 q1
end
abbrev TG:=V->St->Hp->(St->Hp->Prop)->Prop
abbrev KT:=List V->St->Hp->(St->Hp->Prop)->Prop
def PG(X:Cx)(QR:Expr)(t:TG):Prop:=
 ∀(ak:List (Addr×Obj)) (s:Shared) (σ:St) (H:Hp) (v:V) (u:Value) (Q:St->Hp->Prop),bI X ak σ H s->dA s.toks v u->t v σ H Q ->
  wpAny #[4] X.A (assign QR X.env u) (fun _ s'=>∃σ' H',bI X ak σ' H' s'/\Q σ' H') X.xe s
def Mr(X:Cx)(ts:List Expr)(t:KT):Prop:=
 ∀(ak:List (Addr×Obj)) (s:Shared) (σ:St) (H:Hp) (vs:List V) (us:List Value) (Q:St->Hp->Prop),bI X ak σ H s->cL s.toks vs us->t vs σ H Q ->
  wpAny #[4] X.A (assignInOrder ((assignEach ts X.env).map (·.2)) us) (fun _ s'=>∃σ' H',bI X ak σ' H' s'/\Q σ' H') X.xe s
abbrev KU:=V->V->V->Hp->(Hp->Prop)->Prop
def GY(X:Cx)(t:KU):Prop:=
 ∀(ak:List (Addr×Obj)) (s:Shared) (σ:St) (H:Hp) (o i v:V) (ov iv u:Value) (Q:Hp->Prop),bI X ak σ H s->dA s.toks o ov->dA s.toks i iv->dA s.toks v u->t o i v H Q ->
  wpAny #[4] X.A (setItem ov iv u) (fun _ s'=>∃H',bI X ak σ H' s'/\Q H') X.xe s
section
def Ms(i:Nat):TG:=fun v σ H Q=>Q (σ.set i (some v)) H
theorem KW(hN:X.N.Nodup)(hi:X.N[i]?=some x)(hx:Ky X.env.scope x)(hf:X.fn x=true\/X.env.scope.names.lookup x=some .local:=by first|exact .inl rfl|exact .inr rfl|assumption):PG X (.Name x pos) (Ms i):=by
 intro ak s σ H v u Q I r h
 exact wpAny_assign_Name (wc I hN hi hx r (fun s' I'=>⟨_,H,I',h⟩) hf)
def UX:KT:=fun vs σ H Q=>vs=[]/\Q σ H
def Rp(t:TG)(u:KT):KT:=fun vs σ H Q=>∃v r,vs=v::r/\t v σ H fun σ' H'=>u r σ' H' Q
theorem KY:Mr X [] UX:=by
 intro ak s σ H vs us Q I r h
 obtain⟨e,h⟩:=h
 subst e
 cases r
 exact assignInOrder_nil ⟨σ,H,I,h⟩
theorem GZ{t:TG}{u:KT}(h1:PG X e t)(h2:Mr X es u)
  (hs:(assignEach (e::es) X.env).map (·.2)=assign e X.env::(assignEach es X.env).map (·.2):=by rfl):Mr X (e::es) (Rp t u):=by
 intro ak s σ H vs us Q I r h
 obtain⟨v,vr,e1,h⟩:=h
 subst e1
 cases r with
 |cons r rr=>
  rw[hs]
  refine assignInOrder_cons (ky (h1 ak s σ H _ _ _ I r h) fun _ s1 kt1 zq=>?_)
  obtain⟨σ1,H1,I1,q1⟩:=zq
  exact h2 ak s1 σ1 H1 _ _ Q I1 (cL.up kt1 rr) q1
def UY(K:Frag)(n:Nat)(t:KT):TG:=fun v σ H Q=>∃a xs,v=.ref a/\gz K H a xs/\xs.length=n/\t xs σ H Q
theorem N_{k:Nat}{t:KT}(hc:X.calm=true)(h:Mr X es t)
  (hn:(assignEach es X.env).length=n:=by rfl) (oZ:(assignEach es X.env).findIdx? (·.1)=none:=by rfl):PG X (.Tuple es k pos) (UY X.K n t):=by
 intro ak s σ H v u Q I r hw
 obtain⟨a,xs,e1,hq,hl,hw⟩:=hw
 subst e1
 cases r
 obtain⟨bO,rv,ht,hz⟩:=I.tuple hq
 refine assign_Tuple_tuple (I.ok.hd hc) ht (by simp[hn,<- hl,rv.length]) oZ fun h' hx=>?_
 have I1:bI X ak σ H { s with heap:=h' }:=I.kept (t':=s.toks) fun b o e=>hx b o (a9 (aJ e)) e
 exact h ak _ σ H xs _ Q I1 (by simpa using rv) hw
def UZ(to ti:TE)(t:KU):TG:=fun v σ H Q=>to σ H fun o H1=>ti σ H1 fun i H2=>t o i v H2 fun H3=>Q σ H3
theorem Oa{i:Expr}{to ti:TE}{t:KU}(ho:PE X o to)(hi:PE X i ti)(hs:GY X t)
  (ha:∀v,assign (.Subscript o i pos) X.env v=(do
   let ov <- holding [v] (eval o X.env)
   let iv <- holding [v,ov] (eval i X.env)
   standAt pos
   holding [v,ov,iv] (setItem ov iv v)
   release [v,ov,iv] []):=by intro _;rfl):PG X (.Subscript o i pos) (UZ to ti t):=by
 intro ak s σ H v u Q I r h
 rw[ha]
 refine af (dw (ky (ho ak s σ H _ I h) fun ov s1 kt1 zq=>?_))
 obtain⟨x,H1,I1,r1,q1⟩:=zq
 refine af (dw (ky (hi ak s1 σ H1 _ I1 q1) fun iv s2 kt2 zq=>?_))
 obtain⟨y,H2,I2,r2,q2⟩:=zq
 refine af (rS (af (dw (ky (hs ak s2 σ H2 x y v ov iv u _ I2 (r1.up kt2) r2 (r.up (aN kt1 kt2)) q2) fun _ s3 kt3 zq=>?_))))
 obtain⟨H3,I3,q3⟩:=zq
 exact wpAny_release ⟨σ,H3,I3,q3⟩
def G0(te:TE)(g:TG):TS:=fun D σ H=>te σ H fun x H1=>g x σ H1 D.nx
theorem G1{g:TG}(he:PE X e te)(hg:PG X tg g)(hs:swapsWithSole [tg] e pos.line X.env=pure false:=by rfl)(hw:swappedStores [tg] e X.env=pure none:=by rfl)
  (h1:(assignEach [tg] X.env).map (·.2)=[assign tg X.env]:=by rfl):PS X (.Assign [tg] e pos) (G0 te g):=by
 intro ak s σ H D I h
 refine wpAny_Assign_stores (ky (he ak s σ H _ I h) fun v s1 kt1 ⟨x,H1,I1,r1,q1⟩=>?_) hs hw
 rw[h1]
 exact C5 (hg ak s1 σ H1 x v _ I1 r1 q1) fun _ s2 q=>q
theorem Ob(hN:X.N.Nodup)(hi:X.N[i]?=some x)(hx:Ky X.env.scope x)(he:PE X e te)(hs:swapsWith e (some (.Name x i_)) pos.line X.env=pure false:=by rfl)(hf:X.fn x=true\/X.env.scope.names.lookup x=some .local:=by first|exact .inl rfl|exact .inr rfl|assumption) :
  PS X (.Assign [.Name x i_] e pos) (G0 te (Ms i)):=by
 intro ak s σ H D I h
 refine wpAny_Assign_Name (ky (he ak s σ H _ I h) fun v s1 kt1 ⟨y,H1,I1,r1,q1⟩=>?_) hs
 exact wc I1 hN hi hx r1 (fun s2 I2=>⟨_,H1,I2,q1⟩) hf
end
section
def G3(c:TT)(tb:TS):TS:=fun D σ H=>∃W:Nat->St->Hp->Prop,(∃m,W m σ H)/\∀m σ H,W m σ H ->
 c σ H fun b H1=>if b=true then ∃N:St->Hp->Prop,(∀σ' H',N σ' H'->∃m',m'<m/\W m' σ' H')/\tb { D with nx:=N,ct:=N,bk:=D.nx } σ H1 else D.nx σ H1
theorem G4{tc:TT}{tb:TS}(hp:PassesOwn #[4] X.A X.env X.xe)(hc:PT X c tc)(hb:FC X body tb):PS X (.While c body [] pos) (G3 tc tb):=by
 intro ak s σ H D I h
 obtain⟨W,⟨m0,w0⟩,turn⟩:=h
 refine wpAny_While (codeAny_whileLoop (fun n s'=>∃σ' H',bI X ak σ' H' s'/\W n σ' H') ?_ m0 ⟨σ,H,I,w0⟩)
 rintro n s1 ⟨σ1,H1,I1,w1⟩
 refine gb hp (ky (hc ak s1 σ1 H1 _ I1 (turn n σ1 H1 w1)) fun b s2 kt2 zq=>?_)
 obtain⟨H2,I2,q2⟩:=zq
 cases b with
 |true=>
  obtain⟨N,hN,q2⟩:=q2
  rw[aK rfl]
  refine gb hp (C5 (hb ak s2 σ1 H2 _ I2 q2) fun f s3 q3=>?_)
  cases f with
  |next=>
   obtain⟨σ3,H3,I3,n3⟩:=q3
   obtain⟨m',hm,w3⟩:=hN σ3 H3 n3
   exact⟨m',hm,σ3,H3,I3,w3⟩
  |cont=>
   obtain⟨σ3,H3,I3,n3⟩:=q3
   obtain⟨m',hm,w3⟩:=hN σ3 H3 n3
   exact⟨m',hm,σ3,H3,I3,w3⟩
  |brk=>exact q3
  |ret v=>exact q3
 |false=>
  rw[aU eV]
  exact jx ⟨σ1,H2,I2,q2⟩
end
structure It where
 go:Nat->Hp->Prop
 yld:Nat->Hp->V->Hp->Prop
 stop:Nat->Hp->Prop
def ur(X:Cx)(ak:List (Addr×Obj))(H:Hp)(b:Addr):Prop:=
 H b=none/\b≠X.env.locals/\b∉X.fs/\(b∈X.ex\/X.s₀.heap.objs.size<=b)/\(∀x c,X.env.cells.lookup x=some c->c≠b)/\∀p∈X.pn++ak,p.1≠b
theorem bI.fpOk{b:Addr}(I:bI X ak σ H s)(hb:s.heap.objs.size<=b)(hn:H' b=none):ur X ak H' b:=by
 refine⟨hn,eu (aL I.lt hb),I.nofs hb,.inr (aN I.sz hb),fun x c e z=>?_,fun p hp z=>?_⟩
 ·obtain⟨v,q⟩:=I.cell x c e
  exact absurd (aL q.lt (by rw[z];exact hb)) (dL _)
 ·exact absurd (aL (aJ (I.pin p hp).1) (by rw[z];exact hb)) (dL _)
structure C6(P:Program)(w:World)(K:Frag)(tg:Expr)(J:It)(fp:List Addr)(it:Addr)(tn:Nat->Heap->Prop):Prop where
 mem:it∈fp
 obj:∀i h,tn i h->∀b∈fp,∃o,h.get? b=some o/\∀v,o.data≠.cell v
 keep:∀i h h',tn i h->(∀b∈fp,∀o,h.get? b=some o->h'.get? b=some o)->tn i h'
 item:∀(X:Cx),X.prog=P->X.w=w->X.K=K->X.calm=true->∀(i:Nat) (ak:List (Addr×Obj)) (s:Shared) (σ:St) (H:Hp) (E:Value->Shared->Prop),bI X ak σ H s->(∀b∈fp,ur X ak H b)->tn i s.heap->J.go i H ->
  wpAny (model P w) X.A (pyNext (.ref it)) (fun r s1=>∃u,r=some u /\
   wpAny (model P w) X.A (letOwnedTupleGo tg (.ref it) u) (fun _ s2=>∃x H',bI X ak σ H' s2/\dA s2.toks x u/\J.yld i H x H'/\tn (i+1) s2.heap/\∀b∈fp,H' b=none) E s1) E s
 done:∀(X:Cx),X.prog=P->X.w=w->X.K=K->X.calm=true->∀(i:Nat) (ak:List (Addr×Obj)) (s:Shared) (σ:St) (H:Hp) (E:Value->Shared->Prop),bI X ak σ H s->(∀b∈fp,ur X ak H b)->tn i s.heap->J.stop i H ->
  wpAny (model P w) X.A (pyNext (.ref it)) (fun r s1=>r=none/\bI X ak σ H s1) E s
 self:∀(A:Around) (i:Nat) (s:Shared) (Q:Value->Shared->Prop) (E:Value->Shared->Prop),tn i s.heap->Q (.ref it) s->wpAny (model P w) A (pyIter (.ref it)) Q E s
abbrev TI:=St->Hp->(It->Hp->Prop)->Prop
def VU(X:Cx)(ak:List (Addr×Obj))(σ:St)(tg:Expr)(R:It->Hp->Prop)(VT:Value)(s2:Shared):Prop:=
 ∃(it:Addr) (fp:List Addr) (tn:Nat->Heap->Prop) (J:It) (H':Hp),VT=.ref it/\bI X ak σ H' s2/\C6 X.prog X.w X.K tg J fp it tn/\tn 0 s2.heap/\(∀b∈fp,ur X ak H' b)/\R J H'
def PI(X:Cx)(tg et:Expr)(wi:TI):Prop:=
 ∀(ak:List (Addr×Obj)) (s:Shared) (σ:St) (H:Hp) (R:It->Hp->Prop),bI X ak σ H s->wi σ H R ->
  wpAny #[4] X.A (eval et X.env) (fun v s1=>wpAny #[4] X.A (pyIter v) (VU X ak σ tg R) X.xe s1) X.xe s
theorem EI      {E:Value -> Shared -> Prop} {s:Shared}    {o:Obj} {n:String} {vs:Array Value} {Q:Unit -> Shared -> Prop} (ho : s.heap.get? it = some o) (hc : o.cls = .type n) (hd : o.data = .fields vs)
    (hn : ["enumerate", "zip", "dict_itemiterator", "dict_reverseitemiterator", "odict_iterator", "itertools.zip_longest", "itertools.pairwise"].contains n = false) (hQ : Q () s) : wpAny M A (letOwnedTupleGo tg (.ref it) u) Q E s := by
  unfold letOwnedTupleGo
  cases tg <;> first
    | exact ay         hQ
    | (cases u <;> first
        | exact ay         hQ
        | (refine af         (wpAny_load ho ?_)
           rw [hc, hd]
           show wpAny M A (if (["enumerate", "zip", "dict_itemiterator", "dict_reverseitemiterator", "odict_iterator", "itertools.zip_longest", "itertools.pairwise"].contains n && vs[0]? == some (rawInt _)) = true then _ else _) Q E s
           rw [aU     (by intro h; rw [hn, Bool.false_and] at h; cases h)]
           exact ay         hQ))
noncomputable def VV(K:Frag)(a:Addr):It:=
 ⟨fun i H=>∃xs x,uq K H a xs/\xs[i]?=some x,fun i H x H'=>H'=H/\∀xs,uq K H a xs->xs[i]?=some x,fun i H=>∃xs,uq K H a xs/\xs.length<=i⟩
noncomputable def VW(K:Frag)(a:Addr):It:=
 ⟨fun i H=>∃xs x,gz K H a xs/\xs[i]?=some x,fun i H x H'=>H'=H/\∀xs,gz K H a xs->xs[i]?=some x,fun i H=>∃xs,gz K H a xs/\xs.length<=i⟩
noncomputable def Uq(lo:Int)(n:Nat):It:=⟨fun i _=>i<n,fun i H x H'=>H'=H/\x=.int (lo+i),fun i _=>n<=i⟩
theorem FD{w:World}(a it:Addr):C6 P w K tg (VV K a) [it] it (fun i h=>h.IsListIter it a i) where
 mem:=by simp
 obj:=fun i h st b hb=>by
  have e:b=it:=by simpa using hb
  subst e
  obtain⟨o,e,c,d⟩:=st
  exact⟨o,e,fun v z=>by rw[d]at z;cases z⟩
 keep:=fun i h h' st k=>st.at fun o e=>k it #[15] o e
 item:=by
  intro X hP hw hK hc i ak s σ H E I hf st hg
  subst hP hw hK
  obtain⟨xs,x,hq,hx⟩:=hg
  obtain⟨bO,rv,p,hz⟩:=I.list hq
  obtain⟨u,hu,ru⟩:=rv.get hx
  obtain⟨f0,f1,f2,f3,f4,f5⟩:=hf it #[15]
  refine wpAny_pyNext_list_item st p.isList (x:=u) (by simpa using hu) fun h' bh sb=>?_
  have I1:bI X ak σ H { s with heap:=h' }:=I.turned (t':=s.toks) (fun b o hb e=>(sb.2 b hb).trans e) f0 f1 f3 f4 f5
  obtain⟨o,e,c,d⟩:=id bh
  exact⟨u,rfl,EI (s:={ s with heap:=h' }) e c d #[3] ⟨x,H,I1,ru,⟨rfl,fun ys hy=>by rw[I.list_inj hy hq];exact hx⟩,bh,fun b hb=>(hf b hb).1⟩⟩
 done:=by
  intro X hP hw hK hc i ak s σ H E I hf st hg
  subst hP hw hK
  obtain⟨xs,hq,hx⟩:=hg
  obtain⟨bO,rv,p,hz⟩:=I.list hq
  obtain⟨f0,f1,f2,f3,f4,f5⟩:=hf it #[15]
  have hl:=rv.length
  exact wpAny_pyNext_list_end (I.ok.hd hc) st p.isList (by simp;omega) fun h' eb=>⟨rfl,I.turned (t':=s.toks) (fun b o hb e=>eb b o hb e) f0 f1 f3 f4 f5⟩
 self:=fun _ _ _ _ _ st h=>wpAny_pyIter_listiter st h
theorem C7{w:World}(a it:Addr):C6 P w K tg (VW K a) [it] it (fun i h=>h.IsTupleIter it a i) where
 mem:=by simp
 obj:=fun i h st b hb=>by
  have e:b=it:=by simpa using hb
  subst e
  obtain⟨o,e,c,d⟩:=st
  exact⟨o,e,fun v z=>by rw[d]at z;cases z⟩
 keep:=fun i h h' st k=>st.at fun o e=>k it #[15] o e
 item:=by
  intro X hP hw hK hc i ak s σ H E I hf st hg
  subst hP hw hK
  obtain⟨xs,x,hq,hx⟩:=hg
  obtain⟨bO,rv,p,hz⟩:=I.tuple hq
  obtain⟨u,hu,ru⟩:=rv.get hx
  obtain⟨f0,f1,f2,f3,f4,f5⟩:=hf it #[15]
  refine wpAny_pyNext_tuple_item st (show s.heap.IsTuple a bO.toArray from p) (x:=u) (by simpa using hu) fun h' bh sb=>?_
  have I1:bI X ak σ H { s with heap:=h' }:=I.turned (t':=s.toks) (fun b o hb e=>(sb.2 b hb).trans e) f0 f1 f3 f4 f5
  obtain⟨o,e,c,d⟩:=id bh
  exact⟨u,rfl,EI (s:={ s with heap:=h' }) e c d #[3] ⟨x,H,I1,ru,⟨rfl,fun ys hy=>by rw[I.tuple_inj hy hq];exact hx⟩,bh,fun b hb=>(hf b hb).1⟩⟩
 done:=by
  intro X hP hw hK hc i ak s σ H E I hf st hg
  subst hP hw hK
  obtain⟨xs,hq,hx⟩:=hg
  obtain⟨bO,rv,p,hz⟩:=I.tuple hq
  obtain⟨f0,f1,f2,f3,f4,f5⟩:=hf it #[15]
  have hl:=rv.length
  exact wpAny_pyNext_tuple_end (I.ok.hd hc) st (show s.heap.IsTuple a bO.toArray from p) (by simp;omega) fun h' eb=>⟨rfl,I.turned (t':=s.toks) (fun b o hb e=>eb b o hb e) f0 f1 f3 f4 f5⟩
 self:=fun _ _ _ _ _ st h=>wpAny_pyIter_tupleiter st h
theorem C8{w:World}(it:Addr)(lo:Int)(n:Nat):C6 P w K tg (Uq lo n) [it] it (fun i h=>IsRangeIter h it (lo+(i:Nat)*1) ((n:Int)-(i:Nat)) 1) where
 mem:=by simp
 obj:=fun i h st b hb=>by
  have e:b=it:=by simpa using hb
  subst e
  exact⟨_,st,fun v z=>by
   have z':Data.fields _=Data.cell v:=z
   cases z'⟩
 keep:=fun i h h' st k=>k it #[15] _ st
 item:=by
  intro X hP hw hK hc i ak s σ H E I hf st hg
  subst hP hw hK
  obtain⟨f0,f1,f2,f3,f4,f5⟩:=hf it #[15]
  have W:=Walks.range (prog:=X.prog) (w:=X.w) (I.ok.hd hc) it lo 1 n
  refine up (W.item i s _ _ hg st fun v h' tk hv bh kk hk=>?_)
  obtain⟨t,rfl⟩:=hv
  have I1:bI X ak σ H { s with heap:=h',toks:=tk }:=I.turned (fun b o hb e=>kk b o (by simpa using hb) e) f0 f1 f3 f4 f5
  refine⟨_,rfl,EI (s:={ s with heap:=h',toks:=tk }) (n:="range_iterator") bh rfl rfl #[3] ⟨.int (lo+i),H,I1,⟨t,?_⟩,⟨rfl,rfl⟩,bh,fun b hb=>(hf b hb).1⟩⟩
  rw[Int.mul_one]
 done:=by
  intro X hP hw hK hc i ak s σ H E I hf st hg
  subst hP hw hK
  obtain⟨f0,f1,f2,f3,f4,f5⟩:=hf it #[15]
  exact wpAny_pyNext_range_end (I.ok.hd hc) st (by have:n<=i:=hg;omega) fun h' eb=>⟨rfl,I.turned (t':=s.toks) (fun b o hb e=>eb b o hb e) f0 f1 f3 f4 f5⟩
 self:=fun _ _ _ _ _ st h=>wpAny_pyIter_rangeiter st h
end L2
namespace L2
open PySem PySem.Spec PyProof.Rows
section
def Rq(K:Frag)(tl:TE):TI:=fun σ H R=>tl σ H fun x H1=>∃a,x=.ref a/\(∃xs,uq K H1 a xs)/\R (VV K a) H1
def U0(K:Frag)(tl:TE):TI:=fun σ H R=>tl σ H fun x H1=>∃a,x=.ref a/\(∃xs,gz K H1 a xs)/\R (VW K a) H1
theorem KZ{l:Expr}{tl:TE}(hl:PE X l tl):PI X tg l (Rq X.K tl):=by
 intro ak s σ H R I h
 refine ky (hl ak s σ H _ I h) fun v s1 kt1 zq=>?_
 obtain⟨x,H1,I1,r1,q1⟩:=zq
 obtain⟨a,e,⟨xs,hq⟩,q⟩:=q1
 subst e
 cases r1
 obtain⟨bO,rv,p,hz⟩:=I1.list hq
 refine wpAny_pyIter_list p.isList ?_
 refine⟨s1.heap.objs.size,[s1.heap.objs.size],_,_,H1,rfl,I1.kept (t':=s1.toks) fun b o e=>aw _ e,FD a _,⟨_,aC _ rfl,rfl,rfl⟩,fun b hb=>?_,q⟩
 have e:b=s1.heap.objs.size:=by simpa using hb
 subst e
 exact I1.fpOk (aA _) (I1.hok.fresh (aA _))
theorem Oc{l:Expr}{tl:TE}(hl:PE X l tl):PI X tg l (U0 X.K tl):=by
 intro ak s σ H R I h
 refine ky (hl ak s σ H _ I h) fun v s1 kt1 zq=>?_
 obtain⟨x,H1,I1,r1,q1⟩:=zq
 obtain⟨a,e,⟨xs,hq⟩,q⟩:=q1
 subst e
 cases r1
 obtain⟨bO,rv,p,hz⟩:=I1.tuple hq
 refine fO (show s1.heap.IsTuple a bO.toArray from p) ?_
 refine⟨s1.heap.objs.size,[s1.heap.objs.size],_,_,H1,rfl,I1.kept (t':=s1.toks) fun b o e=>aw _ e,C7 a _,⟨_,aC _ rfl,rfl,rfl⟩,fun b hb=>?_,q⟩
 have e:b=s1.heap.objs.size:=by simpa using hb
 subst e
 exact I1.fpOk (aA _) (I1.hok.fresh (aA _))
theorem G5{R:It->Hp->Prop}{lo hi:Int}{t u v:Tok}{tk:Nat}(I:bI X ak σ H s)(hk:s.toks<=tk)(h1:-(2^62)<=lo)(h2:lo<2^62)(h3:-(2^62)<=hi)(h4:hi<2^62)
  (q:R (Uq lo (hi-lo).toNat) H):wpAny #[4] X.A (pyIter (.ref s.heap.objs.size)) (VU X ak σ tg R) E { s with heap:=s.heap.push { cls:=.type "range",data:=.fields #[.int lo t,.int hi u,.int 1 v] },toks:=tk }:=by
 refine wpAny_pyIter_range (IsRange.new ..) (small_one h1 h2 h3 h4) ?_
 have I1:bI X ak σ H { s with heap:=s.heap.push { cls:=.type "range",data:=.fields #[.int lo t,.int hi u,.int 1 v] },toks:=tk }:=I.kept fun b o e=>aw _ e
 refine⟨(s.heap.push { cls:=.type "range",data:=.fields #[.int lo t,.int hi u,.int 1 v] }).objs.size,[(s.heap.push { cls:=.type "range",data:=.fields #[.int lo t,.int hi u,.int 1 v] }).objs.size],_,_,H,rfl,
  I1.kept (t':=tk) fun b o e=>aw _ e,C8 _ lo (hi-lo).toNat,?_,fun b hb=>?_,q⟩
 ·have e1:lo+((0:Nat):Int)*1=lo:=by simp
  have e2:(((hi-lo).toNat:Nat):Int)-((0:Nat):Int)=Builtin.Range.rangeSize lo hi 1:=by rw[rangeSize_one];split<;>omega
  show IsRangeIter _ _ (lo+((0:Nat):Int)*1) ((((hi-lo).toNat:Nat):Int)-((0:Nat):Int)) 1
  rw[e1,e2]
  exact aC _ rfl
 ·have e:b=(s.heap.push { cls:=.type "range",data:=.fields #[.int lo t,.int hi u,.int 1 v] }).objs.size:=by simpa using hb
  subst e
  exact I1.fpOk (aA _) (I1.hok.fresh (aA _))
def Rs(ta:TA):TI:=fun σ H R=>ta σ H fun vs H1=>∃j:Int,vs=[.int j]/\-(2^62)<=j/\j<2^62/\R (Uq 0 j.toNat) H1
theorem FF{a:Expr}{ta:TA}{p pos:Pos}(hg:Gl X "range")(hm:X.mg "range"=none)(ha:PA X [a] ta)(hs:starEach [a] X.env=[(false,eval a X.env)]:=by rfl):PI X tg (.Call (.Name "range" p) [a] [] pos) (Rs ta):=by
 intro ak s σ H R I h
 refine Call_ (p7 I hg hm boot_range (dU (ky (ha pos ak s σ H _ I h) fun us s1 kt1 ⟨vs,H1,I1,r1,q1⟩=>?_) hs rfl))
 obtain⟨j,e,q1,q2,q⟩:=q1
 subst e
 cases r1 with
 |cons r rr=>
  cases rr
  obtain⟨t,rfl⟩:=r
  exact call_range_1 (G5 I1 (by first|exact aA _|exact bp _|assumption|omega) #[0] #[0] q1 q2 (by simpa using q))
def U1(wi:TI)(g:TG)(tb:TS):TS:=fun D σ H=>wi σ H fun J H1=>∃W:Nat->Nat->St->Hp->Prop,(∃m,W 0 m σ H1)/\∀i m σ H,W i m σ H ->
 (J.stop i H/\D.nx σ H)\/(J.go i H/\∃N:St->Hp->Prop,(∀σ' H',N σ' H'->∃m',m'<m/\W (i+1) m' σ' H')/\∀x H',J.yld i H x H'->g x σ H' fun σ2 H2=>tb { D with nx:=N,ct:=N,bk:=D.nx } σ2 H2)
noncomputable def zz(fp:List Addr)(h:Heap):List (Addr×Obj):=fp.filterMap fun b=>(h.get? b).map fun o=>(b,o)
theorem kH{b:Addr}{o:Obj}(hb:b∈fp)(e:h.get? b=some o):(b,o)∈zz fp h:=mH.mpr ⟨b,hb,by rw[e];rfl⟩
theorem FH{p:Addr×Obj}(hp:p∈zz fp h):p.1∈fp/\h.get? p.1=some p.2:=by
 obtain⟨b,hb,e⟩:=mH.mp hp
 cases q:h.get? b with
 |none=>rw[q]at e;cases e
 |some o=>
  rw[q]at e
  have e':(b,o)=p:=bg e
  subst e'
  exact⟨hb,q⟩
theorem bI.pinned(I:bI X ak σ H s)(hf:∀b∈fp,ur X ak H b)(ho:∀b∈fp,∃o,s.heap.get? b=some o/\∀v,o.data≠.cell v):bI X (ak++zz fp s.heap) σ H s:=
 I.pins_of fun p hp=>(aV.mp hp).elim (fun z=>I.pin p (aP _ z)) fun z=>by
  obtain⟨hb,e⟩:=FH z
  obtain⟨f0,f1,f2,_⟩:=hf p.1 hb
  obtain⟨o,e',d⟩:=ho p.1 hb
  rw[e]at e';cases e'
  exact⟨e,f0,f1,f2,d⟩
theorem bI.unpinned{pl:List (Addr×Obj)}(I:bI X (ak++pl) σ H s):bI X ak σ H s:=I.pins_of fun p hp=>I.pin p (aP _ (bB _ hp))
theorem Od{wi:TI}{g:TG}{tb:TS}{pos:Pos}(hp:PassesOwn #[4] X.A X.env X.xe)(hc:X.calm=true)(hi:PI X tg et wi)(hg:PG X tg g)(hb:FC X body tb)
  (hs:∀x,foldedSetIterable et X.env x=pure x:=by intro _;rfl):PS X (.For tg et body [] pos) (U1 wi g tb):=by
 intro ak s σ H D I h
 refine wpAny_For (C5 (hi ak s σ H _ I h) fun v s1 h1=>C5 h1 fun VT s2 h2=>?_) hs
 obtain⟨it,fp,tn,J,H2,e,I2,T,de,f2,W,⟨m0,w0⟩,turn⟩:=h2
 subst e
 have stat:∀{H':Hp},(∀b∈fp,H' b=none)->∀b∈fp,ur X ak H' b:=fun hn b hb=>⟨hn b hb,(f2 b hb).2⟩
 refine codeAny_forLoop_any (fun n s'=>∃i σ' H',bI X ak σ' H' s'/\tn i s'.heap/\(∀b∈fp,H' b=none)/\W i n σ' H') ?_ m0 ⟨0,σ,H2,I2,de,fun b hb=>(f2 b hb).1,w0⟩
 rintro n s3 ⟨i,σ3,H3,I3,nN,fr3,w3⟩
 rcases turn i n σ3 H3 w3 with⟨stop,qn⟩|⟨go,N,hN,step⟩
 ·refine gb hp (ky (T.done X rfl rfl rfl hc i ak s3 σ3 H3 X.xe I3 (stat fr3) nN stop) fun r s4 kt4 zq=>?_)
  obtain⟨hr,I4⟩:=zq
  subst hr
  exact jx ⟨σ3,H3,I4,qn⟩
 ·refine gb hp (ky (T.item X rfl rfl rfl hc i ak s3 σ3 H3 X.xe I3 (stat fr3) nN go) fun r s4 kt4 zq=>?_)
  obtain⟨u,hr,h4⟩:=zq
  subst hr
  refine gb hp (C5 h4 fun _ s5 zq=>?_)
  obtain⟨x,H5,I5,r5,y5,st5,fr5⟩:=zq
  have I5':=I5.pinned (stat fr5) (T.obj _ _ st5)
  refine gb hp (ky (hg _ s5 σ3 H5 x u _ I5' r5 (step x H5 y5)) fun _ s6 kt6 zq=>?_)
  obtain⟨σ6,H6,I6,q6⟩:=zq
  refine gb hp (C5 (hb _ s6 σ6 H6 _ I6 q6) fun f s7 q7=>?_)
  have again:∀{σ7:St} {H7:Hp},bI X (ak++zz fp s5.heap) σ7 H7 s7->N σ7 H7->∃m,m<n/\∃i σ' H',bI X ak σ' H' s7/\tn i s7.heap/\(∀b∈fp,H' b=none)/\W i m σ' H':=fun{σ7 H7} I7 n7=>by
   obtain⟨m',hm,w7⟩:=hN σ7 H7 n7
   refine⟨m',hm,i+1,σ7,H7,I7.unpinned,T.keep _ _ _ st5 fun b hb o e=>(I7.pin (b,o) (aP _ (aP _ (kH hb e)))).1,fun b hb=>?_,w7⟩
   obtain⟨o,e,d⟩:=T.obj _ _ st5 b hb
   exact(I7.pin (b,o) (aP _ (aP _ (kH hb e)))).2.1
  cases f with
  |next=>obtain⟨σ7,H7,I7,n7⟩:=q7;exact again I7 n7
  |cont=>obtain⟨σ7,H7,I7,n7⟩:=q7;exact again I7 n7
  |brk=>obtain⟨σ7,H7,I7,q7⟩:=q7;exact⟨σ7,H7,I7.unpinned,q7⟩
  |ret v=>obtain⟨x7,σ7,H7,I7,r7,q7⟩:=q7;exact⟨x7,σ7,H7,I7.unpinned,r7,q7⟩
end
end L2
namespace L2
open PySem PySem.Spec PyProof.Rows
abbrev R2:=V->V->Hp->VK->Prop
def pT(X:Cx)(f:Value->Value->Sem Value)(r:R2):Prop:=
 ∀(ak:List (Addr×Obj)) (s:Shared) (σ:St) (H:Hp) (x y:V) (v u:Value) (Q:VK),bI X ak σ H s->dA s.toks x v->dA s.toks y u->r x y H Q ->
  wpAny #[4] X.A (f v u) (EP X ak σ Q) X.xe s
def U2(X:Cx)(f:Value->Sem Value)(r:V->Hp->VK->Prop):Prop:=
 ∀(ak:List (Addr×Obj)) (s:Shared) (σ:St) (H:Hp) (x:V) (v:Value) (Q:VK),bI X ak σ H s->dA s.toks x v->r x H Q ->
  wpAny #[4] X.A (f v) (EP X ak σ Q) X.xe s
def jc(X:Cx)(f:Value)(r:List V->Hp->VK->Prop):Prop:=
 ∀(ak:List (Addr×Obj)) (s:Shared) (σ:St) (H:Hp) (xs:List V) (us:List Value) (Q:VK),bI X ak σ H s->cL s.toks xs us->r xs H Q ->
  wpAny #[4] X.A (call f us) (EP X ak σ Q) X.xe s
def Rt(r:R2)(ta tb:TE):TE:=fun σ H Q=>ta σ H fun x H1=>tb σ H1 fun y H2=>r x y H2 Q
def Wk(r:V->Hp->VK->Prop)(ta:TE):TE:=fun σ H Q=>ta σ H fun x H1=>r x H1 Q
def rI(C:Int->Int->Prop)(g:Int->Int->V):R2:=fun x y H Q=>∃i j,x=.int i/\y=.int j/\C i j/\Q (g i j) H
def G6(g:Int->Int->V):R2:=fun x y H Q=>∃i j,x=.int i/\y=.int j/\Q (g i j) H
def rU(g:Int->V):V->Hp->VK->Prop:=fun x H Q=>∃i,x=.int i/\Q (g i) H
section
variable{a b:Expr}{ta tb tc:TE}
theorem Oe(ha:PE X a ta)(hb:PE X b tb){R:V->V->Hp->Prop}(I:bI X ak σ H s)
  (h:ta σ H fun x H1=>tb σ H1 fun y H2=>R x y H2) {Q:Value->Shared->Prop} {f:Value->Value->Sem Value}
  (hf:∀v u s2 x y H2,bI X ak σ H2 s2->dA s2.toks x v->dA s2.toks y u->R x y H2->wpAny #[4] X.A (f v u) Q X.xe s2) :
  wpAny #[4] X.A (eval a X.env) (fun v s₁=>wpAny #[4] X.A (eval b X.env) (fun u s₂=>wpAny #[4] X.A (f v u) Q X.xe s₂) X.xe s₁) X.xe s:=by
 refine ky (ha ak s σ H _ I h) fun v s1 kt1 zq=>?_
 obtain⟨x,H1,I1,r1,q1⟩:=zq
 refine ky (hb ak s1 σ H1 _ I1 q1) fun u s2 kt2 zq=>?_
 obtain⟨y,H2,I2,r2,q2⟩:=zq
 exact hf v u s2 x y H2 I2 (r1.up kt2) r2 q2
theorem Ru{op:Operator}{r:R2}(ho:pT X (binaryOp op) r)(ha:PE X a ta)(hb:PE X b tb):PE X (.BinOp a op b pos) (Rt r ta tb):=by
 intro ak s σ H Q I h
 exact wpAny_BinOp (Oe ha hb I h fun v u s2 x y H2 I2 rx ry q=>ho ak s2 σ H2 x y v u Q I2 rx ry q)
theorem Rv{op:UnaryOp}{r:V->Hp->VK->Prop}(ho:U2 X (unaryOp op) r)(ha:PE X a ta):PE X (.UnaryOp op a pos) (Wk r ta):=by
 intro ak s σ H Q I h
 exact UnaryOp_ (ky (ha ak s σ H _ I h) fun v s1 kt1 ⟨x,H1,I1,r1,q1⟩=>ho ak s1 σ H1 x v Q I1 r1 q1)
theorem Q4{f:Value->Value->Sem Value}{C:Int->Int->Prop}{g:Int->Int->Int}
  (rule:∀(i j:Int) (t u:Tok) (s:Shared) (Q:Value->Shared->Prop) (E:Value->Shared->Prop),C i j->Q (.int (g i j) s.toks) { s with toks:=s.toks+1 }->wpAny #[4] X.A (f (.int i t) (.int j u)) Q E s) :
  pT X f (rI C fun i j=>.int (g i j)):=by
 intro ak s σ H x y v u Q I rx ry h
 obtain⟨i,j,rfl,rfl,hc,q⟩:=h
 obtain⟨t,rfl⟩:=rx
 obtain⟨t',rfl⟩:=ry
 exact rule i j t t' s _ _ hc ⟨.int (g i j),H,I.tok _,⟨_,rfl⟩,q⟩
theorem Of{f:Value->Value->Sem Value}{g:Int->Int->Int}
  (rule:∀(i j:Int) (t u:Tok) (s:Shared) (Q:Value->Shared->Prop) (E:Value->Shared->Prop),Q (.int (g i j) s.toks) { s with toks:=s.toks+1 }->wpAny #[4] X.A (f (.int i t) (.int j u)) Q E s) :
  pT X f (G6 fun i j=>.int (g i j)):=by
 intro ak s σ H x y v u Q I rx ry h
 obtain⟨i,j,rfl,rfl,q⟩:=h
 obtain⟨t,rfl⟩:=rx
 obtain⟨t',rfl⟩:=ry
 exact rule i j t t' s _ _ ⟨.int (g i j),H,I.tok _,⟨_,rfl⟩,q⟩
theorem K0{f:Value->Value->Sem Value}{g:Int->Int->Bool}
  (rule:∀(i j:Int) (t u:Tok) (s:Shared) (Q:Value->Shared->Prop) (E:Value->Shared->Prop),Q (.bool (g i j)) s->wpAny #[4] X.A (f (.int i t) (.int j u)) Q E s) :
  pT X f (G6 fun i j=>.bl (g i j)):=by
 intro ak s σ H x y v u Q I rx ry h
 obtain⟨i,j,rfl,rfl,q⟩:=h
 obtain⟨t,rfl⟩:=rx
 obtain⟨t',rfl⟩:=ry
 exact rule i j t t' s _ _ ⟨.bl (g i j),H,I,rfl,q⟩
def U3(i j:Int):Prop:=0<j/\j<1073741824
def Og(i j:Int):Prop:=0<=j/\j<=1000000/\i.natAbs<2^64
def Oh(i j:Int):Prop:=(-(2^64)<i/\i<2^64)\/(-(2^64)<j/\j<2^64)
theorem Oh.ok{i j:Int}(h:Oh i j):IntMulOk i j:=by
 rcases h with⟨h1,h2⟩|⟨h1,h2⟩
 ·exact .of_left (intBits_le_64 h1 h2)
 ·exact .of_right (intBits_le_64 h1 h2)
theorem C9(k:Nat):(0:Int)<=2^k:=by
 rw[two_pow_cast]
 exact Int.natCast_nonneg _
theorem Oi:pT X (binaryOp .Add) (G6 fun i j=>.int (i+j)):=Of fun _ _ _ _ _ _ _ q=>add_int q
theorem Oj:pT X (binaryOp .Sub) (G6 fun i j=>.int (i-j)):=Of fun _ _ _ _ _ _ _ q=>sub_int q
theorem Ol:pT X (binaryOp .Mult) (rI Oh fun i j=>.int (i*j)):=Q4 fun _ _ _ _ _ _ _ hc q=>mul_int q hc.ok
theorem K1:pT X (binaryOp .FloorDiv) (rI U3 fun i j=>.int (i/j)):=Q4 fun i j _ _ _ _ _ hc q=>by
 have h1:(0:Int)<j:=hc.1
 have h2:j<1073741824:=hc.2
 exact floordiv_int #[0] (by rw[mI i #[0]];exact q) (.inl (PyProof.noPylong_small #[0]))
theorem Om:pT X (binaryOp .Mod) (rI (fun _ j=>0<j) fun i j=>.int (i%j)):=Q4 fun i j _ _ _ _ _ hc q=>by
 have h1:(0:Int)<j:=hc
 exact mod_int' #[0] (by rw[Int.fmod_eq_emod_of_nonneg i #[0]];exact q)
theorem On:pT X (binaryOp .Pow) (rI Og fun i j=>.int (i^j.toNat)):=Q4 fun _ _ _ _ _ _ _ hc q=>pow_int_small hc.1 hc.2.1 hc.2.2 q
theorem G7:pT X (binaryOp .LShift) (rI Og fun i j=>.int (i*2^j.toNat)):=Q4 fun _ _ _ _ _ _ _ hc q=>lshift_int_small hc.1 hc.2.1 hc.2.2 q
theorem Oo:pT X (binaryOp .RShift) (rI (fun _ j=>0<=j) fun i j=>.int (i/2^j.toNat)):=Q4 fun i j _ _ _ _ _ hc q=>
 rshift_int hc (by rw[mI i (C9 _)];exact q)
theorem Op:pT X (binaryOp .BitAnd) (G6 fun i j=>.int (Builtin.bitAnd i j)):=Of fun _ _ _ _ _ _ _ q=>and_int q
theorem Wl{f:Value->Sem Value}{g:Int->Int}
  (rule:∀(i:Int) (t:Tok) (s:Shared) (Q:Value->Shared->Prop) (E:Value->Shared->Prop),Q (.int (g i) s.toks) { s with toks:=s.toks+1 }->wpAny #[4] X.A (f (.int i t)) Q E s) :
  U2 X f (rU fun i=>.int (g i)):=by
 intro ak s σ H x v Q I rx h
 obtain⟨i,rfl,q⟩:=h
 obtain⟨t,rfl⟩:=rx
 exact rule i t s _ _ ⟨.int (g i),H,I.tok _,⟨_,rfl⟩,q⟩
theorem Oq:U2 X (unaryOp .USub) (rU fun i=>.int (-i)):=Wl fun _ _ _ _ _ q=>neg_int q
end
section
variable{a b:Expr}{ta tb tc:TE}
theorem Os{Q:VK}{k k':Bool}(I:bI X ak σ H s)(q:Q (.bl k) H)(e:k=k'):EP X ak σ Q (.bool k') s:=by
 subst e
 exact⟨.bl k,H,I,rfl,q⟩
theorem Rw:pT X (compareOp .Lt) (G6 fun i j=>.bl (decide (i<j))):=K0 fun _ _ _ _ _ _ _ q=>lt_int q
theorem Rx:pT X (compareOp .LtE) (G6 fun i j=>.bl (decide (i<=j))):=K0 fun _ _ _ _ _ _ _ q=>le_int q
theorem Ry:pT X (compareOp .Gt) (G6 fun i j=>.bl (decide (j<i))):=K0 fun _ _ _ _ _ _ _ q=>gt_int q
theorem Rz:pT X (compareOp .GtE) (G6 fun i j=>.bl (decide (j<=i))):=K0 fun _ _ _ _ _ _ _ q=>ge_int q
theorem FJ:pT X (compareOp .In) (fun x y H Q=>∃i j,x=.str i/\y=.str j/\Q (.bl (!(Builtin.Str.occurrences j i 0 j.length 1).isEmpty)) H):=by
 intro ak s σ H x y v u Q I rx ry h
 obtain⟨i,j,rfl,rfl,q⟩:=h
 obtain⟨t,rfl⟩:=rx
 obtain⟨t',rfl⟩:=ry
 exact in_str (Os I q rfl)
theorem G8(b:Expr)(h:op≠.In:=by decide)(h2:op≠.NotIn:=by decide):behindInMarks op b=false:=by
 have e1:(op==CmpOp.In)=false:=by cases op<;>first|rfl|exact absurd rfl h
 have e2:(op==CmpOp.NotIn)=false:=by cases op<;>first|rfl|exact absurd rfl h2
 cases b<;>simp[behindInMarks,e1,e2]
theorem K2{r:R2}(ho:pT X (compareOp op) r)(ha:PE X a ta)(hb:PE X b tb)(hm:behindInMarks op b=false):PE X (.Compare a [op] [b] pos) (Rt r ta tb):=by
 intro ak s σ H Q I h
 exact wpAny_Compare1 (Oe ha hb I h fun v u s2 x y H2 I2 rx ry q=>ho ak s2 σ H2 x y v u Q I2 rx ry q) hm
def RA(t:TE):TT:=fun σ H Q=>t σ H fun x H'=>∃k,x=.bl k/\Q k H'
theorem K4{r:R2}(ho:pT X (compareOp op) r)(ha:PE X a ta)(hb:PE X b tb)(hm:behindInMarks op b=false):PT X (.Compare a [op] [b] pos) (RA (Rt r ta tb)):=by
 intro ak s σ H Q I h
 refine pW (ky (ha ak s σ H _ I h) fun v s1 kt1 ⟨x,H1,I1,r1,q1⟩=>ky (hb ak s1 σ H1 _ I1 q1) fun u s2 kt2 ⟨y,H2,I2,r2,q2⟩=>
  ky (ho ak s2 σ H2 x y v u _ I2 (r1.up kt2) r2 q2) fun c s3 kt3 ⟨z,H3,I3,r3,k,e,q3⟩=>?_) hm
 subst e
 cases r3
 exact iH ⟨H3,I3,q3⟩
theorem ut:(sizeLine:Nat)<2^63:=by rw[lv];decide
theorem bI.addS{Q:VK}{i j:Str}{t:Tk s.toks i}{t':Tk s.toks j}(I:bI X ak σ H s)(q:Q (.str (i++j)) H)(hz:i.length+j.length<=sizeLine) :
  (if i.length==0 then Made.val (.str j t'.1)else if j.length==0 then Made.val (.str i t.1)else Made.str (i++j)).post (EP X ak σ Q) s:=by
 split
 ·rename_i h
  have e:i++j=j:=by
   have h0:i.cps=#[]:=gW (by simpa[Str.length]using h)
   show Str.append i j=j
   cases hj:j;simp[Str.append,h0]
  rw[e]at q
  exact⟨.str j,H,I,⟨t',rfl⟩,q⟩
 ·split
  ·rename_i h
   have e:i++j=i:=by
    have h0:j.cps=#[]:=gW (by simpa[Str.length]using h)
    show Str.append i j=i
    cases hj:i;simp[Str.append,h0]
   rw[e]at q
   exact⟨.str i,H,I,⟨t,rfl⟩,q⟩
  ·exact⟨by rw[strLen_append];exact hz,⟨.str (i++j),H,I.tok _,I.tkS,q⟩⟩
theorem C_:pT X (binaryOp .Add) (fun x y H Q=>∃i j,x=.str i/\y=.str j/\i.length+j.length<=sizeLine/\Q (.str (i++j)) H):=by
 intro ak s σ H x y v u Q I rx ry h
 obtain⟨i,j,rfl,rfl,hz,q⟩:=h
 obtain⟨t,rfl⟩:=rx
 obtain⟨t',rfl⟩:=ry
 exact PySem.P.add_str (I.addS q hz)
theorem p8{x:V}(r:cL nk [x] us):∃u,us=[u]/\dA nk x u:=by
 cases r with
 |cons r1 r2=>cases r2;exact⟨_,rfl,r1⟩
theorem Mt{x y:V}(r:cL nk [x,y] us):∃u w',us=[u,w']/\dA nk x u/\dA nk y w':=by
 cases r with
 |cons r1 r2=>
  cases r2 with
  |cons r3 r4=>cases r4;exact⟨_,_,rfl,r1,r3⟩
theorem FK(hc:X.calm=true):jc X (.builtin "max") (fun xs H Q=>∃i j,xs=[.int i,.int j]/\Q (.int (if j>i then j else i)) H):=by
 intro ak s σ H xs us Q I r h
 obtain⟨i,j,rfl,q⟩:=h
 obtain⟨u,w',rfl,⟨t,rfl⟩,⟨t',rfl⟩⟩:=Mt r
 refine up (max_two_ints (I.ok.hd hc) fun h' tk k hk=>⟨_,H,I.kept k,?_,q⟩)
 by_cases hj:j>i
 ·rw[aK hj,aK hj];exact⟨_,rfl⟩
 ·rw[aU hj,aU hj];exact⟨_,rfl⟩
theorem FL(hc:X.calm=true):jc X (.builtin "min") (fun xs H Q=>∃i j,xs=[.int i,.int j]/\Q (.int (if j<i then j else i)) H):=by
 intro ak s σ H xs us Q I r h
 obtain⟨i,j,rfl,q⟩:=h
 obtain⟨u,w',rfl,⟨t,rfl⟩,⟨t',rfl⟩⟩:=Mt r
 refine up (min_two_ints (I.ok.hd hc) fun h' tk k hk=>⟨_,H,I.kept k,?_,q⟩)
 by_cases hj:j<i
 ·rw[aK hj,aK hj];exact⟨_,rfl⟩
 ·rw[aU hj,aU hj];exact⟨_,rfl⟩
theorem yD:jc X (.type "int") (fun xs H Q=>(∃i,xs=[.int i]/\Q (.int i) H)\/∃k,xs=[.bl k]/\Q (.int (if k then 1 else 0)) H):=by
 intro ak s σ H xs us Q I r h
 rcases h with⟨i,rfl,q⟩|⟨k,rfl,q⟩
 ·obtain⟨u,rfl,t,rfl⟩:=p8 r
  exact call_int_int ⟨.int i,H,I,⟨_,rfl⟩,q⟩
 ·obtain⟨u,rfl,r1⟩:=p8 r
  cases r1
  exact call_int_bool ⟨.int (if k then 1 else 0),H,I.tok _,⟨_,rfl⟩,q⟩
end
end L2
namespace L2
open PySem PySem.Spec PyProof.Rows
structure Da(h:Heap)(x dx C:Addr)(mA:Str->Option Value):Prop where
 obj:h.get? x=some (instObj C dx)
 ns:h.Ns1 dx mA
 ne:dx≠x
theorem FM{dx:Addr}(n:h.Ns1 dx mA):∃od,h.get? dx=some od/\∀name,lookIn name od=some (mA name):=by
 obtain⟨o,es,ep,ho,hd,hk,_,hm⟩:=n
 refine⟨o,ho,fun name=>?_⟩
 have e:=hm name
 unfold nsFind findBy at e
 rw[<- Array.find?_toList]at e
 unfold lookIn
 rw[hd]
 dsimp only
 split
 ·rename_i y q
  rw[q]at e
  exact il some e
 ·rename_i q
  rw[q]at e
  have a:es.toList.any (·.refKey)=false:=by
   rw[List.any_eq_false]
   intro y hy
   obtain⟨z,t,hkey⟩:=hk y (Array.mem_toList_iff.mp hy)
   simp[DictEntry.refKey,hkey]
  have a':¬ es.toList.any (·.refKey)=true:=by rw[a];exact eV
  rw[aU a']
  exact il some e
theorem Da.look{x dx:Addr}(I:Da h x dx C mA):∃od,PySem.W.InstAt h x (instObj C dx) C (some od)/\∀name,lookIn name od=some (mA name):=
 let ⟨od,ho,hl⟩:=FM I.ns
 ⟨od,⟨I.obj,rfl,rfl,ho⟩,hl⟩
section
variable{w:World}{x dx f:Addr}
theorem K5{VO:Bool}(X:K.In s.heap)(I:Da s.heap x dx C mA)(hg:plainGet K C name=true)(hh:PySem.W.hasDictIn K C=true)
  (ha:findIn K (.ref C) name=some none) (hv:mA name=some v) (UK:PySem.W.handedIn v=true) (h:Q v { s with toks:=s.toks+1 }) :
  wpAny #[6] A (getAttr (.ref x) name VO) Q E s:=by
 obtain⟨od,J,hl⟩:=I.look
 exact PySem.W.get_value X J (PySem.W.plainGet_of hg).1 (PySem.W.findObj_own hh ha rfl (by rw[hl,hv])) UK h
theorem G9{Q:Value×List Value->Shared->Prop}(X:K.In s.heap)(I:Da s.heap x dx C mA)(hg:plainGet K C name=true)
  (hf:findIn K (.ref C) name=some (some (.ref f))) (ht:isFn K (.ref f)=true) (hv:mA name=none) (h:Q (.ref f,[.ref x]) s) :
  wpAny #[6] A (getMethod (.ref x) name pl) Q E s:=by
 obtain⟨od,J,hl⟩:=I.look
 exact PySem.W.method_fn X J (PySem.W.plainGet_of hg).1 (PySem.W.plainGet_of hg).2 hf (dv.mp ht) (by show(lookIn name od).map (·.isSome)=some false;rw[hl,hv];rfl) h
theorem K6{ns:List Str}{Q:Unit->Shared->Prop}(X:K.In s.heap)(I:Da s.heap x dx C mA)
  (hs:findIn K (.ref C) "__setattr__"=some (some (.builtin "object.__setattr__"))) (hp:PySem.W.plainOver K C=true) (ht:PySem.W.takerIn K C name=some none) (hh:PySem.W.hasDictIn K C=true)
  (hw:PySem.Within mA ns) (AL:ns.length<=sizeLine)
  (h:∀h',Da h' x dx C (fun y=>if y=name then some v else mA y)->Heap.SameBut dx s.heap h'->Q () { s with heap:=h',toks:=s.toks+2 }) :
  wpAny #[6] A (setAttr (.ref x) name v) Q E s:=by
 obtain⟨od,J,hl⟩:=I.look
 refine PySem.W.set_plain X J hs (PySem.W.osa_open (s:={ s with toks:=s.toks+1 }) (r:=none) X J hp ht fun b=>?_)
 obtain⟨cd,hc,hd'⟩:=PySem.W.any_some hh
 have hx:s.heap.get? x=some ⟨.ref C,some dx,.plain,#[]⟩:=I.obj
 refine af (ay (af (af (qH hx (af (PySem.W.Looks.here (s:={ s with toks:=s.toks+1 }) (PySem.W.looks_clsIn X hc) ?_))))))
 rw[hd']
 refine ay (a:=some dx) (af (ay (af ?_)))
 refine wpAny_nsSet1 (s:={ s with toks:=s.toks+1 }) I.ns fun h' TW u8=>?_
 obtain⟨oD,esD,epD,hoD,hdD,hcD⟩:=TW.count (PySem.Within.cons name v hw)
 refine af (wpAny_lookBehind hoD (by rw[hdD];exact pastItsLine_dict (aN hcD (by rw[b6];omega))) ?_)
 exact ay (h _ ⟨(u8.2 _ (Ne.symm I.ne)).trans I.obj,TW,I.ne⟩ u8)
theorem G_{R:Result->Shared->Prop}{vs:List Value}(X:K.In s.heap)(hm:makesIn K C=true)
  (hi:findIn K (.ref C) "__init__"=some (some (.ref f))) (hf:PySem.W.typeIn K (.ref f)=some (.type "function"))
  (h:codeAny #[6] (A.under (.builtin "type.__call__" ⟨.ref C::vs,kw⟩)) (.call (.ref f) ⟨.ref #[7]::vs,kw⟩) (PySem.W.InitBack #[7] R)
   { s with heap:=(s.heap.push emptyDict).push (instObj C s.heap.objs.size) }) :
  codeAny #[6] A (.call (.ref C) ⟨vs,kw⟩) R s:=by
 obtain⟨hh,g,d,t,os⟩:=s
 exact PySem.W.make_core (PySem.W.makes_of X hm) (PySem.W.looks_findIn X hi) (fun self=>PySem.W.bind_fn X self hf) (.inl rfl) h
end
noncomputable def pU(f:Str)(v:V):List (Str×V)->List (Str×V)
 |[]=>[(f,v)]
 |(g,x)::r=>if g=f then(g,v)::r else(g,x)::pU f v r
theorem vd(f g:Str)(v:V):∀fs:List (Str×V),(pU f v fs).lookup g=if g=f then some v else fs.lookup g
 |[]=>by
  show List.lookup g [(f,v)]=_
  by_cases h:g=f
  ·have hb:(g==f)=true:=dv.mpr h
   simp only[List.lookup,hb,aK h]
  ·have hb:(g==f)=false:=bq.mpr h
   simp only[List.lookup,hb,aU h]
 |(k,x)::r=>by
  have ih:=vd f g v r
  rw[show pU f v ((k,x)::r)=(if k=f then(k,v)::r else(k,x)::pU f v r)from rfl]
  by_cases hk:k=f
  ·rw[aK hk]
   by_cases h:g=k
   ·have hb:(g==k)=true:=dv.mpr h
    simp only[List.lookup,hb,aK (h.trans hk)]
   ·have hb:(g==k)=false:=bq.mpr h
    simp only[List.lookup,hb,aU (fun e:g=f=>h (e.trans hk.symm))]
  ·rw[aU hk]
   by_cases h:g=k
   ·have hb:(g==k)=true:=dv.mpr h
    simp only[List.lookup,hb,aU (fun e:g=f=>hk (h.symm.trans e))]
   ·have hb:(g==k)=false:=bq.mpr h
    simp only[List.lookup,hb]
    exact ih
theorem uu(f:Str)(v:V):∀fs:List (Str×V),f∈(pU f v fs).map (·.1)/\∀g,g∈fs.map (·.1)->g∈(pU f v fs).map (·.1)
 |[]=>⟨by simp[pU],fun g h=>by simp at h⟩
 |(k,x)::r=>by
  obtain⟨i1,i2⟩:=uu f v r
  rw[show pU f v ((k,x)::r)=(if k=f then(k,v)::r else(k,x)::pU f v r)from rfl]
  by_cases hk:k=f
  ·rw[aK hk]
   subst hk
   exact⟨by simp,fun g h=>by simpa using h⟩
  ·rw[aU hk]
   refine⟨?_,fun g h=>?_⟩
   ·rw[bt]
    exact aW _ i1
   ·rw[bt]at h ⊢
    rcases aX.mp h with e|e
    ·exact aX.mpr (.inl e)
    ·exact aW _ (i2 g e)
theorem ve(f:Str)(v:V):∀fs:List (Str×V),(pU f v fs).length<=fs.length+1
 |[]=>by simp[pU]
 |(k,x)::r=>by
  have ih:=ve f v r
  rw[show pU f v ((k,x)::r)=(if k=f then(k,v)::r else(k,x)::pU f v r)from rfl]
  by_cases hk:k=f
  ·rw[aK hk,b6,b6];omega
  ·rw[aU hk,b6,b6];omega
theorem uo.some_of{v:V}{o:Option Value}(r:uo nk (some v) o):∃u,o=some u/\dA nk v u:=by
 cases o with
 |none=>exact(show False from r).elim
 |some u=>exact⟨u,rfl,r⟩
theorem uo.none_of{o:Option Value}(r:uo nk none o):o=none:=by
 cases o with
 |none=>rfl
 |some u=>exact(show False from r).elim
theorem FN{v:V}(r:dA nk v u):PySem.W.handedIn u=true:=by
 cases v with
 |non=>cases(show u=Value.none from r);rfl
 |bl b=>cases(show u=Value.bool b from r);rfl
 |int i=>obtain⟨t,e⟩:=(show ∃t,u=Value.int i t from r);cases e;rfl
 |str x=>obtain⟨t,e⟩:=(show ∃t:Tk _ x,u=Value.str x t.1 from r);cases e;rfl
 |byt b=>obtain⟨t,e⟩:=(show ∃t,u=Value.bytes b t from r);cases e;rfl
 |flt b=>obtain⟨t,e⟩:=(show ∃t,u=Value.float b t from r);cases e;rfl
 |ref a=>cases(show u=Value.ref a from r);rfl
 |ty n=>cases(show u=Value.type n from r);rfl
section
variable{w:World}{a dx:Addr}{fs Uc:List (Str×V)}
theorem vS(hok:ul P w nk H h)(e:H a=some (.ins C dx fs)):∃mA,Da h a dx C mA/\(∀f,uo nk (fs.lookup f) (mA f))/\PySem.Within mA (fs.map (·.1))/\fs.length<=1000/\H dx=some (.own a):=by
 obtain⟨d,z,ne,ob,mA,n,r,q⟩:=(show g9 P w _ H h a (.ins C dx fs)from hok a _ e)
 exact⟨mA,⟨ob,n,ne⟩,r,q,z,d⟩
end
structure Cls(K:Frag)(C:Addr):Prop where
 pg:plainGet K C Str.empty=true
 hd:PySem.W.hasDictIn K C=true
 po:PySem.W.plainOver K C=true
 sa:findIn K (.ref C) "__setattr__"=some (some (.builtin "object.__setattr__"))
theorem Cls.get(c:Cls K C)(f:Str):plainGet K C f=true:=c.pg
def rZ(K:Frag)(C:Addr)(f:Str):Prop:=findIn K (.ref C) f=some none
theorem rZ.taker{f:Str}(n:rZ K C f):PySem.W.takerIn K C f=some none:=by
 unfold PySem.W.takerIn
 rw[show findIn K (.ref C) f=some none from n]
 rfl
structure RB(K:Frag)(C:Addr)(m:Str)(f:Addr):Prop where
 at_:findIn K (.ref C) m=some (some (.ref f))
 fn:isFn K (.ref f)=true
 kp:keepIn K (.ref f)=true
section
variable{a dx:Addr}{fs:List (Str×V)}{f:Str}{v:V}
theorem Db{b:Bool}(I:bI X ak σ H s)(e:H a=some (.ins C dx fs))(c:Cls X.K C)(n:rZ X.K C f)(l:fs.lookup f=some v)
  (h:∀u s',bI X ak σ H s'->dA s'.toks v u->Q u s'):wpAny #[4] A (getAttr (.ref a) f b) Q E s:=by
 obtain⟨mA,O,r,_,_,_⟩:=vS I.hok e
 obtain⟨u,hu,ru⟩:=uo.some_of (v:=v) (o:=mA f) (by rw[<- l];exact r f)
 exact K5 I.kIn O (c.get f) c.hd n hu (FN ru) (h u _ (I.tok _) (ru.up (bp _)))
theorem we{m:Str}{g:Addr}{Q:Value×List Value->Shared->Prop}(I:bI X ak σ H s)(e:H a=some (.ins C dx fs))(c:Cls X.K C)(k:RB X.K C m g)(l:fs.lookup m=none)
  (h:Q (.ref g,[.ref a]) s):wpAny #[4] A (getMethod (.ref a) m pl) Q E s:=by
 obtain⟨mA,O,r,_,_,_⟩:=vS I.hok e
 have hn:mA m=none:=uo.none_of (by rw[<- l];exact r m)
 exact G9 I.kIn O (c.get m) k.at_ k.fn hn h
theorem Dc{y:V}{Q:Unit->Shared->Prop}(I:bI X ak σ H s)(e:H a=some (.ins C dx fs))(c:Cls X.K C)(n:rZ X.K C f)(hl:fs.length<1000)(ry:dA s.toks y u)
  (h:∀s',bI X ak σ (fW H a (.ins C dx (pU f y fs))) s'->Q () s'):wpAny #[4] A (setAttr (.ref a) f u) Q E s:=by
 obtain⟨mA,O,r,wi,_,ho⟩:=vS I.hok e
 have hz:(fs.map (·.1)).length<=sizeLine:=by rw[aE,lv];omega
 refine K6 I.kIn O c.sa c.po n.taker c.hd wi hz fun h' O' sb=>h _ ?_
 have hd:∃o,h'.get? dx=some o:=let ⟨o,_,_,e',_⟩:=O'.ns;⟨o,e'⟩
 refine I.write (x:=a) (e:=dx) (by rw[e];exact True.intro) (.inr ho) (fun b q hb z=>(sb.2 b hb).trans z) hd ?_
 refine⟨by rw[cY O.ne];exact ho,?_,O.ne,O'.obj,_,O'.ns,fun g=>?_,fun g hg=>?_⟩
 ·have:=ve f y fs;omega
 ·show uo _ ((pU f y fs).lookup g) (if g=f then some u else mA g)
  rw[vd]
  by_cases q:g=f
  ·rw[aK q,aK q];exact dA.up (oh _ _) ry
  ·rw[aU q,aU q];exact(r g).up (oh _ _)
 ·by_cases q:g=f
  ·rw[q];exact(uu f y fs).1
  ·refine(uu f y fs).2 g (wi g fun z=>hg ?_)
   show(if g=f then some u else mA g)=none
   rw[aU q];exact z
theorem bI.made(I:bI X ak σ H s):bI X ak σ (fW (fW H s.heap.objs.size (.own #[7])) #[7] (.ins C s.heap.objs.size []))
  { s with heap:=(s.heap.push emptyDict).push (instObj C s.heap.objs.size) }:=by
 have e1:(s.heap.push emptyDict).get? s.heap.objs.size=some emptyDict:=aC s.heap rfl
 have e2:((s.heap.push emptyDict).push (instObj C s.heap.objs.size)).get? #[7]=some (instObj C s.heap.objs.size):=by
  have:=aC (s.heap.push emptyDict) (o:=instObj C s.heap.objs.size) rfl
  rwa[bx]at this
 have e3:(s.heap.push emptyDict).Ns s.heap.objs.size (fun _=>none):=⟨emptyDict,#[],_,e1,rfl,(fun e he=>absurd he #[15]),fun _=>rfl⟩
 have I1:=I.laid (a:=s.heap.objs.size) (o:=.own #[7]) (h':=s.heap.push emptyDict) (t':=s.toks) (fun b u q=>aw _ q) (aA _) ⟨_,e1⟩
 refine I1.laid (a:=s.heap.objs.size+1) (o:=.ins C s.heap.objs.size []) (t':=s.toks) (fun b u q=>aw _ q) (Nat.le_of_eq (bx _ _)) ?_
 have ne:s.heap.objs.size≠s.heap.objs.size+1:=a9 (ce _)
 refine⟨by rw[cY ne,ib],bZ _,ne,e2,fun _=>none,(Heap.Ns1.of_empty e3).at fun o q=>aw _ q,fun _=>True.intro,fun y hy=>absurd rfl hy⟩
theorem K7{w:World}(hb:attributeBase e f env (eval e env)=eval e env)
  (h:wpAny #[6] A (eval e env) (fun o s₁=>wpAny #[6] A (getAttr o f true) Q E s₁) E s):wpAny #[6] A (eval (.Attribute e f pos) env) Q E s:=
 Attribute_any_ h (by rw[arm_eval_Attribute,hb])
end
def U4(K:Frag)(ta:TE)(f:Str):TE:=fun σ H Q=>ta σ H fun x H1=>∃a C dx fs v,x=.ref a/\H1 a=some (.ins C dx fs)/\Cls K C/\rZ K C f/\fs.lookup f=some v/\Q v H1
def U5(K:Frag)(ta tv:TE)(f:Str):TS:=fun D σ H=>tv σ H fun y H1=>ta σ H1 fun x H2=>∃a C dx fs,x=.ref a/\H2 a=some (.ins C dx fs)/\Cls K C/\rZ K C f/\fs.length<1000 /\
 D.nx σ (fW H2 a (.ins C dx (pU f y fs)))
section
variable{value:Expr}{f:Str}{VE:Pos}{ta tv:TE}
theorem Ot(he:PE X e ta)(hb:attributeBase e f X.env (eval e X.env)=eval e X.env):PE X (.Attribute e f pos) (U4 X.K ta f):=by
 intro ak s σ H Q I h
 refine K7 hb (ky (he ak s σ H _ I h) fun u s1 kt1 zq=>?_)
 obtain⟨x,H1,I1,rx,a,C,dx,fs,v,ex,ea,c,n,l,q⟩:=zq
 subst ex
 obtain rfl:u=Value.ref a:=rx
 exact Db I1 ea c n l fun u' s2 I2 ru=>⟨v,H1,I2,ru,q⟩
theorem Ou(ha:PE X o ta)(hv:PE X value tv)(hs:swapsWith value (some (.Attribute o f i_)) pos.line X.env=pure false):PS X (.Assign [.Attribute o f i_] value pos) (U5 X.K ta tv f):=by
 intro ak s σ H D I h
 refine plainObj_wpAny_Assign_Attribute (ky (hv ak s σ H _ I h) fun u s1 kt1 ⟨y,H1,I1,ry,q⟩=>ky (ha ak s1 σ H1 _ I1 q) fun ov s2 kt2 ⟨x,H2,I2,rx,a,C,dx,fs,ex,ea,c,n,l,q2⟩=>?_) hs
 subst ex
 obtain rfl:ov=Value.ref a:=rx
 exact Dc I2 ea c n l (ry.up kt2) fun s3 I3=>⟨σ,_,I3,q2⟩
end
section
variable{c:Value}{b:Bool}
inductive vA(K:Frag)(H:Hp):V->Value->Prop where
 |non:vA K H .non (.type "NoneType")
 |bl (x:Bool):vA K H (.bl x) (.type "bool")
 |int (i:Int):vA K H (.int i) (.type "int")
 |str (x:Str):vA K H (.str x) (.type "str")
 |flt (x:UInt64):vA K H (.flt x) (.type "float")
 |lst {a:Addr} {xs:List V} (e:H a=some (.lst xs)):vA K H (.ref a) (.type "list")
 |frz {a:Addr} {o:Obj} {xs:List V} (e:H a=some (.frz o (.lst xs))):vA K H (.ref a) (.type "list")
 |tup {a:Addr} {xs:List V} (e:H a=some (.tup xs)):vA K H (.ref a) (.type "tuple")
 |dK {a:Addr} {hG:List (v_×V)} (e:H a=some (.dK hG)):vA K H (.ref a) (.type "dict")
 |dT {a:Addr} {hG:List (List v_×V)} (e:H a=some (.dT hG)):vA K H (.ref a) (.type "dict")
 |ins {a C dx:Addr} {fs:List (Str×V)} (e:H a=some (.ins C dx fs)) (cl:Cls K C) (ha:findIn K (.ref C) "__class__"=some (some (.builtin "object.__class__")))
   (hn:PySem.W.specialIn K (.builtin "object.__class__") "__get__"=some (some (.builtin "getset_descriptor.__get__"))) (UO:PySem.W.takesIn K (.builtin "object.__class__")=some true)
   (hm:PySem.W.mroIn K C (.type "object")=some true):vA K H (.ref a) (.ref C)
theorem qQ{x:V}{t:Value}(I:bI X ak σ H s)(rx:dA s.toks x u)(ty:vA X.K H x t)(e:kitOne X.K t c=some b)(h:∀tk,Q (.bool b) { s with toks:=tk }) :
  wpAny #[4] A (call (.builtin "isinstance") [u,c]) Q E s:=by
 cases ty with
 |non=>cases(show u=Value.none from rx);exact kia_one PySem.W.kitx_none I.kIn True.intro e (fun z=>nomatch z) h
 |bl y=>cases(show u=Value.bool y from rx);exact kia_one PySem.W.kitx_bool I.kIn True.intro e (fun z=>nomatch z) h
 |int i=>obtain⟨t,q⟩:=(show ∃t,u=Value.int i t from rx);cases q;exact kia_one PySem.W.kitx_int I.kIn True.intro e (fun z=>nomatch z) h
 |str y=>obtain⟨t,q⟩:=(show ∃t:Tk _ y,u=Value.str y t.1 from rx);cases q;exact kia_one PySem.W.kitx_str I.kIn True.intro e (fun z=>nomatch z) h
 |flt y=>obtain⟨t,q⟩:=(show ∃t,u=Value.float y t from rx);cases q;exact kia_one PySem.W.kitx_float I.kIn True.intro e (fun z=>nomatch z) h
 |@lst a xs ea=>
  cases(show u=Value.ref a from rx)
  obtain⟨_,_,n,_,h1⟩:=(show g9 X.prog X.w _ H s.heap a (.lst xs)from I.hok a _ ea)
  exact kia_one PySem.W.kitx_list I.kIn ⟨_,h1,rfl⟩ e (fun z=>nomatch z) h
 |@frz a ob xs ea=>
  cases(show u=Value.ref a from rx)
  obtain⟨_,_,_,n,_,h1⟩:=(show g9 X.prog X.w _ H s.heap a (.frz ob (.lst xs))from I.hok a _ ea)
  exact kia_one PySem.W.kitx_list I.kIn ⟨_,h1,rfl⟩ e (fun z=>nomatch z) h
 |@tup a xs ea=>
  cases(show u=Value.ref a from rx)
  obtain⟨_,_,_,p⟩:=(show g9 X.prog X.w _ H s.heap a (.tup xs)from I.hok a _ ea)
  obtain⟨o,h1,h2,_⟩:=p
  exact kia_one PySem.W.kitx_tuple I.kIn ⟨o,h1,h2⟩ e (fun z=>nomatch z) h
 |@dK a hG ea=>
  cases(show u=Value.ref a from rx)
  obtain⟨_,_,vs,_,p⟩:=(show g9 X.prog X.w _ H s.heap a (.dK hG)from I.hok a _ ea)
  obtain⟨o,es,ep,h1,h2,_⟩:=p
  exact kia_one PySem.W.kitx_dict I.kIn ⟨o,h1,h2.1⟩ e (fun z=>nomatch z) h
 |@dT a hG ea=>
  cases(show u=Value.ref a from rx)
  obtain⟨_,_,xs,_,o,es,ep,h1,h2,_⟩:=(show g9 X.prog X.w _ H s.heap a (.dT hG)from I.hok a _ ea)
  exact kia_one PySem.W.kitx_dict I.kIn ⟨o,h1,h2.1⟩ e (fun z=>nomatch z) h
 |@ins a C dx fs ea cl ha hn UO hm=>
  cases(show u=Value.ref a from rx)
  obtain⟨mA,O,_⟩:=vS I.hok ea
  obtain⟨od,J,_⟩:=O.look
  exact kia_one (PySem.W.kitx_own (cl.get _) cl.hd ha hn UO hm) I.kIn J e (fun z=>nomatch z) h
end
end L2
namespace L2
open PySem PySem.Spec PyProof.Rows
structure jX(k:Nat)(A:Around):Prop where
 hd:A.handled=none
 dp:A.depth+2*k+5<recursionLimit
 un:A.units+16*k+200<cLine
theorem jX.mono(r:jX k A)(h:j<=k):jX j A:=⟨r.hd,by have:=r.dp;omega,by have:=r.un;omega⟩
theorem jX.deeper(r:jX (k+1) A)(env:Env):jX k (A.deeper env):=
 ⟨r.hd,by have:=r.dp;show A.depth+1+2*k+5<_;omega,by have:=r.un;show A.units+3+16*k+200<_;omega⟩
theorem De:(A.under (.builtin "type.__call__" ⟨.ref C::us,kw⟩)).depth=A.depth+1:=by
 first|rfl|simp[Around.under,Code.weight,Code.isCreation,Code.isGuard,Code.isCaller,Code.frames,Code.isFrame,guardIds]
theorem Df:(A.under (.builtin "type.__call__" ⟨.ref C::us,kw⟩)).units=A.units+1:=by
 first|rfl|simp[Around.under,Code.cUnits,Code.frames,Code.isFrame]
theorem jX.make(r:jX (k+1) A)(C:Addr)(us:List Value)(kw:List (Str×Value)):jX k (A.under (.builtin "type.__call__" ⟨.ref C::us,kw⟩)):=
 ⟨r.hd,by have:=r.dp;rw[De];omega,by have:=r.un;rw[Df];omega⟩
theorem jX.depth(r:jX k A):A.depth<recursionLimit:=by have:=r.dp;omega
theorem jX.units(r:jX k A):A.units+64<cLine:=by have:=r.un;omega
def U6:TA:=fun _ H Q=>Q [] H
def RC(ta:TE)(tr:TA):TA:=fun σ H Q=>ta σ H fun x H1=>tr σ H1 fun xs H2=>Q (x::xs) H2
section
variable{t:TA}
theorem uv:PA X [] U6:=fun _ _ _ _ H Q I h=>iI ⟨[],H,I,.nil,h⟩
theorem kY(ha:PE X e te)(hr:PA X es t)(hs:starEach (e::es) X.env=(false,eval e X.env)::starEach es X.env:=by rfl):PA X (e::es) (RC te t):=by
 intro pos ak s σ H Q I h
 rw[hs]
 show wpAny _ _ (spliced ((false,eval e X.env)::backTo pos (starEach es X.env))) _ _ s
 refine fP (ky (ha ak s σ H _ I h) fun u s1 kt1 zq=>?_)
 obtain⟨x,H1,I1,r1,q1⟩:=zq
 exact ky (hr pos ak s1 σ H1 _ I1 q1) fun us s2 kt2 ⟨xs,H2,I2,r2,q2⟩=>⟨x::xs,H2,I2,.cons (r1.up kt2) r2,q2⟩
end
abbrev Sp:=List V->Hp->VK->XK->Prop
abbrev FP:=List Env->Hp->Shared->XK->Value->Shared->Prop
structure Dg(P:Program)(w:World)(K:Frag)(mg:Str->Option Value)(base:Heap)(A:Around)(outer:List Env)(s:Shared)(H:Hp):Prop where
 frames:A.frames=some outer
 mod:Mod K mg base
 bs:∀b o,base.get? b=some o->s.heap.get? b=some o/\H b=none
 bsz:base.objs.size<=s.heap.objs.size
 funs:s.heap.FunFrames base outer
 frf:∀b∈sP outer,H b=none
 hok:ul P w s.toks H s.heap
 bare:AllBare s.gens
def CE(outer:List Env)(P:Program)(w:World)(H:Hp)(s:Shared)(Q:VK)(u:Value)(s':Shared):Prop:=
 ∃v H',s'.os=s.os/\AllBare s'.gens/\Un (sP outer) [] H H' s.heap s'.heap/\ul P w s'.toks H' s'.heap/\dA s'.toks v u/\Q v H'
def CR(CX:FP)(outer:List Env)(P:Program)(w:World)(H:Hp)(s:Shared)(Q:VK)(E:XK)(r:Result)(s':Shared):Prop:=
 match r with
 |.ok (.ret u)=>CE outer P w H s Q u s'
 |.ok _=>False
 |.error e=>CX outer H s E e s'
structure c7(P:Program)(w:World)(K:Frag)(mg:Str->Option Value)(base:Heap)(CX:FP)(k:Nat)(f:Addr)(fd:FuncData)(ps:List Str)(sp:Sp):Prop where
 len:∀vs H Q E,sp vs H Q E->vs.length=ps.length
 run:∀(A:Around) (outer:List Env) (s:Shared) (H:Hp) (args:Args) (us:List Value) (vs:List V) (Q:VK) (E:XK),jX k A->Dg P w K mg base A outer s H->(0<s.toks\/∃n,ps=[n]/\fd.scope.names.lookup n=some .local)->BindsTo s fd args (ps.zip us)->cL s.toks vs us->sp vs H Q E ->
  codeAny (model P w) A (.call (.ref f) args) (CR CX outer P w H s Q E) s
theorem c7.mono{w:World}{CX:FP}{f:Addr}{sp:Sp}(F:c7 P w K mg base CX j f fd ps sp)(h:j<=k) :
  c7 P w K mg base CX k f fd ps sp:=⟨F.len,fun A outer s H args us vs Q E hr=>F.run A outer s H args us vs Q E (hr.mono h)⟩
theorem c7.imp{w:World}{CX:FP}{f:Addr}{sp Wd:Sp}(F:c7 P w K mg base CX k f fd ps sp)
  (h:∀vs H Q E,Wd vs H Q E->sp vs H Q E):c7 P w K mg base CX k f fd ps Wd:=
 ⟨fun vs H Q E q=>F.len vs H Q E (h _ _ _ _ q),fun A outer s H args us vs Q E hr he hp hb hv hs=>F.run A outer s H args us vs Q E hr he hp hb hv (h _ _ _ _ hs)⟩
theorem Dg.make{w:World}(e:Dg P w K mg base A outer s H)(C:Addr)(us:List Value)(kw:List (Str×Value)) :
  Dg P w K mg base (A.under (.builtin "type.__call__" ⟨.ref C::us,kw⟩)) outer s H:=⟨by first|exact e.frames|(simpa[Around.under,Code.envs,Code.isFrame,pushEnvs]using e.frames),e.mod,e.bs,e.bsz,e.funs,e.frf,e.hok,e.bare⟩
section
variable{s':Shared}
theorem bI.env0(I:bI X ak σ H s):Dg X.prog X.w X.K X.mg X.base X.A X.stack s H:=
 ⟨I.ok.frames,I.ok.mod,I.bs,aN I.ok.bsz I.sz,I.stack,I.stkFree,I.hok,I.bare⟩
theorem bI.after{Q:VK}(I:bI X ak σ H s)(h:CE X.stack X.prog X.w H s Q u s')(hk:s.toks<=s'.toks):EP X ak σ Q u s':=by
 obtain⟨v,H',os,bare,un,hok,r,q⟩:=h
 obtain⟨hh,g,d,t,os'⟩:=s'
 obtain rfl:os'=s.os:=os
 exact⟨v,H',I.call (h':=hh) (g':=g) (d':=d) (t':=t) (ch:=[]) un hok bare (fun b z=>absurd z #[15]) hk,r,q⟩
end
def rh(K:Frag)(fd:FuncData)(ps:List Str)(ds:List Value):Prop:=
 ∀(s:Shared) (us:List Value),K.In s.heap->(us++ds).length=ps.length->BindsTo s fd ⟨us,[]⟩ (ps.zip (us++ds))
theorem rh.all(h:∀us:List Value,us.length=ps.length->bindArgs fd ⟨us,[]⟩=pure (ps.zip us)):rh K fd ps []:=fun s us _ hl=>by
 rw[a8]at hl ⊢
 exact .of_eq (h us hl)
def Ov(CX:FP)(X:Cx)(E:XK):Prop:=∀(ak:List (Addr×Obj)) (σ:St) (H:Hp) (s:Shared) (e:Value) (s':Shared),bI X ak σ H s->s.toks<=s'.toks->CX X.stack H s E e s'->X.xe e s'
section
variable{CX:FP}{f:Addr}{sp:Sp}{dvs:List V}{ds:List Value}{E:XK}{m:Str}{ta:TE}{t:TA}
structure Mk(K:Frag)(C f:Addr):Prop where
 makes:makesIn K C=true
 init:findIn K (.ref C) "__init__"=some (some (.ref f))
 fn:isFn K (.ref f)=true
 kp:keepIn K (.ref C)=true
theorem G'{Q:VK}(M:Mk X.K C f)(F:c7 X.prog X.w X.K X.mg X.base CX k f fd ps sp)(hr:jX (k+1) X.A)(hb:rh X.K fd ps ds)(hd:cL 0 dvs ds)
  (hx:Ov CX X E) (I:bI X ak σ H s) (r:cL s.toks vs us)
  (h:∀x dx,H x=none->H dx=none->dx≠x->sp (.ref x::(vs++dvs)) (fW (fW H dx (.own x)) x (.ins C dx [])) (fun v H2=>v=.non/\Q (.ref x) H2) E) :
  wpAny #[4] X.A (call (.ref C) us) (EP X ak σ Q) X.xe s:=by
 have hq:=h #[7] s.heap.objs.size (I.hok.fresh (bp _)) (I.hok.fresh (aA _)) (a9 (ce _))
 have I2:=bI.made (C:=C) I
 have r2:cL _ (V.ref #[7]::(vs++dvs)) (Value.ref #[7]::(us++ds)):=.cons rfl ((r.append (hd.up (bZ _))).up (by first|exact aA _|exact oh _ _|omega))
 have hl:(Value.ref #[7]::us++ds).length=ps.length:=by
  have e:=r2.length
  rw[F.len _ _ _ _ hq]at e
  exact e.symm
 refine up (sN (G_ (f:=f) I.kIn M.makes M.init (dv.mp M.fn) (i' (F.run _ X.stack _ _ ⟨Value.ref #[7]::us,[]⟩ (Value.ref #[7]::(us++ds)) _ _ E (hr.make C us [])
  (I2.env0.make C us []) (.inl I2.pos) (hb _ (Value.ref #[7]::us) I2.kIn hl) r2 hq) fun r s' hq'=>?_)))
 cases r with
 |error e=>exact fun kt=>hx ak σ _ _ e s' I2 kt hq'
 |ok fl=>
  cases fl with
  |ret u=>
   have kq:s.toks<=s'.toks->_:=fun kt=>I2.after hq' kt
   refine⟨?_,fun kt=>?_⟩
   ·obtain⟨v,H',_,_,_,_,rv,ev,_⟩:=hq'
    subst ev
    exact rv
   ·obtain⟨v,H',I3,rv,ev,q3⟩:=kq kt
    exact⟨V.ref #[7],H',I3,rfl,q3⟩
  |next=>exact False.elim hq'
  |brk=>exact False.elim hq'
  |cont=>exact False.elim hq'
end
section
variable{CX:FP}{f:Addr}{sp:Sp}{E:XK}{m:Str}{WA:Pos}{WE:List Keyword}{ta:TE}{t tk:TA}{nm:Option Str}
variable{g:List Value->List Value->List Value}{gV:List V->List V->List V}
end
structure ba(N P:List Str)(sc:Scope):Prop where
 kind:sc.kind=.function
 co:sc.isCoroutine=false
 gen:sc.isGenerator=false
 nd:N.Nodup
 pre:N.take P.length=P
 par:∀x∈P,sc.names.lookup x=some .local\/sc.names.lookup x=some .cell
 nofree:∀y∈sc.names,y.2≠.free
theorem yE:∀{binds:List (Str×Value)} {m:Str->Option Value},(∀v,(x,v)∉binds)->bindL kindOf binds m x=m x
 |[],_,_=>rfl
 |(n,v)::r,m,h=>by
  unfold bindL
  rw[yE fun w hw=>h w (aW _ hw)]
  split
  ·have:x≠n:=by rintro rfl;exact h v cu
   simp[this]
  ·rfl
theorem yF:∀{binds:List (Str×Value)} {m:Str->Option Value},(∀v,(x,v)∉binds)->bindC kindOf binds m x=m x
 |[],_,_=>rfl
 |(n,v)::r,m,h=>by
  unfold bindC
  rw[yF fun w hw=>h w (aW _ hw)]
  split
  ·rfl
  ·have:x≠n:=by rintro rfl;exact h v cu
   simp[this]
theorem yG:∀{P:List Str} {vs:List Value} {i:Nat} {m:Str->Option Value},P.Nodup->P[i]?=some x->vs[i]?=some v->kindOf x=some .local ->
  bindL kindOf (P.zip vs) m x=some v
 |[],_,_,_,_,h,_,_=>by simp at h
 |_::_,[],_,_,_,_,h,_=>by simp at h
 |p::P,w::vs,0,m,nd,h1,h2,hk=>by
  simp at h1 h2;subst h1;subst h2
  show bindL kindOf ((p,w)::P.zip vs) m p=_
  unfold bindL
  rw[yE fun v hv=>(jy.mp nd).1 (pO hv).1,aK hk]
  simp
 |p::P,w::vs,i+1,m,nd,h1,h2,hk=>by
  show bindL kindOf ((p,w)::P.zip vs) m x=_
  unfold bindL
  exact yG (i:=i) (jy.mp nd).2 (by simpa using h1) (by simpa using h2) hk
theorem yH:∀{P:List Str} {vs:List Value} {i:Nat} {m:Str->Option Value},P.Nodup->P[i]?=some x->vs[i]?=some v->kindOf x≠some .local ->
  bindC kindOf (P.zip vs) m x=some v
 |[],_,_,_,_,h,_,_=>by simp at h
 |_::_,[],_,_,_,_,h,_=>by simp at h
 |p::P,w::vs,0,m,nd,h1,h2,hk=>by
  simp at h1 h2;subst h1;subst h2
  show bindC kindOf ((p,w)::P.zip vs) m p=_
  unfold bindC
  rw[yF fun v hv=>(jy.mp nd).1 (pO hv).1,aU hk]
  simp
 |p::P,w::vs,i+1,m,nd,h1,h2,hk=>by
  show bindC kindOf ((p,w)::P.zip vs) m x=_
  unfold bindC
  exact yH (i:=i) (jy.mp nd).2 (by simpa using h1) (by simpa using h2) hk
def vf(N:List Str)(vs:List V):St:=vs.map some++List.replicate (N.length-vs.length) none
def Dh(CX:FP)(P:Program)(w:World)(K:Frag)(mg:Str->Option Value)(base:Heap)(N:List Str)(fN:Str)(scope:Scope)(f:Addr)(cd:Value)(A:Around)(outer:List Env)(s:Shared)(H:Hp)(E:XK):Cx where
 prog:=P
 w:=w
 K:=K
 mg:=mg
 base:=base
 A:=A.deeper (envOfC fN scope s.heap.objs.size f cd)
 N:=N
 s₀:=s
 H₀:=H
 env:=envOfC fN scope s.heap.objs.size f cd
 outer:=outer
 stack:=envOfC fN scope s.heap.objs.size f cd::outer
 ex:=[]
 calm:=true
 fn:=fun _=>true
 pn:=[]
 xe:=fun e s'=>wpAny (model P w) (A.deeper (envOfC fN scope s.heap.objs.size f cd)) (leaving (envOfC fN scope s.heap.objs.size f cd) e) (fun _ s''=>CX outer H s E e s'') (fun e' s''=>CX outer H s E e' s'') s'
theorem nO{sc:Scope}{n:Nat}(h:sc.names.lookup x=some .cell):∃c,(cellsFrom n sc.names []).lookup x=some c:=by
 have q:=PySem.W.cellsFrom_some sc.names n [] (.inl h)
 exact Option.isSome_iff_exists.mp q
theorem Di{globals:Addr}{n:Str}{func:Option Addr}{code:Value}{builtins:Addr}{Q:Env->Shared->Prop}
  (hk:scope.kind=.function) (hl:scope.names.lookup n=some .local)
  (hQ:∀env,env=newEnv scope s.heap.objs.size globals (cellsFrom #[7] scope.names []) fN func code none builtins ->
   ∀s',s.toks<s'.toks->InCallC s env.locals (bindL env.kindOf [(n,v)] fun _=>none) env.cells (bindC env.kindOf [(n,v)] fun _=>none) s'->Q env s') :
  wpAny M A (newFunctionEnv scope globals [] [(n,v)] fN func code none builtins) Q E s:=by
 simp only[newFunctionEnv,Option.isSome_none,fQ,gX]
 refine af (wpAny_alloc ?_)
 refine af (wpAny_layCells _ (fun name kind cells=>by cases hkc:kind==NameKind.cell<;>simp[hkc]) _ _ _ _ ?_)
 have ok:=cellsFrom_ok scope.names (s.heap.push { cls:=.type "frame",data:=.dict #[] }) #[7] [] ⟨fun _ _ hm=>(nomatch hm),List.Pairwise.nil⟩ (by rw[bx];exact aA _)
 rw[bx]at ok
 rw[show({ s with heap:=s.heap.push { cls:=.type "frame",data:=.dict #[] } }:Shared).heap.objs.size=s.heap.objs.size+1 from bx ..]
 have x:InCallC s s.heap.objs.size (fun _=>none) (cellsFrom #[7] scope.names []) (fun _=>none) { s with heap:=pushCells (s.heap.push { cls:=.type "frame",data:=.dict #[] }) scope.names }:=
  ⟨⟨⟨_,_,rfl⟩,(Heap.Ns.new s.heap (.type "frame")).keeps (lS _ _),fun b o e=>lS _ _ b o (aw _ e),aA _⟩,
   fun n c hc=>(ok.empty n c (PySem.mem_of_lookup hc)).1,ok.apart,fun n c hm=>(ok.empty n c hm).2⟩
 refine af ?_
 rw[lT]
 refine af (af (pV (env:=newEnv scope s.heap.objs.size globals (cellsFrom #[7] scope.names []) fN func code none builtins) hl x.toInCall.ns (fun h' TX hs'=>ay ?_) (by show(scope.kind==_||(scope.kind==_&&_))=false;rw[hk];rfl)))
 show wpAny M A (forIn [] _ _) _ _ _
 rw[qI]
 refine ay (ay (hQ _ rfl _ (ce _) ?_))
 have e1:bindL (newEnv scope s.heap.objs.size globals (cellsFrom #[7] scope.names []) fN func code none builtins).kindOf [(n,v)] (fun _=>none)=fun y=>if y=n then some v else none:=by
  show(if _=some NameKind.local then _ else _)=_;exact aK hl
 have e2:bindC (newEnv scope s.heap.objs.size globals (cellsFrom #[7] scope.names []) fN func code none builtins).kindOf [(n,v)] (fun _=>none)=fun _=>none:=by
  show(if _=some NameKind.local then _ else _)=_;exact aK hl
 rw[e1,e2]
 refine⟨⟨?_,TX,fun b o e=>?_,x.toInCall.fresh⟩,fun k c hc=>?_,x.apart,x.above⟩
 ·exact⟨h',_,rfl⟩
 ·exact hs'.extBut b o (a9 (aL (aJ e) x.toInCall.fresh)) (x.toInCall.keep b o e)
 ·exact(x.cell k c hc).sameBut hs' (eu (x.above k c (PySem.mem_of_lookup hc)))
theorem FQ{CX:FP}{w:World}{N:List Str}{f:Addr}{cd:Value}{s1:Shared}{E:XK}
  (S:ba N ps scope) (hd:A.handled=none) (e0:Dg P w K mg base A outer s H) (hl:vs.length=ps.length) (r:cL s.toks vs us) (ms:s.toks<=s1.toks) (VP:0<s1.toks)
  (x:InCallC s s.heap.objs.size (bindL (envOfC fN scope s.heap.objs.size f cd).kindOf (ps.zip us) fun _=>none) (cellsFrom #[7] scope.names []) (bindC (envOfC fN scope s.heap.objs.size f cd).kindOf (ps.zip us) fun _=>none) s1) :
  bI (Dh CX P w K mg base N fN scope f cd A outer s H E) [] (vf N vs) H s1:=by
 have ou:ps.length<=N.length:=by have:=il List.length S.pre;rw[aF]at this;omega
 obtain⟨h1,tk,rfl,hk⟩:=x.done
 have noA:∀b:Addr,b∉(Dh CX P w K mg base N fN scope f cd A outer s H E).ex:=fun b z=>absurd (show b∈([]:List Addr)from z) #[15]
 refine⟨⟨e0.mod,S.kind,rfl,rfl,aA _,fun y z c h1 h2=>?_,fun y hy=>?_,fun y c _ h=>?_,fun _=>hd,Around.frames_deeper e0.frames,.inr ⟨rfl,rfl⟩,fun b z=>absurd z (noA b),e0.bs,e0.bsz,fun b _ _=>noA b,fun b z=>absurd z (noA b),e0.funs,e0.frf⟩,
  rfl,e0.bare,Un.kept hk,⟨_,x.toInCall.ns,fun i y v h1 h2 h3=>?_⟩,fun y c h=>⟨_,x.cell y c h⟩,e0.hok.fresh (aA _),fun y c h=>?_,fun p hp=>absurd (show p∈([]:List (Addr×Obj))from hp) #[15],(e0.hok.kept hk).up ms,?_,VP,ms⟩
 ·exact name_of_addr x.apart (PySem.mem_of_lookup h1) (PySem.mem_of_lookup h2)
 ·have hy:scope.names.lookup y=some .cell\/scope.names.lookup y=some .free:=hy
  rcases hy with hy|hy
  ·exact nO hy
  ·exact absurd rfl (S.nofree _ (PySem.mem_of_lookup hy))
 ·exact gp (x.above y c (PySem.mem_of_lookup h))
 ·have hi:i<vs.length:=by
   unfold vf at h2
   by_cases hi:i<vs.length
   ·exact hi
   ·rw[aS (by simpa using hi)]at h2
    rw[jS]at h2
    split at h2<;>cases h2
  have ha:vs[i]?=some v:=by
   unfold vf at h2
   rw[aR (by simpa using hi),aG]at h2
   cases e:vs[i]? with
   |none=>rw[e]at h2;cases h2
   |some a=>rw[e]at h2;cases h2;rfl
  obtain⟨u,hu,rv⟩:=r.get ha
  have hp:ps[i]?=some y:=by
   rw[<- S.pre,cy #[0]];exact h1
  have ndP:ps.Nodup:=by rw[<- S.pre];exact S.nd.sublist (List.take_sublist _ _)
  refine⟨u,rv.up ms,?_⟩
  rcases S.par y (cz hp)with k|k
  ·exact .inl ⟨k,yG ndP hp hu k⟩
  ·obtain⟨c,e⟩:=nO (n:=s.heap.objs.size+1) k
   refine .inr ⟨.inl k,c,e,?_⟩
   have q:=x.cell y c e
   rw[yH ndP hp hu (by show scope.names.lookup y≠_;rw[k];decide)]at q
   exact q
 ·exact e0.hok.fresh (gp (x.above y c (PySem.mem_of_lookup h)))
 ·unfold vf
  show _=N.length
  rw[ai,aE,List.length_replicate]
  omega
theorem RD{CX:FP}{w:World}{f:Addr}{params:Arguments}{dV kV um pm fD ct oc:Value}{an od:Option Addr}
  {NR:Array (Option Value)} {N ps:List Str} {sp:Sp} (lk:K.lookup f=some ⟨oc,od,.func (fnOf name fN params body scope dV kV um pm an fD ct),NR⟩) (C4:codeIn K fD fN=true) (S:ba N ps scope)
  (len:∀vs H Q E,sp vs H Q E->vs.length=ps.length)
  (CP:∀(A:Around) (outer:List Env) (s:Shared) (H:Hp) (vs:List V) (Q:VK) (E:XK),jX k (A.deeper (envOfC fN scope s.heap.objs.size f fD))->sp vs H Q E ->
   ∃t,FC (Dh CX P w K mg base N fN scope f fD A outer s H E) body t/\t { nx:=fun _ H'=>Q .non H',rt:=Q } (vf N vs) H) :
  c7 P w K mg base CX (k+1) f (fnOf name fN params body scope dV kV um pm an fD ct) ps sp:=by
 refine⟨len,fun A outer s H args us vs Q E hr e0 hp hb r NL=>?_⟩
 have hl:=len _ _ _ _ NL
 have KX:K.In s.heap:=e0.mod.kin.keeps fun b o e=>(e0.bs b o e).1
 have lim:s.heap.NoLimit:=e0.mod.nolimit.keeps fun b o e=>(e0.bs b o e).1
 have kD:∀y∈ps.zip us,scope.names.lookup y.1=some .local\/(scope.names.lookup y.1=some .cell/\((cellsFrom #[7] scope.names []).lookup y.1).isSome=true):=fun zq hy=>by
  obtain⟨n,v⟩:=zq
  rcases S.par n (pO hy).1 with q|q
  ·exact .inl q
  ·exact .inr ⟨q,PySem.W.cellsFrom_some _ _ _ (.inl q)⟩
 refine codeAny_call_function hr.depth (KX _ _ lk) rfl S.co S.gen rfl (PySem.W.codeRec_of KX C4) (hb _ _ _ _ ?_)
 suffices hh:∀env,env=newEnv scope s.heap.objs.size mainGlobals (cellsFrom #[7] scope.names []) (fN++".<locals>.") (some f) fD none builtinsNs->∀s1,s.toks<=s1.toks->0<s1.toks->InCallC s env.locals (bindL env.kindOf (ps.zip us) fun _=>none) env.cells (bindC env.kindOf (ps.zip us) fun _=>none) s1->s1.heap.NoLimit/\codeAny (model P w) A (Code.func body env) (CR CX outer P w H s Q E) s1 by
  rcases hp with hp|⟨n,e1,hn⟩
  ·exact up (wpAny_newFunctionEnv_cells S.kind kD fun env he s1 x ms=>hh env he s1 ms (aL hp ms) x)
  ·subst e1
   have hus:us.length=1:=r.length.symm.trans hl
   obtain⟨u,rfl⟩:∃u,us=[u]:=ia.mp hus
   exact Di S.kind hn fun env he s1 hlt x=>hh env he s1 (gp hlt) (jH (bZ _) hlt) x
 intro env he s1 ms VP x
 subst he
 refine⟨lim.keeps x.toInCall.keep,codeAny_func ?_⟩
 obtain⟨t,ht,hq⟩:=CP A outer s H vs Q E (hr.deeper _) NL
 have I:bI (Dh CX P w K mg base N fN scope f fD A outer s H E) [] (vf N vs) H s1:=FQ S hr.hd e0 hl r ms VP x
 refine jG (ht [] s1 (vf N vs) H _ I hq) (fun fl s' hs=>?_) fun e s' hs=>hs
 have kT:∀{σ':St} {H':Hp} {v:V} {u:Value},bI (Dh CX P w K mg base N fN scope f fD A outer s H E) [] σ' H' s'->dA _ v u->Q v H'->CE outer P w H s Q u s':=
  fun{σ' H' v u} J rv q=>⟨v,H',J.os,J.bare,J.base,J.hok,rv,q⟩
 cases fl with
 |ret u=>
  obtain⟨v,σ',H',J,rv,q⟩:=hs
  exact kT J rv q
 |next=>
  obtain⟨σ',H',J,q⟩:=hs
  exact kT (v:=V.non) (u:=Value.none) J rfl q
 |brk=>
  obtain⟨_,_,_,q⟩:=hs
  exact False.elim q
 |cont=>
  obtain⟨_,_,_,q⟩:=hs
  exact False.elim q
end L2
namespace L2
open PySem PySem.Spec PyProof.Rows
section
variable{t:TA}{id:String}{r:List V->Hp->VK->Prop}
def U7(r:List V->Hp->VK->Prop)(t:TA):TE:=fun σ H Q=>t σ H fun vs H1=>r vs H1 Q
theorem p_(hc:jc X (.builtin id) r)(hg:Gl X x)(hm:X.mg x=none)(hv:bootBuiltins x=some (.builtin id))(ha:PA X (e::es) t)(hn:x ≠ "__name__":=by decide)(Kk:(x==("__debug__":Str))=false:=by decide)
  (he:starEach (e::es) X.env=(false,eval e X.env)::starEach es X.env:=by rfl) (ou:(backTo pos (starEach es X.env)).any (·.1)=false:=by rfl):PE X (.Call (.Name x p) (e::es) [] pos) (U7 r t):=by
 intro ak s σ H Q I h
 refine fR (p7 I hg hm hv ?_ hn Kk)
 exact kU (ky (ha pos ak s σ H _ I h) fun us s1 kt1 ⟨vs,H1,I1,r1,q1⟩=>hc ak s1 σ H1 vs us Q I1 r1 q1) he ou
theorem FR(hc:jc X (.type T) r)(hg:Gl X x)(hm:X.mg x=none)(hv:bootBuiltins x=some (.type T))(ha:PA X (e::es) t)(hn:x ≠ "__name__":=by decide)(Kk:(x==("__debug__":Str))=false:=by decide)
  (he:starEach (e::es) X.env=(false,eval e X.env)::starEach es X.env:=by rfl) (ou:(backTo pos (starEach es X.env)).any (·.1)=false:=by rfl):PE X (.Call (.Name x p) (e::es) [] pos) (U7 r t):=by
 intro ak s σ H Q I h
 refine fR (p7 I hg hm hv ?_ hn Kk)
 exact dU (ky (ha pos ak s σ H _ I h) fun us s1 kt1 ⟨vs,H1,I1,r1,q1⟩=>hc ak s1 σ H1 vs us Q I1 r1 q1) he ou
end
end L2
namespace HT
open PySem PyProof.Rows
section
open PySem.SeqAt
open PySem.AutoSeq1 (wpAny_loadPart')
open PySem.MeetsSeq PySem.MeetsSeq2 PySem.MeetsSeq3
end
section
variable{w:World}
theorem cat_tup{t b:Addr}{vs ws:List Value}(ht:IsTup s.heap t vs.toArray)(hb:IsTup s.heap b ws.toArray)(hv:vs≠[])
  (h1:ws=[]->Q (.ref t) s) (h2:ws≠[]->Q (.ref s.heap.objs.size) { s with heap:=s.heap.push { cls:=.type "tuple",data:=.seq (vs++ws).toArray } })
  (AL:vs.length+ws.length<=sizeLine):wpAny #[6] A (binaryOp .Add (.ref t) (.ref b)) Q E s:=by
 obtain⟨⟨cls,dd,data,sl⟩,ho,hc,n,hd⟩:=id ht
 obtain⟨⟨cls2,dd2,data2,sl2⟩,ho2,hc2,n2,hd2⟩:=id hb
 simp only at hc hd hc2 hd2
 subst hc hd hc2 hd2
 have e:vs.toArray++ws.toArray=(vs++ws).toArray:=by simp
 by_cases hw:ws=[]
 ·exact ud ⟨_,ho,rfl⟩ ⟨_,ho2,rfl⟩ ol rV PySem.F.slot_tuple_add PySem.F.entry_tuple_add (PySem.F.args_tuple_add_2 _ _)
   (tuple_addW1 t b vs.toArray ws.toArray n n2 dd dd2 sl sl2 (by simpa using hv) (by simp[hw])) ⟨ho,ho2,h1 hw⟩
 ·refine ud ⟨_,ho,rfl⟩ ⟨_,ho2,rfl⟩ ol rV PySem.F.slot_tuple_add PySem.F.entry_tuple_add (PySem.F.args_tuple_add_2 _ _)
   (tuple_addW2 t b vs.toArray ws.toArray n n2 dd dd2 sl sl2 (by simpa using hv) (by simpa using hw) (by rw[aT,aT];exact AL)) ⟨ho,ho2,?_⟩
  rw[e]
  exact h2 hw
noncomputable def sIx(n d:Nat):Option Int->Nat
 |none=>d
 |some v=>if v<0 then(v+(n:Int)).toNat else min v.toNat n
theorem sIx_none(n d:Nat):sIx n d none=d:=rfl
theorem sIx_nat(n d k:Nat):sIx n d (some (k:Int))=min k n:=by
 show(if (k:Int)<0 then((k:Int)+(n:Int)).toNat else min (k:Int).toNat n)=min k n
 rw[aU #[0],cf]
theorem sIx_le(n d:Nat)(hd:d<=n)(o:Option Int):sIx n d o<=n:=by
 cases o with
 |none=>exact hd
 |some v=>
  show(if v<0 then(v+(n:Int)).toNat else min v.toNat n)<=n
  by_cases hv:v<0
  ·rw[aK hv];omega
  ·rw[aU hv];exact Nat.min_le_right _ _
theorem EJ(v:Int)(n d:Nat):(if v<0 then max (v+(n:Int)) 0 else min v (n:Int))=((sIx n d (some v):Nat):Int):=by
 show(if v<0 then max (v+(n:Int)) 0 else min v (n:Int))=(((if v<0 then(v+(n:Int)).toNat else min v.toNat n):Nat):Int)
 by_cases hv:v<0
 ·simp only[aK hv];omega
 ·simp only[aU hv];omega
theorem Dj(lo hi:Option Int)(n:Nat):Builtin.Slice.sliceAdjust lo hi 1 (n:Int)=(((sIx n 0 lo:Nat):Int),((sIx n n hi:Nat):Int)):=by
 have h1:¬ ((1:Int)<0):=by omega
 unfold Builtin.Slice.sliceAdjust
 simp only[h1,gX]
 refine Prod.ext ?_ ?_
 ·cases lo with
  |none=>rfl
  |some v=>exact EJ v n 0
 ·cases hi with
  |none=>rfl
  |some v=>exact EJ v n n
theorem Dk(i j:Nat):Builtin.Slice.slicePlaces (i:Int) (j:Int) 1=j-i:=by
 unfold Builtin.Slice.slicePlaces
 have h1:(1:Int)>0:=by omega
 simp only[h1,gG,Int.ediv_one]
 split<;>omega
theorem wf{o:Option Int}{Q:Option Int->Shared->Prop}(p:IsPart v o)(h:Q o s):wpAny #[6] A (Builtin.Slice.slicePartIndex v) Q E s:=by
 cases p with
 |none=>exact slicePart_none h
 |int i t=>exact slicePart_int h
theorem sliceApplied_gen{sl:Addr}{vl vu:Value}{lo hi:Option Int}{Q:Int×Int×Nat->Shared->Prop}(hs:s.heap.IsSliceOf sl vl vu .none)(pl:IsPart vl lo)(pu:IsPart vu hi)
  (h:Q (((sIx n 0 lo:Nat):Int),1,sIx n n hi-sIx n 0 lo) s):wpAny #[6] A (Builtin.Slice.sliceApplied (.ref sl) (pure (n:Int))) Q E s:=by
 obtain⟨os,hos,hcs,NJ⟩:=id hs
 unfold Builtin.Slice.sliceApplied Builtin.Slice.sliceFields
 refine af (af (df hos NJ (x:=vl) rfl (af (df hos NJ (x:=vu) rfl (af (df hos NJ (x:=.none) rfl (ay ?_)))))))
 refine af (slicePart_none ?_)
 show wpAny _ _ (if ((1:Int)==0)=true then _ else _) _ _ s
 rw[aU #[3]]
 refine af (wf pl (af (wf pu (af (ay ?_)))))
 show wpAny _ _ (match Builtin.Slice.sliceAdjust lo hi 1 (n:Int)with|(lo,hi)=>pure (lo,(1:Int),Builtin.Slice.slicePlaces lo hi 1)) _ _ s
 rw[Dj lo hi n]
 show wpAny _ _ (pure (((sIx n 0 lo:Nat):Int),(1:Int),Builtin.Slice.slicePlaces ((sIx n 0 lo:Nat):Int) ((sIx n n hi:Nat):Int) 1)) _ _ s
 rw[Dk]
 exact ay h
theorem Ha(xs:Array Value)(i k:Nat):((List.range k).filterMap fun(m:Nat)=>xs[((i:Int)+(m:Int)*1).toNat]?).toArray=((xs.toList.drop i).take k).toArray:=by
 have e:(fun(m:Nat)=>xs[((i:Int)+(m:Int)*1).toNat]?)=fun m=>xs[i+m]?:=by
  funext m
  have:((i:Int)+(m:Int)*1).toNat=i+m:=by omega
  rw[this]
 rw[e]
 have:=pick_run xs i k
 rw[List.filterMap_map]at this
 have e2:((fun x=>xs[x]?)∘fun x=>i+x)=fun m=>xs[i+m]?:=rfl
 rw[e2]at this
 rw[this]
theorem getItem_tuple_cut{t sl:Addr}{items:Array Value}{vl vu:Value}{lo hi:Option Int}(ht:IsTup s.heap t items)(hs:s.heap.IsSliceOf sl vl vu .none)(pl:IsPart vl lo)(pu:IsPart vu hi)
  (hw:¬ (sIx items.size 0 lo=0/\sIx items.size items.size hi=items.size))
  (h:Q (.ref s.heap.objs.size) { s with heap:=s.heap.push { cls:=.type "tuple",data:=.seq ((items.toList.drop (sIx items.size 0 lo)).take (sIx items.size items.size hi-sIx items.size 0 lo)).toArray } })
  (AL:items.size<=sizeLine):wpAny #[6] A (getItem (.ref t) (.ref sl)) Q E s:=by
 have htake:sizeOk (.seq ((items.toList.drop (sIx items.size 0 lo)).take (sIx items.size items.size hi-sIx items.size 0 lo)).toArray):=by
  show((items.toList.drop (sIx items.size 0 lo)).take (sIx items.size items.size hi-sIx items.size 0 lo)).toArray.size<=sizeLine
  rw[aT,aF,cm,eG]
  omega
 have hj:sIx items.size items.size hi<=items.size:=sIx_le _ _ (aA _) hi
 obtain⟨os,hos,hcs,NJ⟩:=id hs
 have hTs:s.TypeIs (.ref sl) "slice":=⟨os,hos,hcs⟩
 unfold getItem
 try with_reducible refine dw ?_
 first|refine af (ay ?_)|skip
 refine af (wpAny_sequenceKey ht.typeIs #[3] ?_)
 refine af (bU (name:=Str.ofString "__getitem__") ht.typeIs eO
  (cn eO ht.typeIs entry_tuple_getitem ?_ (args_tuple_getitem _ _)))
 show wpAny _ _ (Builtin.Tuple.tupleItemsOf (.ref t) >>= _) _ _ s
 refine af (tupleItemsOf_ ht ?_)
 refine af (ja hTs ?_)
 rw[aK #[3]]
 refine af (sliceApplied_gen hs pl pu ?_)
 have hno:¬ ((((sIx items.size 0 lo:Nat):Int)==0&&(1:Int)==1&&(sIx items.size items.size hi-sIx items.size 0 lo)==items.size)=true):=by
  intro q
  rw[dD,dD]at q
  have q1:((sIx items.size 0 lo:Nat):Int)=0:=om q.1.1
  have q2:sIx items.size items.size hi-sIx items.size 0 lo=items.size:=om q.2
  exact hw ⟨by omega,by omega⟩
 show wpAny _ _ (if (((sIx items.size 0 lo:Nat):Int)==0&&(1:Int)==1&&(sIx items.size items.size hi-sIx items.size 0 lo)==items.size)=true then _ else _) _ _ s
 rw[aU hno,Ha]
 first
  |exact af (m:=Builtin.Tuple.tupleExact _) (cD (ay ⟨_,rfl,ay h⟩) htake)
  |exact af (m:=Builtin.Tuple.tupleExact _) (cD (af (ay (ay ⟨_,rfl,ay h⟩))) htake)
  |exact af (af (m:=Builtin.Tuple.tupleExact _) (cD (ay (ay ⟨_,rfl,ay h⟩)) htake))
  |exact af (af (m:=Builtin.Tuple.tupleExact _) (cD (ay ⟨_,rfl,ay h⟩) htake))
end
end HT
namespace L2
open PySem PySem.Spec PyProof.Rows
abbrev TO:=St->Hp->(Option Int->Hp->Prop)->Prop
def PO(X:Cx)(e:Option Expr)(t:TO):Prop:=
 ∀(ak:List (Addr×Obj)) (s:Shared) (σ:St) (H:Hp) (Q:Option Int->Hp->Prop),bI X ak σ H s->t σ H Q ->
  wpAny #[4] X.A (evalPart e X.env) (fun u s'=>∃o H',bI X ak σ H' s'/\IsPart u o/\Q o H') X.xe s
def K8:TO:=fun _ H Q=>Q none H
def RE(t:TE):TO:=fun σ H Q=>t σ H fun x H1=>∃i,x=.int i/\Q (some i) H1
section
variable{lo hi:Option Expr}{tl th:TO}
theorem K9:PO X none K8:=by
 intro ak s σ H Q I h
 rw[evalPart_none]
 exact ay ⟨none,H,I,.none,h⟩
theorem K_(h:PE X e te):PO X (some e) (RE te):=by
 intro ak s σ H Q I hw
 rw[evalPart_some]
 refine ky (h ak s σ H _ I hw) fun u s1 kt1 zq=>?_
 obtain⟨x,H1,I1,r1,q1⟩:=zq
 obtain⟨i,rfl,q⟩:=q1
 obtain⟨t,rfl⟩:=r1
 exact⟨some i,H1,I1,.int i t,q⟩
def RF(X:Cx)(r:V->Option Int->Option Int->Hp->VK->Prop):Prop:=
 ∀(ak:List (Addr×Obj)) (s:Shared) (σ:St) (H:Hp) (x:V) (v vl vu:Value) (lo hi:Option Int) (sl:Addr) (Q:VK),bI X ak σ H s->dA s.toks x v->s.heap.IsSliceOf sl vl vu .none->IsPart vl lo->IsPart vu hi->r x lo hi H Q ->
  ∃T id,typeLookup (.type T) "__getitem__"=pure (some (.builtin id))/\s.TypeIs v T/\wpAny #[4] X.A (getItem v (.ref sl)) (EP X ak σ Q) X.xe s
def Wm(r:V->Option Int->Option Int->Hp->VK->Prop)(te:TE)(tl th:TO):TE:=fun σ H Q=>te σ H fun x H1=>tl σ H1 fun l H2=>th σ H2 fun u H3=>r x l u H3 Q
theorem Hb{r:V->Option Int->Option Int->Hp->VK->Prop}(hr:RF X r)(he:PE X e te)(hl:PO X lo tl)(hu:PO X hi th):PE X (.Subscript e (.Slice lo hi none p2) pos) (Wm r te tl th):=by
 intro ak s σ H Q I h
 refine Subscript_ (ky (he ak s σ H _ I h) fun v s1 kt1 zq=>?_)
 obtain⟨x,H1,I1,r1,q1⟩:=zq
 refine wpAny_Slice (ky (hl ak s1 σ H1 _ I1 q1) fun vl s2 kt2 ⟨l,H2,I2,pl,q2⟩=>ky (hu ak s2 σ H2 _ I2 q2) fun vu s3 kt3 zq=>?_)
 obtain⟨u,H3,I3,pu,q3⟩:=zq
 rw[evalPart_none]
 refine ay ?_
 have I4:bI X ak σ H3 { s3 with heap:=s3.heap.push { cls:=.type "slice",data:=.fields #[vl,vu,.none] } }:=I3.kept (t':=s3.toks) fun b ob q=>aw _ q
 obtain⟨T,id,hT,ht,hg⟩:=hr ak { s3 with heap:=s3.heap.push { cls:=.type "slice",data:=.fields #[vl,vu,.none] } } σ H3 x v vl vu l u s3.heap.objs.size Q I4 (r1.up (aN kt2 kt3)) (Heap.IsSliceOf.new ..) pl pu q3
 show wpAny #[4] X.A (subscriptTail e (.Slice lo hi none p2) v (.ref s3.heap.objs.size)) (EP X ak σ Q) X.xe { s3 with heap:=s3.heap.push { cls:=.type "slice",data:=.fields #[vl,vu,.none] } }
 exact tail_any (ops:=[.ref s3.heap.objs.size,v]) ht hT hg (by with_unfolding_all rfl)
noncomputable def wg(xs:List V)(lo hi:Option Int):List V:=(xs.drop (HT.sIx xs.length 0 lo)).take (HT.sIx xs.length xs.length hi-HT.sIx xs.length 0 lo)
theorem vg(xs:List V)(lo hi:Option Int):(wg xs lo hi).length<=xs.length:=by
 unfold wg
 rw[aF,cm]
 omega
def U8(K:Frag):V->Option Int->Option Int->Hp->VK->Prop:=fun x lo hi H Q=>∃a xs,x=.ref a/\gz K H a xs /\
 ¬ (HT.sIx xs.length 0 lo=0/\HT.sIx xs.length xs.length hi=xs.length)/\∀p,H p=none->Q (.ref p) (fW H p (.tup (wg xs lo hi)))
theorem Ox:RF X (U8 X.K):=by
 intro ak s σ H x v vl vu lo hi sl Q I rx hs pl pu h
 obtain⟨a,xs,rfl,hx,hw,q⟩:=h
 cases rx
 obtain⟨bO,r,ht,hz⟩:=I.tuple hx
 have gC:bO.toArray.size=xs.length:=by rw[aT];exact r.length.symm
 refine⟨"tuple",_,eO.lookup,ht.typeIs,?_⟩
 refine HT.getItem_tuple_cut ht hs pl pu (by rw[gC];exact hw) ?_ (by rw[gC];exact hz)
 rw[gC]
 refine⟨.ref s.heap.objs.size,_,I.laid (t':=s.toks) (o:=.tup (wg xs lo hi)) (fun b ob q=>aw _ q) (aA _) ?_,rfl,q _ (I.hok.fresh (aA _))⟩
 exact⟨aN (vg xs lo hi) hz,_,(r.drop (HT.sIx xs.length 0 lo)).take (HT.sIx xs.length xs.length hi-HT.sIx xs.length 0 lo),IsTup.new _ _⟩
def RG(K:Frag):R2:=fun x y H Q=>∃a b xs ys,x=.ref a/\y=.ref b/\gz K H a xs/\gz K H b ys/\xs≠[]/\xs.length+ys.length<=sizeLine /\
 (ys=[]->Q (.ref a) H)/\(ys≠[]->∀p,H p=none->Q (.ref p) (fW H p (.tup (xs++ys))))
theorem cL.nil_iff(r:cL nk xs us):us=[]↔xs=[]:=by
 cases r with
 |nil=>simp
 |cons _ _=>simp
theorem K':pT X (binaryOp .Add) (RG X.K):=by
 intro ak s σ H x y v u Q I rx ry h
 obtain⟨a,b,xs,ys,rfl,rfl,ha,hb,hx,hz,q1,q2⟩:=h
 cases rx
 cases ry
 obtain⟨bO,r1,p1,_⟩:=I.tuple ha
 obtain⟨its2,r2,p2,_⟩:=I.tuple hb
 refine HT.cat_tup p1 p2 (fun z=>hx (r1.nil_iff.mp z)) (fun z=>⟨.ref a,H,I,rfl,q1 (r2.nil_iff.mp z)⟩) (fun z=>?_) (by rw[<- r1.length,<- r2.length];exact hz)
 refine⟨.ref s.heap.objs.size,_,I.laid (t':=s.toks) (o:=.tup (xs++ys)) (fun b ob q=>aw _ q) (aA _) ?_,rfl,q2 (fun w=>z (r2.nil_iff.mpr w)) _ (I.hok.fresh (aA _))⟩
 exact⟨by rw[ai];exact hz,_,r1.append r2,IsTup.new _ _⟩
theorem Ba:jc X (.type "tuple") (fun xs H Q=>∃a ys,xs=[.ref a]/\gz X.K H a ys/\Q (.ref a) H):=by
 intro ak s σ H xs us Q I r h
 obtain⟨a,ys,rfl,ha,q⟩:=h
 obtain⟨u,rfl,ru⟩:=p8 r
 cases ru
 obtain⟨bO,_,p1,_⟩:=I.tuple ha
 exact call_tuple_same (items:=bO.toArray) p1 ⟨.ref a,H,I,rfl,q⟩
end
end L2
namespace L2
open PySem PySem.Spec PyProof.Rows
noncomputable def EK(n:Nat)(i:Int):Option Nat:=if 0<=i then(if i<n then some i.toNat else none)else if -(n:Int)<=i then some (i+n).toNat else none
def uw(xs:List α)(i:Int):Option α:=(EK xs.length i).bind fun j=>xs[j]?
theorem EL{i:Int}(h:EK n i=some j):seqIndex? i n=some j/\j<n/\-(n:Int)<=i/\i<n:=by
 unfold EK at h
 by_cases h0:0<=i
 ·rw[aK h0]at h
  by_cases h1:i<n
  ·rw[aK h1]at h
   have e:i.toNat=j:=bg h
   exact⟨by rw[seqIndex_of h0 h1,e],by omega,by omega,h1⟩
  ·rw[aU h1]at h;cases h
 ·rw[aU h0]at h
  by_cases h1:-(n:Int)<=i
  ·rw[aK h1]at h
   have e:(i+n).toNat=j:=bg h
   exact⟨by rw[ue #[0] h1,e],by omega,h1,by omega⟩
  ·rw[aU h1]at h;cases h
theorem zA{xs:List α}{i:Int}{v:α}(h:uw xs i=some v):∃j,seqIndex? i xs.length=some j/\xs[j]?=some v/\j<xs.length/\-(xs.length:Int)<=i/\i<xs.length:=by
 unfold uw at h
 cases e:EK xs.length i with
 |none=>rw[e]at h;cases h
 |some j=>
  rw[e]at h
  obtain⟨h1,h2,h3,h4⟩:=EL e
  exact⟨j,h1,h,h2,h3,h4⟩
def EM(b:Expr):Prop:=∀o i,subscripted b false o i=operate [o,i] (getItem o i)
def Kz(X:Cx)(r:R2):Prop:=
 ∀(value slice:Expr) (ak:List (Addr×Obj)) (s:Shared) (σ:St) (H:Hp) (x y:V) (v u:Value) (Q:VK),bI X ak σ H s->dA s.toks x v->dA s.toks y u->r x y H Q ->
  subscripted slice false v u=operate [v,u] (getItem v u)->wpAny #[4] X.A (subscriptTail value slice v u) (EP X ak σ Q) X.xe s
def FU(X:Cx)(id:String)(r:V->List V->Hp->VK->Prop):Prop:=
 ∀(ak:List (Addr×Obj)) (s:Shared) (σ:St) (H:Hp) (x:V) (xs:List V) (v:Value) (us:List Value) (Q:VK),bI X ak σ H s->dA s.toks x v->cL s.toks xs us->r x xs H Q ->
  wpAny #[4] X.A (call (.builtin id) (v::us)) (EP X ak σ Q) X.xe s
section
variable{a b:Expr}{ta tb:TE}
theorem Kz.or{r r':R2}(h:Kz X r)(h':Kz X r'):Kz X (fun x y H Q=>r x y H Q\/r' x y H Q):=by
 intro value slice ak s σ H x y v u Q I rx ry q hs
 rcases q with q|q
 ·exact h value slice ak s σ H x y v u Q I rx ry q hs
 ·exact h' value slice ak s σ H x y v u Q I rx ry q hs
theorem RH{r:R2}(hr:Kz X r)(ha:PE X a ta)(hb:PE X b tb)(hs:EM b):PE X (.Subscript a b pos) (Rt r ta tb):=by
 intro ak s σ H Q I h
 exact Subscript_ (Oe ha hb I h fun v u s2 x y H2 I2 rx ry q=>hr a b ak s2 σ H2 x y v u Q I2 rx ry q (hs _ _))
def RI(K:Frag):R2:=fun x y H Q=>∃p xs i v,x=.ref p/\y=.int i/\uq K H p xs/\uw xs i=some v/\Q v H
def RJ(K:Frag):R2:=fun x y H Q=>∃p xs i v,x=.ref p/\y=.int i/\gz K H p xs/\uw xs i=some v/\Q v H
def RL:R2:=fun x y H Q=>∃z i c,x=.str z/\y=.int i/\z.length<=sizeLine/\uw z.cps.toList i=some c/\Q (.str ⟨#[c]⟩) H
theorem La:Kz X (RI X.K):=by
 intro value slice ak s σ H x y v u Q I rx ry h hs
 obtain⟨p,xs,i,z,rfl,rfl,hq,he,q⟩:=h
 cases rx
 obtain⟨t,rfl⟩:=ry
 obtain⟨bO,r,pl,hz⟩:=I.list hq
 obtain⟨j,h1,h2,h3,h4,h5⟩:=zA he
 obtain⟨w,ew,u_⟩:=r.get h2
 have hl:=r.length
 have hn:=ut
 have kT:EP X ak σ Q w s:=⟨z,H,I,u_,q⟩
 by_cases h0:0<=i
 ·have hj:i.toNat=j:=by
   rw[seqIndex_of h0 h5]at h1
   exact bg h1
  exact item_listR pl.isList h0 #[0] (by rw[hj];simpa using ew) kT hs
 ·have hj:(i+(bO.toArray.size:Int)).toNat=j:=by
   rw[ue #[0] h4]at h1
   rw[aT,<- hl]
   exact bg h1
  exact pd (x:=w) pl.isList.typeIs slot_list_getitem.lookup
   (wpAny_getItem_list_neg (Q:=fun r s'=>r=w/\EP X ak σ Q r s') pl.isList #[0] (by rw[aT]<;>omega) #[0] (by rw[hj];simpa using ew) ⟨rfl,kT⟩) hs
theorem Oy:Kz X (RJ X.K):=by
 intro value slice ak s σ H x y v u Q I rx ry h hs
 obtain⟨p,xs,i,z,rfl,rfl,hq,he,q⟩:=h
 cases rx
 obtain⟨t,rfl⟩:=ry
 obtain⟨bO,r,pl,hz⟩:=I.tuple hq
 obtain⟨j,h1,h2,h3,h4,h5⟩:=zA he
 obtain⟨w,ew,u_⟩:=r.get h2
 have hl:=r.length
 have hn:=ut
 have kT:EP X ak σ Q w s:=⟨z,H,I,u_,q⟩
 exact pd (x:=w) pl.typeIs slot_tuple_getitem.lookup
  (getItem_tuple (j:=j) (Q:=fun r s'=>r=w/\EP X ak σ Q r s') pl #[0] #[0] (by rw[aT,<- hl];exact h1) (by simpa using ew) ⟨rfl,kT⟩) hs
theorem Oz:Kz X RL:=by
 intro value slice ak s σ H x y v u Q I rx ry h hs
 obtain⟨z,i,c,rfl,rfl,hz,he,q⟩:=h
 obtain⟨t,rfl⟩:=rx
 obtain⟨t',rfl⟩:=ry
 obtain⟨j,h1,h2,h3,h4,h5⟩:=zA he
 have hl:z.cps.toList.length=z.length:=by simp[Str.length]
 rw[hl]at h1 h4 h5
 have hn:=ut
 exact tail_any (mJ s z t) slot_str_getitem.lookup (getItem_str (c:=c) (by
  have e1:decide (i < -(2^63:Int))=false:=a7 #[0]
  have e2:decide (i≥2^63)=false:=a7 #[0]
  rw[e1,e2,nI]) (by rw[h1];simpa using h2) ⟨.str ⟨#[c]⟩,H,I.tok _,I.tkS,q⟩) hs
def Wn(K:Frag):R2:=fun x y H Q=>RI K x y H Q\/RJ K x y H Q\/RL x y H Q
theorem OA:Kz X (Wn X.K):=La.or (Oy.or Oz)
theorem Dl(bO:List Value)(n j:Nat)(u:Value):Obj.mapSeq (·.setIfInBounds j u) { cls:=.type "list",data:=.seq bO.toArray n }={ cls:=.type "list",data:=.seq (bO.set j u).toArray n }:=by
 simp[Obj.mapSeq]
theorem bI.lst{p:Addr}(I:bI X ak σ H s)(h:H p=some (.lst xs)) :
  ∃(bO:List Value) (n:Nat),cL s.toks xs bO/\s.heap.get? p=some { cls:=.type "list",data:=.seq bO.toArray n }/\xs.length<=sizeLine:=by
 obtain⟨z,bO,n,r,e⟩:=I.hok p _ h
 exact⟨bO,n,r,e,z⟩
theorem bI.lstUpd{p:Addr}{ys:List V}{its':List Value}{f:Obj->Obj}(I:bI X ak σ H s)(h:H p=some (.lst xs))
  (ho:s.heap.get? p=some { cls:=.type "list",data:=.seq bO.toArray n }) (hf:f { cls:=.type "list",data:=.seq bO.toArray n }={ cls:=.type "list",data:=.seq its'.toArray n' }) (r:cL s.toks ys its') (hz:ys.length<=sizeLine) (t:Nat) (hk:s.toks<=t:=by first|exact aA _|exact bp _|assumption|omega) :
  bI X ak σ (fW H p (.lst ys)) { s with heap:=s.heap.update p f,toks:=t }:=by
 have e:(s.heap.update p f).get? p=some { cls:=.type "list",data:=.seq its'.toArray n' }:=by
  rw[dI f ho (by rw[hf]<;>rfl),hf]
 refine I.write (x:=p) (e:=p) (by rw[h];trivial) (.inl rfl) (fun b u hb q=>(cN _ _ (Ne.symm hb)).trans q) ⟨_,e⟩ ?_
 exact⟨hz,its',n',r.up hk,e⟩
def RM:V->V->V->Hp->(Hp->Prop)->Prop:=fun o i v H Q=>∃p xs k j,o=.ref p/\i=.int k/\H p=some (.lst xs)/\EK xs.length k=some j/\Q (fW H p (.lst (xs.set j v)))
theorem Hc:GY X RM:=by
 intro ak s σ H o i v ov iv u Q I ro ri rv h
 obtain⟨p,xs,k,j,rfl,rfl,hp,hj,q⟩:=h
 cases ro
 obtain⟨t,rfl⟩:=ri
 obtain⟨bO,n,r,ho,hz⟩:=I.lst hp
 obtain⟨h1,h2,h3,h4⟩:=EL hj
 have hl:=r.length
 have hn:=ut
 have I':bI X ak σ (fW H p (.lst (xs.set j v))) { s with heap:=s.heap.update p (Obj.mapSeq (·.setIfInBounds j u)) }:=
  I.lstUpd hp ho (Dl bO n j u) (r.set rv j) (by rw[pP];exact hz) s.toks
 by_cases h0:0<=k
 ·have hk:k.toNat=j:=by
   rw[seqIndex_of h0 h4]at h1
   exact bg h1
  exact PySem.W.ki_setAt ho h0 #[0] (by rw[aT,<- hl];exact h4) (by rw[hk];exact⟨_,I',q⟩)
 ·have hk:(k+(bO.toArray.size:Int)).toNat=j:=by
   rw[ue #[0] h3]at h1
   rw[aT,<- hl]
   exact bg h1
  exact PySem.W.ki_setBack ho #[0] (by rw[aT,<- hl];exact h3) #[0] (by rw[hk];exact⟨_,I',q⟩)
theorem zB(lo hi:Option Int)(n:Nat):(sliceBounds lo hi none n).1=((HT.sIx n 0 lo:Nat):Int)/\(sliceBounds lo hi none n).2.1=((HT.sIx n n hi:Nat):Int)/\(sliceBounds lo hi none n).2.2=1:=by
 refine⟨?_,?_,rfl⟩
 ·cases lo with
  |none=>simp[sliceBounds,HT.sIx]
  |some i=>
   simp only[sliceBounds,HT.sIx,Option.getD_none,show(1:Int)>0 by decide,gG]
   by_cases h:i<0
   ·simp only[h,gG]<;>omega
   ·simp only[h,gX]<;>omega
 ·cases hi with
  |none=>simp[sliceBounds,HT.sIx]
  |some i=>
   simp only[sliceBounds,HT.sIx,Option.getD_none,show(1:Int)>0 by decide,gG]
   by_cases h:i<0
   ·simp only[h,gG]<;>omega
   ·simp only[h,gX]<;>omega
theorem xW(bO:List Value)(lo hi:Option Int):slicePick bO.toArray lo hi none=((bO.drop (HT.sIx bO.length 0 lo)).take (HT.sIx bO.length bO.length hi-HT.sIx bO.length 0 lo)).toArray:=by
 obtain⟨h1,h2,h3⟩:=zB lo hi bO.toArray.size
 unfold slicePick
 rw[h1,h2,h3]
 simp only[sliceRange_one,pick_run,aT]<;>rfl
def U9(K:Frag):V->Option Int->Option Int->Hp->VK->Prop:=fun x lo hi H Q=>∃a xs,x=.ref a/\uq K H a xs/\∀p,H p=none->Q (.ref p) (fW H p (.lst (wg xs lo hi)))
theorem Lb:RF X (U9 X.K):=by
 intro ak s σ H x v vl vu lo hi sl Q I rx hs pl pu h
 obtain⟨a,xs,rfl,hx,q⟩:=h
 cases rx
 obtain⟨bO,r,ht,hz⟩:=I.list hx
 have gC:=r.length
 refine⟨"list",_,slot_list_getitem.lookup,ht.isList.typeIs,?_⟩
 refine wpAny_getItem_list_slice ht.isList hs pl pu .none #[15] ?_ (by rw[aT]<;>omega)
 rw[xW,<- gC]
 refine⟨.ref s.heap.objs.size,_,I.laid (t':=s.toks) (o:=.lst (wg xs lo hi)) (fun b ob q=>aw _ q) (aA _) ?_,rfl,q _ (I.hok.fresh (aA _))⟩
 exact⟨aN (vg xs lo hi) hz,_,0,(r.drop (HT.sIx xs.length 0 lo)).take (HT.sIx xs.length xs.length hi-HT.sIx xs.length 0 lo),aC _ rfl⟩
theorem sR:jc X (.builtin "len") (fun xs H Q=>∃p ys,xs=[.ref p]/\(uq X.K H p ys\/gz X.K H p ys)/\Q (.int ys.length) H):=by
 intro ak s σ H xs us Q I r h
 obtain⟨p,ys,rfl,hq,q⟩:=h
 obtain⟨u,rfl,rx⟩:=p8 r
 cases rx
 have hn:=ut
 rcases hq with hq|hq
 ·obtain⟨bO,r',pl,hz⟩:=I.list hq
  have gC:=r'.length
  exact Calls.call_len_list pl.isList (by simp only[aT]<;>omega) ⟨.int ys.length,H,I.tok _,⟨s.toks+1,by rw[aT,gC]⟩,q⟩
 ·obtain⟨bO,r',pl,hz⟩:=I.tuple hq
  have gC:=r'.length
  exact len_tuple pl (by simp only[aT]<;>omega) ⟨.int ys.length,H,I.tok _,⟨s.toks+1,by rw[aT,gC]⟩,q⟩
theorem zC:jc X (.builtin "len") (fun xs H Q=>∃z,xs=[.str z]/\z.length<=sizeLine/\Q (.int z.length) H):=by
 intro ak s σ H xs us Q I r h
 obtain⟨z,rfl,hz,q⟩:=h
 obtain⟨u,rfl,t,rfl⟩:=p8 r
 have hn:=ut
 exact len_str #[0] ⟨.int z.length,H,I.tok _,⟨_,rfl⟩,q⟩
theorem zD:jc X (.type "list") (fun xs H Q=>∃p ys,xs=[.ref p]/\(uq X.K H p ys\/gz X.K H p ys)/\∀l,H l=none->Q (.ref l) (fW H l (.lst ys))):=by
 intro ak s σ H xs us Q I r h
 obtain⟨p,ys,rfl,hq,q⟩:=h
 obtain⟨u,rfl,rx⟩:=p8 r
 cases rx
 have kT:∀(bO:List Value),cL _ ys bO->ys.length<=sizeLine->∀(h':Heap) (c':Nat),(∀b o',s.heap.get? b=some o'->h'.get? b=some o') ->
   h'.get? s.heap.objs.size=some { cls:=.type "list",dict:=none,data:=.seq bO.toArray c',slots:=#[] }->EP X ak σ Q (.ref s.heap.objs.size) { s with heap:=h' }:=fun bO r' hz h' c' kp e=>
  ⟨.ref s.heap.objs.size,_,I.laid (t':=s.toks) kp (aA _) (show g9 X.prog X.w _ _ h' _ (.lst ys)from⟨hz,bO,c',r',e⟩),rfl,q _ (I.hok.fresh (aA _))⟩
 rcases hq with hq|hq
 ·obtain⟨bO,r',pl,hz⟩:=I.list hq
  have gC:=r'.length
  obtain⟨o,ho,hc,n,hd⟩:=pl.isList
  exact call_list_seq p (.inl rfl) ho hc hd (fun h' c' kp e=>kT bO r' hz h' c' kp e) (by simp only[aT]<;>omega)
 ·obtain⟨bO,r',pl,hz⟩:=I.tuple hq
  have gC:=r'.length
  obtain⟨o,ho,hc,n,hd⟩:=pl
  exact call_list_seq p (.inr rfl) ho hc hd (fun h' c' kp e=>kT bO r' hz h' c' kp e) (by simp only[aT]<;>omega)
theorem xX:jc X (.type "tuple") (fun xs H Q=>∃p ys,xs=[.ref p]/\((uq X.K H p ys/\∀l,H l=none->Q (.ref l) (fW H l (.tup ys)))\/(gz X.K H p ys/\Q (.ref p) H))):=by
 intro ak s σ H xs us Q I r h
 obtain⟨p,ys,rfl,h⟩:=h
 obtain⟨u,rfl,rx⟩:=p8 r
 cases rx
 rcases h with⟨hq,q⟩|⟨hq,q⟩
 ·obtain⟨bO,r',pl,hz⟩:=I.list hq
  have gC:=r'.length
  refine call_tuple_list pl.isList (fun h' kp=>?_) (by simp only[aT]<;>omega)
  have I1:bI X ak σ H { s with heap:=h' }:=I.kept (t':=s.toks) kp
  have I2:bI X ak σ (fW H h'.objs.size (.tup ys)) { s with heap:=h'.push { cls:=.type "tuple",data:=.seq bO.toArray } }:=
   I1.laid (t':=s.toks) (fun b o e=>aw _ e) (aA _) (show g9 X.prog X.w _ _ _ _ (.tup ys)from⟨hz,bO,r',IsTup.new _ _⟩)
  exact⟨.ref h'.objs.size,_,I2,rfl,q _ (I1.hok.fresh (aA _))⟩
 ·obtain⟨bO,r',pl,hz⟩:=I.tuple hq
  exact call_tuple_same pl ⟨.ref p,H,I,rfl,q⟩
def Ur(K:Frag)(T:String)(x:V)(H:Hp):Prop:=match x with
 |.str _=>T="str"
 |.int _=>T="int"
 |.ref p=>(T="list"/\∃xs,uq K H p xs)\/(T="tuple"/\∃o,K.lookup p=some o/\o.cls=.type "tuple"/\o.dict=none) \/
   (T="dict"/\((∃hG,H p=some (.dK hG))\/∃hG,H p=some (.dT hG)))\/(T="set"/\∃S n,H p=some (.set S n))
 |_=>False
theorem Dm{x:V}(I:bI X ak σ H s)(r:dA s.toks x v)(ty:Ur X.K T x H) :
  s.TypeIs v T/\∀a,v=.ref a->∃ob,s.heap.get? a=some ob/\ob.dict=none:=by
 cases x with
 |str z=>
  obtain⟨t,rfl⟩:=r
  cases(show T="str" from ty)
  exact⟨mJ s z t,fun _ e=>nomatch e⟩
 |int i=>
  obtain⟨t,rfl⟩:=r
  cases(show T="int" from ty)
  exact⟨typeIs_int s i t,fun _ e=>nomatch e⟩
 |ref p=>
  cases r
  rcases ty with⟨rfl,xs,hq⟩|⟨rfl,o,hk,hc,hd⟩|⟨rfl,hk⟩|⟨rfl,S,n,hk⟩
  ·obtain⟨bO,_,pl,_⟩:=I.list hq
   refine⟨pl.isList.typeIs,fun a e=>?_⟩
   cases e
   obtain⟨o,n,e,c,hd,_⟩:=pl
   exact⟨o,e,hd⟩
  ·refine⟨⟨o,I.kIn p o hk,hc⟩,fun a e=>?_⟩
   cases e
   exact⟨o,I.kIn _ o hk,hd⟩
  ·have z:∃o,s.heap.get? p=some o/\o.ExactDict:=by
    rcases hk with⟨hG,hk⟩|⟨hG,hk⟩
    ·obtain⟨_,_,_,_,o,_,_,e,ex,_⟩:=I.hok p _ hk
     exact⟨o,e,ex⟩
    ·obtain⟨_,_,_,_,o,_,_,e,ex,_⟩:=I.hok p _ hk
     exact⟨o,e,ex⟩
   obtain⟨o,e,ex⟩:=z
   refine⟨⟨o,e,ex.1⟩,fun a e2=>?_⟩
   cases e2
   exact⟨o,e,ex.2.1⟩
  ·obtain⟨o,_,_,_,e,ex,_⟩:=I.hok p _ hk
   refine⟨⟨o,e,ex.1⟩,fun a e2=>?_⟩
   cases e2
   exact⟨o,e,ex.2.1⟩
 |_=>exact False.elim ty
variable{to:TE}{t:TA}{id:String}
end
end L2
namespace L2
open PySem PySem.Spec PyProof.Rows
def VX(X:Cx)(id:String)(r:V->List V->Hp->VK->Prop):Prop:=
 ∀(ak:List (Addr×Obj)) (s:Shared) (σ:St) (H:Hp) (x:V) (xs:List V) (v:Value) (us:List Value) (Q:VK),bI X ak σ H s->dA s.toks x v->cL s.toks xs us->r x xs H Q ->
  wpAny #[4] X.A (call (.builtin id) (v::us)) (EP X ak σ Q) X.xe s
theorem cL.one{x:V}(h:cL nk [x] us):∃u,us=[u]/\dA nk x u:=by cases h with|cons r t=>cases t;exact⟨_,rfl,r⟩
theorem cL.two{x y:V}(h:cL nk [x,y] us):∃u v,us=[u,v]/\dA nk x u/\dA nk y v:=by cases h with|cons r t=>obtain⟨v,rfl,q⟩:=cL.one t;exact⟨_,v,rfl,r,q⟩
theorem cL.zero:∀{us:List Value},cL nk [] us->us=[]
 |_,.nil=>rfl
theorem cL.dropLast(h:cL nk xs us):cL nk xs.dropLast us.dropLast:=by
 induction h with
 |nil=>exact .nil
 |cons r t ih=>
  cases t with
  |nil=>exact .nil
  |cons q t'=>exact .cons r ih
theorem Dn(l:List α):l.eraseIdx (l.length-1)=l.dropLast:=by
 induction l with
 |nil=>rfl
 |cons a r ih=>
  cases r with
  |nil=>rfl
  |cons b r=>
   have e:(a::b::r).length-1=((b::r).length-1)+1:=by
    have h1:(a::b::r).length=r.length+2:=rfl
    have h2:(b::r).length=r.length+1:=rfl
    omega
   rw[e,List.eraseIdx_cons_succ,ih]
   all_goals rfl
section
variable{l b:Addr}{ys zs:List V}
theorem bI.lset{its':List Value}{f:Array Value->Array Value}(I:bI X ak σ H s)(hH:H l=some (.lst xs))
  (e:s.heap.get? l=some { cls:=.type "list",data:=.seq bO.toArray n }) (hf:f bO.toArray=its'.toArray) (hv:cL t' ys its') (hz:ys.length<=sizeLine) (hk:s.toks<=t':=by first|exact aA _|exact bp _|assumption|omega) :
  bI X ak σ (fW H l (.lst ys)) { s with heap:=s.heap.update l (Obj.mapSeq f),toks:=t' }:=by
 have q:=PySem.IsL.update e f
 rw[hf]at q
 refine I.write (x:=l) (e:=l) (by rw[hH];exact trivial) (.inl rfl) (fun b' u hb hu=>(cN s.heap (Obj.mapSeq f) (Ne.symm hb)).trans hu) ⟨_,q⟩ ?_
 exact⟨hz,its',_,hv,q⟩
theorem bI.lnew{t':Nat}(I:bI X ak σ H s)(hv:cL t' ys bO)(hz:ys.length<=sizeLine)(hk:s.toks<=t':=by first|exact aA _|exact bp _|assumption|omega) :
  bI X ak σ (fW H s.heap.objs.size (.lst ys)) { s with heap:=s.heap.push { cls:=.type "list",data:=.seq bO.toArray },toks:=t' }:=
 I.laid (fun _ _ q=>aw _ q) (aA _) ⟨hz,bO,0,hv,aC _ rfl⟩
theorem bI.fresh(I:bI X ak σ H s):H s.heap.objs.size=none:=I.hok.fresh (aA _)
theorem bI.lstM(I:bI X ak σ H s)(hH:H l=some (.lst xs)):xs.length<=sizeLine/\∃(bO:List Value) (n:Nat),cL s.toks xs bO/\xs.length=bO.length/\s.heap.get? l=some { cls:=.type "list",data:=.seq bO.toArray n }:=by
 obtain⟨z,bO,n,r,e⟩:=I.hok l _ hH
 exact⟨z,bO,n,r,r.length,e⟩
end
section
def EN:V->List V->Hp->VK->Prop:=fun x vs H Q=>∃l xs y,x=.ref l/\vs=[y]/\H l=some (.lst xs)/\xs.length<sizeLine/\Q .non (fW H l (.lst (xs++[y])))
theorem FV:VX X "list.append" EN:=by
 intro ak s σ H x vs v us Q I rx rv h
 obtain⟨l,xs,y,rfl,rfl,hH,hz,q⟩:=h
 cases rx
 obtain⟨u,rfl,ru⟩:=rv.one
 obtain⟨z,bO,n,r,hl,e⟩:=I.lstM hH
 refine sO F.slot_list_append ⟨_,e,rfl⟩ F.entry_list_append (F.args_list_append_2 _ _) (PySem.list_append l bO.toArray n u (by rw[aT];omega)) ⟨e,?_⟩
 refine⟨.non,_,I.lset (its':=bO++[u]) hH e #[15] (r.append (.cons ru .nil)) ?_,rfl,q⟩
 rw[ai,bu]
 omega
def RN:V->List V->Hp->VK->Prop:=fun x vs H Q=>∃l xs y,x=.ref l/\vs=[]/\H l=some (.lst xs)/\xs[xs.length-1]?=some y/\Q y (fW H l (.lst xs.dropLast))
theorem OB:VX X "list.pop" RN:=by
 intro ak s σ H x vs v us Q I rx rv h
 obtain⟨l,xs,y,rfl,rfl,hH,hy,q⟩:=h
 cases rx
 have hus:=rv.zero
 subst hus
 obtain⟨z,bO,n,r,hl,e⟩:=I.lstM hH
 obtain⟨u,hu,ru⟩:=r.get hy
 have hy':bO.toArray[bO.toArray.size-1]?=some u:=by
  show bO.toArray[bO.length-1]?=some u
  rw[<- fT,<- hl]
  exact hu
 refine sO F.slot_list_pop ⟨_,e,rfl⟩ F.entry_list_pop (F.args_list_pop_1 _) (MeetsSeq.list_pop_last l bO.toArray n u hy' (by rw[aT];omega)) ⟨e,?_⟩
 refine⟨y,_,I.lset (its':=bO.dropLast) hH e ?_ r.dropLast ?_,ru,q⟩
 ·show bO.toArray.eraseIdxIfInBounds (bO.toArray.size-1)=bO.dropLast.toArray
  rw[aT,List.eraseIdxIfInBounds_toArray,Dn]
 ·rw[List.length_dropLast]
  omega
def U_:R2:=fun x y H Q=>∃l b xs zs,x=.ref l/\y=.ref b/\H l=some (.lst xs)/\H b=some (.lst zs)/\xs.length+zs.length<=sizeLine/\∀p,H p=none->Q (.ref p) (fW H p (.lst (xs++zs)))
theorem OC:pT X (binaryOp .Add) U_:=by
 intro ak s σ H x y v u Q I rx ry h
 obtain⟨l,b,xs,zs,rfl,rfl,hH,hB,hz,q⟩:=h
 cases rx
 cases ry
 obtain⟨z,bO,n,r,hl,e⟩:=I.lstM hH
 obtain⟨z2,its2,n2,r2,hl2,e2⟩:=I.lstM hB
 refine PySem.P.add_list e e2 ?_ (by rw[aT,aT];omega)
 have ea:bO.toArray++its2.toArray=(bO++its2).toArray:=by simp
 rw[ea]
 exact⟨.ref _,_,I.lnew (t':=s.toks) (r.append r2) (by rw[ai];omega),rfl,q _ I.fresh⟩
end
section
variable{w:World}
end
section
end
end L2
namespace Att
open PySem PySem.W PySem.Calls PyProof.Rows
theorem vB{P:Params}:∀(ns:List Int) (vs:List Value),WellAll P h vs (ns.map WData.int)->IntsAre vs ns:=by
 intro ns
 induction ns with
 |nil=>
  intro vs w
  rw[List.map_nil]at w
  cases w
  exact .nil
 |cons n ns ih=>
  intro vs w
  rw[bt]at w
  cases w with
  |cons a b=>
   cases a
   exact .cons _ _ (ih _ b)
theorem FW{l:OpenLaw}(hn:l.most=some n){P:Params}{args:List WData}{vN:List Value}
  (CS:l.row.toRowW.claim.pre args=true) (VR:WellAll P h vN args) :
  ∃a vs ns,vN=[Value.ref a]/\args=[WData.list (ns.map WData.int)]/\h.get? a=some { cls:=.type "list",data:=.seq vs.toArray }/\IntsAre vs ns/\ns.length<=n:=by
 have hsh:WShape.hasAll [] args [.list .int]=true:=(pre_splitW CS).1
 have hc:l.pre.holds [] { args:=args }=true:=(pre_splitW CS).2
 obtain⟨d,r,rfl,h1,h2⟩:=hasAllW_cons hsh
 obtain rfl:=hasAllW_nil h2
 obtain⟨xs,rfl,h3⟩:=hasW_list h1
 obtain⟨ns,rfl⟩:=items_int h3
 have gC:ns.length<=n:=by
  unfold OpenLaw.pre at hc
  have h4:(WTm.not (.lt (.lit (.int (n:Int))) (.len (.arg 0)))).holds [] { args:=[.list (ns.map .int)] }=true:=by
   have h4:=(holds_andW hc).1
   rw[hn]at h4
   exact h4
  have h5:=condW_of h4 (w_not (w_lt w_lit (w_len_list (w_arg rfl))))
  rw[aE]at h5
  refine Nat.le_of_not_lt fun q=>?_
  have q':(n:Int)<((ns.length:Nat):Int):=by omega
  first
   |(rw[bG q']at h5;exact absurd h5 (by decide))
   |(simp at h5;omega)
 cases VR with
 |cons w1 w2=>
  cases w2
  cases w1 with
  |list ho hall=>exact⟨_,_,ns,rfl,rfl,ho,vB ns _ hall,gC⟩
theorem FX(l:OpenLaw)(args:List WData):l.row.toRowW.claim.post args (.bool true) args=true:=
 postW_of (r:=l.row.toRowW) (X:=(true==true))
  (show WShape.has [] (.bool true) .bool=true by first|rfl|decide|simp[WShape.has,WShape.arms,WShape.armsAll])
  (show(WTm.eq .res (.lit (.bool true))).value [] { args:=args,res:=some (.bool true),after:=args }=some (.bool (true==true))from w_eq_bool (w_res rfl) w_lit) rfl
theorem attach_call{l:OpenLaw}{q:Program}{zt:List Str}{d:DefRec}
  (hn:l.most=some n) (Uf:d.params.defaults=[])
  (call:∀(w:World) (s₀ s₁:Shared) (mg mb:Str->Option Value) (fa:Addr) (o:Obj) (pm cd um:Value) (a:Addr) (vs:List Value) (ns:List Int),
   Ground q zt [] XP w s₀ mg mb s₁.heap->YP w s₁.heap ->
   s₁.heap.get? fa=some o->o.data=.func (docDef d.name d.params d.body d.scope pm cd um)->s₁.heap.CodeRec cd d.name->mg d.name=some (.ref fa) ->
   s₁.heap.get? a=some { cls:=.type "list",data:=.seq vs.toArray }->IntsAre vs ns->ns.length<=n->s₁.gens=#[] ->
   codeAny (model l.prog w) callerA (.call (.ref fa) ⟨[.ref a],[]⟩) (fun r s'=>r=.ok (.ret (.bool true))/\OldK s₁.heap s'.heap/\s'.os=s₁.os/\AllBare s'.gens) s₁) :
  WalkO q zt XP YP l.row.toRowW d [] (fun f vs=>PySem.call f vs):=by
 intro w s₀ s₁ mg mb G Y fa o pm cd um dV kV ho hd C4 hD hmg hg args vN as CS hlay hrd VR hlo
 obtain rfl:dV=.none:=Dflts.none hD Uf
 obtain rfl:kV=.none:=Dflts.noKw hD
 obtain⟨a,vs,ns,rfl,rfl,hobj,hints,gC⟩:=FW hn CS VR
 refine enter_call (i' (call w s₀ s₁ mg mb fa o pm cd um a vs ns G Y ho (fd_plain hd) C4 hmg hobj hints gC hg) fun r s' hq=>?_)
 obtain⟨rfl,h2,h3,h4⟩:=hq
 exact⟨.inl ⟨.bool true,.bool true,[],rfl,fun _=>rfl,.bool true,FX l _,fun _=>⟨List.Pairwise.nil,fun _ hm=>(nomatch hm)⟩⟩,h2,h3,h4⟩
section
variable{w:World}
end
end Att
namespace L2
open PySem PySem.Spec PyProof.Rows
theorem yI:∀{vs:List Value} {ns:List Int},IntsAre vs ns->cL nk (ns.map V.int) vs
 |_,_,.nil=>.nil
 |_,_,.cons n t h=>.cons ⟨t,rfl⟩ (yI h)
def Lc(H:Hp):Prop:=∀b,H b=none\/∃o xs,H b=some (.frz o (.lst xs))
theorem Hd{P:Program}{w:World}{mb:Str->Option Value}{CX:FP}{fa a:Addr}{fd:FuncData}{sp:Sp}{s₁:Shared}{vs:List Value}
  (KX:K.In s₁.heap) (VS:s₁.heap.Ns mainGlobals mg) (hb:s₁.heap.Ns builtinsNs mb) (WC:∀x:Str,x ≠ "__name__"->mb x=bootBuiltins x) (VH:s₁.heap.NoLimit) (hg:s₁.gens=#[])
  (ha:s₁.heap.get? a=some { cls:=.type "list",data:=.seq vs.toArray }) (hi:IntsAre vs ns) (hl:ns.length<=sizeLine) (hr:jX k callerA)
  (F:∀base:Heap,K.In base->base.Ns mainGlobals mg->c7 P w K mg base CX k fa fd [x] sp) (Ud:∀(s:Shared) (u:Value),BindsTo s fd ⟨[u],[]⟩ [(x,u)]) (QQ:fd.scope.names.lookup x=some .local)
  (NL:∀H:Hp,Lc H->uq K H a (ns.map V.int)->sp [.ref a] H (fun v _=>v=.bl true) fun _ _ _=>False)
  (VC:∀H e s',CX [] H s₁ (fun _ _ _=>False) e s'->False) :
  codeAny (model P w) callerA (.call (.ref fa) ⟨[.ref a],[]⟩) (fun r s'=>r=.ok (.ret (.bool true))/\OldK s₁.heap s'.heap/\s'.os=s₁.os/\AllBare s'.gens) s₁:=by
 have rv:cL 0 _ _:=yI hi
 have lenV:=hi.length
 have core:∀H:Hp,Lc H->uq K H a (ns.map V.int)->ul P w s₁.toks H s₁.heap->(∀b,H b≠none->b=a)->(H a≠none->K.lookup a=none) ->
   codeAny (model P w) callerA (.call (.ref fa) ⟨[.ref a],[]⟩) (fun r s'=>r=.ok (.ret (.bool true))/\OldK s₁.heap s'.heap/\s'.os=s₁.os/\AllBare s'.gens) s₁:=by
  intro H hO hS hok hA hK
  have base_of:∀{b:Addr} {o:Obj},s₁.heap.get? b=some o->H b=none->(zw s₁.heap H).get? b=some o:=fun e n=>GS e n
  have noA:∀{b:Addr} {o:Obj} {es:Array DictEntry} {ep:Nat},s₁.heap.get? b=some o->o.data=.dict es ep->H b=none:=fun{b o es ep} e d=>by
   cases q:H b with
   |none=>rfl
   |some u=>
    have e':b=a:=hA b (by rw[q];simp)
    subst e'
    rw[ha]at e;cases e
    have d':Data.seq vs.toArray _=Data.dict es ep:=d
    cases d'
  have nsK:∀{b:Addr} {m:Str->Option Value},s₁.heap.Ns b m->(zw s₁.heap H).Ns b m:=fun{b m} ⟨o,es,ep,e,d,r⟩=>⟨o,es,ep,base_of e (noA e d),d,r⟩
  have hKb:K.In (zw s₁.heap H):=fun b o e=>base_of (KX b o e) (by
   cases q:H b with
   |none=>rfl
   |some u=>
    have e':b=a:=hA b (by rw[q];simp)
    subst e'
    rw[hK (by rw[q];simp)]at e;cases e)
  have hM:Mod K mg (zw s₁.heap H):=⟨hKb,nsK VS,⟨mb,nsK hb,WC⟩,let ⟨mc,h1,h2⟩:=VH;⟨mc,nsK h1,h2⟩⟩
  have e0:Dg P w K mg (zw s₁.heap H) callerA [] s₁ H:=⟨rfl,hM,fun b o e=>KM e,Nat.le_of_eq (Fz _ _),trivial,fun b hb=>absurd (show b∈([]:List Addr)from hb) #[15],hok,.of_eq hg⟩
  refine i' ((F _ hKb (nsK VS)).run callerA [] s₁ H ⟨[.ref a],[]⟩ [.ref a] [.ref a] _ _ hr e0 (.inr ⟨x,rfl,QQ⟩) (Ud s₁ (.ref a)) (.cons rfl .nil) (NL H hO hS)) fun r s' h=>?_
  cases r with
  |error e=>exact(VC H e s' h).elim
  |ok fl=>
   cases fl with
   |next=>exact False.elim h
   |brk=>exact False.elim h
   |cont=>exact False.elim h
   |ret u=>
    obtain⟨v,H',os,bare,un,hok',r',q⟩:=h
    have q':v=.bl true:=q
    subst q'
    obtain rfl:u=Value.bool true:=r'
    refine⟨rfl,OldK.of_keep fun b o e=>?_,os,bare⟩
    cases q:H b with
    |none=>exact un.keep b o e q (by intro z;exact absurd (show b∈([]:List Addr)from z) (by simp)) (by simp)
    |some u=>
     rcases hO b with z|⟨ob,xs,z⟩
     ·rw[q]at z;cases z
     ·have z2:=un.frzs b ob _ z
      obtain⟨e1,_⟩:=hok b _ z
      obtain⟨e2,_⟩:=hok' b _ z2
      rw[e]at e1;cases e1
      exact e2
 cases hk:K.lookup a with
 |some o=>
  have e:=KX a o hk
  rw[ha]at e
  cases e
  refine core (fun _=>none) (fun _=>.inl rfl) (.inr ⟨_,vs.toArray,_,hk,rfl,rfl,rfl,by rw[aT,lenV];exact hl,by simpa using rv⟩) (fun b u z=>by have z':(none:Option HO)=some u:=z;cases z') (fun b z=>absurd rfl z) fun z=>absurd rfl z
 |none=>
  refine core (fun b=>if b=a then some (.frz { cls:=.type "list",data:=.seq vs.toArray } (.lst (ns.map V.int)))else none) (fun b=>?_) (.inl (.inr ⟨{ cls:=.type "list",data:=.seq vs.toArray },aK rfl⟩)) (fun b u z=>?_) (fun b z=>?_) fun _=>hk
  ·by_cases hb:b=a
   ·exact .inr ⟨_,_,aK hb⟩
   ·exact .inl (aU hb)
  ·by_cases hb:b=a
   ·have z':=(aK hb).symm.trans z
    cases z'
    subst hb
    exact⟨ha,by rw[aE];exact hl,vs,_,rv.up (bZ _),ha⟩
   ·have z':=(aU hb).symm.trans z
    cases z'
  ·by_cases hb:b=a
   ·exact hb
   ·exact absurd (aU hb) z
end L2
namespace L2
open PySem PySem.Spec PyProof.Rows
theorem walk_of{l:PySem.W.OpenLaw}{n k:Nat}{q:Program}{zt:List Str}{d:DefRec}{K:Params->Frag}{CX:World->FP}{sp:World->Sp}{x:Str}
  (hn:l.most=some n) (TW:n<=sizeLine) (Uf:d.params.defaults=[]) (hr:jX k callerA)
  (hY:∀(w:World) (h:Heap),YP w h->(K w.params).In h)
  (F:∀(w:World) (mg:Str->Option Value) (fa:Addr) (h:Heap),(K w.params).In h->h.Ns mainGlobals mg->mg d.name=some (.ref fa) ->
   ∃fd:FuncData,fd.scope.names.lookup x=some .local/\(∀(s:Shared) (u:Value),BindsTo s fd ⟨[u],[]⟩ [(x,u)]) /\
    ∀base:Heap,(K w.params).In base->base.Ns mainGlobals mg->c7 l.prog w (K w.params) mg base (CX w) k fa fd [x] (sp w))
  (NL:∀(w:World) (H:Hp) (a:Addr) (ns:List Int),ns.length<=n->Lc H->uq (K w.params) H a (ns.map V.int)->sp w [.ref a] H (fun v _=>v=.bl true) fun _ _ _=>False)
  (VC:∀(w:World) (H:Hp) (s:Shared) (e:Value) (s':Shared),CX w [] H s (fun _ _ _=>False) e s'->False) :
  PySem.W.WalkO q zt XP YP l.row.toRowW d [] (fun f vs=>PySem.call f vs):=by
 refine Att.attach_call hn Uf fun w s₀ s₁ mg mb fa o pm cd um a vs ns G Y ho hd C4 hmg hobj hints gC hg=>?_
 have KX:=hY w _ Y
 obtain⟨fd,QQ,hb,hF⟩:=F w mg fa _ KX G.T.g hmg
 exact Hd KX G.T.g G.T.b G.T.builtins G.T.nolimit hg hobj hints (aN gC TW) hr hF hb QQ (fun H hO hS=>NL w H a ns gC hO hS) fun H e s'=>VC w H s₁ e s'
end L2
namespace L2
open PySem PySem.Spec PyProof.Rows
noncomputable def iW(s:Stmt):Arguments:=match s with
 |.FunctionDef _ a _ _ _ _ _ _ _ _=>a
 |_=>{ posonlyargs:=[],args:=[],vararg:=none,kwonlyargs:=[],kw_defaults:=[],kwarg:=none,defaults:=[] }
noncomputable def hU(s:Stmt):List Stmt:=match s with
 |.FunctionDef _ _ b _ _ _ _ _ _ _=>b
 |_=>[]
noncomputable def aO(s:Stmt):Scope:=match s with
 |.FunctionDef _ _ _ _ _ _ sc _ _ _=>sc
 |_=>{ kind:=.function,names:=[],isGenerator:=false,isCoroutine:=false }
structure iX(K:Frag)(x fN:Str)(st:Stmt)(f:Addr)(fd:FuncData):Prop where
 ex:∃(oc:Value) (od:Option Addr) (kV um pm:Value) (an:Option Addr) (fD ct:Value) (NR:Array (Option Value)),
  fd=fnOf x fN (iW st) (hU st) (aO st) .none kV um pm an fD ct/\K.lookup f=some ⟨oc,od,.func fd,NR⟩/\codeIn K fD fN=true
 kp:keepIn K (.ref f)=true
section
variable{w:World}
theorem iX.binds{st:Stmt}{f:Addr}(F:iX K x fN st f fd)
  (h:∀(kV um pm:Value) (an:Option Addr) (fD ct:Value) (us:List Value),us.length=ps.length->bindArgs (fnOf x fN (iW st) (hU st) (aO st) .none kV um pm an fD ct) ⟨us,[]⟩=pure (ps.zip us)):rh K fd ps []:=by
 obtain⟨oc,od,kV,um,pm,an,fD,ct,NR,rfl,lk,C4⟩:=F.ex
 exact .all (h kV um pm an fD ct)
theorem zE{st:Stmt}{f:Addr}{oc:Value}{od an:Option Addr}{NR:Array (Option Value)}{kV um pm fD ct:Value}(l:K.lookup f=some ⟨oc,od,.func (fnOf x fN (iW st) (hU st) (aO st) .none kV um pm an fD ct),NR⟩)
  (c:codeIn K fD fN=true) (k:keepIn K (.ref f)=true):iX K x fN st f (fnOf x fN (iW st) (hU st) (aO st) .none kV um pm an fD ct):=⟨⟨oc,od,kV,um,pm,an,fD,ct,NR,rfl,l,c⟩,k⟩
end
section
theorem pv(i:Nat){pos:Pos}(hN:X.N[i]?=some x:=by rfl)(hv:Re X.env.scope x:=by first|exact Or.inl rfl|exact Or.inr (Or.inl rfl)|exact Or.inr (Or.inr rfl))(hd:(x==("__debug__":Str))=false:=by decide)
  (C4:(x==("__classdict__":Str))=false:=by decide):PE X (.Name x pos) (Rf i):=NW hN hv hd C4
end
def vC(H H':Hp):Prop:=∀b o,H b=some o->H' b=some o
theorem vC.refl(H:Hp):vC H H:=fun _ _ h=>h
end L2
namespace L2
open PySem PySem.Spec PyProof.Rows
section
variable{κ:Type}[DecidableEq κ]
end
section
variable{w:World}{a:Addr}
end
section
variable{a:Addr}{y v:V}{r:Value}{o:Option V}
end
section
variable{a:Addr}{hG:List (v_×V)}{k:v_}
end
section
variable{i value:Expr}{VE:Pos}{td ty tv:TE}
end
section
end
section
variable{a:Addr}{y d:V}{r:Value}{o:Option V}
end
section
variable{f:Expr}{td ty tx:TE}
end
section
variable{a:Addr}{hG:List (v_×V)}
end
section
variable{a:Addr}{y:V}
end
end L2
namespace L2
open PySem PySem.Spec PyProof.Rows
section
end
section
variable{κ:Type}[DecidableEq κ]
end
end L2
set_option maxHeartbeats 4000000
namespace L2
open PySem PySem.Spec PyProof.Rows
theorem ux{t:Sem α}{Q Q':α->Shared->Prop}(h:wpAny M A t Q (fun _ _=>False) s)(hQ:∀a s',s.toks<=s'.toks->Q a s'->Q' a s'):wpAny M A t Q' E s:=
 up (jG h (fun a s' q k=>hQ a s' k q) fun _ _ z=>z.elim)
abbrev d6(X:Cx)(nm:List Str)(scope:Scope)(cl:List (Str×Addr))(C:Addr)(s0:Shared)(H0:Hp)(fp:List Addr):Cx:=
 { X with N:=nm,s₀:=s0,H₀:=H0,env:=compEnvC scope cl C X.env,outer:=X.stack,stack:=X.stack,ex:=fp,fn:=fun _=>false,pn:=[],xe:=fun _ _=>False }
def He(X:Cx)(oq:List Expr)(t:TT):Prop:=
 ∀(ak:List (Addr×Obj)) (s:Shared) (σ:St) (H:Hp) (Q:Bool->Hp->Prop),bI X ak σ H s->t σ H Q ->
  wpAny #[4] X.A (forIn oq true fun c r=>if r=true then do let ok <- isTrue c X.env (eval c X.env);pure (ForInStep.yield ok)else pure (ForInStep.yield r)) (TP X ak σ Q) X.xe s
def U':TT:=fun _ H Q=>Q true H
theorem Ld:He X [] U':=fun _ _ _ H _ I h=>wpAny_tests_nil ⟨H,I,h⟩
theorem Le{t:TT}(hc:PT X c t):He X [c] t:=fun ak s σ H Q I h=>wpAny_tests_one (hc ak s σ H Q I h)
def rj(cap:List (Option Nat))(σ:St):St:=cap.map fun o=>o.bind fun j=>(σ[j]?).join
def wj(cap:List (Option Nat))(wi:TI)(g:TG)(tc:TT)(te:TE):TE:=fun σ H Q=>wi σ H fun J H1=>∃W:Nat->Nat->List V->Hp->Prop,(∃m,W 0 m [] H1)/\∀i m ys H2,W i m ys H2 ->
 (J.stop i H2/\ys.length<=sizeLine/\∀p,H2 p=none->Q (.ref p) (fW H2 p (.lst ys))) \/
 (J.go i H2/\∀x H3,J.yld i H2 x H3->g x (rj cap σ) H3 fun σ2 H4=>tc σ2 H4 fun b H5=>if b=true then te σ2 H5 fun y H6=>ys.length<sizeLine/\∃m',m'<m/\W (i+1) m' (ys++[y]) H6 else ∃m',m'<m/\W (i+1) m' ys H5)
theorem Un.cellK{fs ex:List Addr}(u:Un fs ex H H' h h'){c:Addr}{v:Option Value}(x:h.IsCell c v)(n:H c=none)(he:c∉ex):h'.IsCell c v:=by
 obtain⟨o,ho,hd⟩:=x
 obtain⟨sl,q⟩:=u.any ho n he
 exact⟨_,q,hd⟩
structure wl(X:Cx)(scope:Scope)(cl:List (Str×Addr))(x:Str):Prop where
 vis:Re X.env.scope x
 nl:X.env.scope.names.lookup x≠some .local
 cl:cl.lookup x=X.env.cells.lookup x
 kd:(relabel scope X.env).names.lookup x=some .cell\/(relabel scope X.env).names.lookup x=some .free
theorem nr:∀(names:List (Str×NameKind)) (n:Nat) (ju:List (Str×Addr)) {y:Str} {c:Addr},(y,c)∈cellsFrom n names ju->(y,NameKind.cell)∈names\/(y,c)∈ju
 |[],_,_,_,_,h=>.inr h
 |(x,k)::r,n,ju,y,c,h=>by
  have h:(y,c)∈(if k==.cell then cellsFrom (n+1) r ((x,n)::ju)else cellsFrom n r ju):=h
  split at h
  ·rename_i hk
   rcases nr r _ _ h with q|q
   ·exact .inl (aW _ q)
   ·rcases aX.mp q with e|q
    ·cases e
     exact .inl (by rw[om hk];exact cu)
    ·exact .inr q
  ·rcases nr r _ _ h with q|q
   ·exact .inl (aW _ q)
   ·exact .inr q
theorem jK:∀{l:List (Str×β)} {x:Str} {b:β},l.lookup x=some b->(x,b)∈l
 |[],_,_,h=>by simp at h
 |(y,c)::r,x,b,h=>by
  rw[kW]at h
  cases hx:x==y with
  |true=>rw[hx]at h;have:=om hx;subst this;cases h;exact cu
  |false=>rw[hx]at h;exact aW _ (jK h)
theorem kZ:∀(names:List (Str×NameKind)) (n:Nat) (ju:List (Str×Addr)),cellsFrom n names ju=cellsFrom n names []++ju
 |[],_,_=>rfl
 |(x,k)::r,n,ju=>by
  show(if k==.cell then cellsFrom (n+1) r ((x,n)::ju)else cellsFrom n r ju)=(if k==.cell then cellsFrom (n+1) r [(x,n)]else cellsFrom n r [])++ju
  split
  ·rw[kZ r (n+1) ((x,n)::ju),kZ r (n+1) [(x,n)],al];rfl
  ·exact kZ r n ju
abbrev fA(X:Cx)(nm:List Str)(scope:Scope)(cl:List (Str×Addr))(C:Addr)(s0:Shared)(H0:Hp)(fp:List Addr):Cx:=
 { d6 X nm scope cl C s0 H0 fp with fn:=fun y=>scope.names.lookup y==some .cell }
theorem Lf{M:Model}{A:Around}{E:Value->Shared->Prop}{globals:Addr}{Q:Env->Shared->Prop}
  (hQ:∀h':Heap,h'.Ns s.heap.objs.size (fun x=>([]:List (Str×Value)).reverse.lookup x)->(∀b o,s.heap.get? b=some o->h'.get? b=some o)->CellsOk h' #[7] (cellsFrom #[7] scope.names []) ->
   Q (newEnv scope s.heap.objs.size globals (cellsFrom #[7] scope.names []++cl) fN none .none (some env) builtinsNs) { s with heap:=h' }) :
  wpAny M A (newFunctionEnv scope globals cl [] fN none .none (some env)) Q E s:=by
 simp only[newFunctionEnv,Option.isSome_some,gG]
 refine af (wpAny_alloc ?_)
 refine af (wpAny_layCells _ (fun name kind cells=>by cases hkc:kind==NameKind.cell<;>simp[hkc]) _ _ _ _ ?_)
 have ok:=cellsFrom_ok scope.names (s.heap.push { cls:=.type "dict",data:=.dict #[] }) #[7] [] ⟨fun _ _ hm=>(nomatch hm),List.Pairwise.nil⟩ (by rw[bx];exact aA _)
 rw[bx]at ok
 rw[show({ s with heap:=s.heap.push { cls:=.type "dict",data:=.dict #[] } }:Shared).heap.objs.size=s.heap.objs.size+1 from bx ..,kZ _ _ cl]
 exact af (ay (ay (hQ _ ((Heap.Ns.new s.heap (.type "dict")).keeps (lS _ _)) (fun b o e=>lS _ _ b o (aw _ e)) ok)))
section
variable{wi:TI}{g:TG}{tc:TT}
theorem zG{prog:Program}{w:World}{A:Around}{E:Value->Shared->Prop}{l:Addr}{u:Value}{Q:Value->Shared->Prop}
  (e:s.heap.get? l=some { cls:=.type "list",data:=.seq bO.toArray n }) (hz:bO.length<sizeLine)
  (h:∀(h':Heap) (n' tk:Nat),h'.get? l=some { cls:=.type "list",data:=.seq (bO++[u]).toArray n' }->(∀b o,b≠l->s.heap.get? b=some o->h'.get? b=some o)->Q .none { s with heap:=h',toks:=tk }) :
  wpAny #[6] A (call (.builtin "list.append") [.ref l,u]) Q E s:=by
 refine sO F.slot_list_append ⟨_,e,rfl⟩ F.entry_list_append (F.args_list_append_2 _ _) (PySem.list_append l bO.toArray n u (by rw[aT];omega)) ⟨e,?_⟩
 have q:=PySem.IsL.update e (fun a=>a.push u)
 have q2:(s.heap.update l (Obj.mapSeq fun x=>x.push u)).get? l=some { cls:=.type "list",data:=.seq (bO++[u]).toArray (if ((bO.toArray.push u).size==bO.toArray.size)=true then n else n+1) }:=by
  rw[show(s.heap.update l (Obj.mapSeq fun x=>x.push u)).get? l=_ from q];simp
 exact h _ _ s.toks q2 fun b o hb ho=>(cN s.heap (Obj.mapSeq _) (Ne.symm hb)).trans ho
structure Bb(X:Cx)(ak:List (Addr×Obj))(H:Hp)(s:Shared)(C:Addr)(m:Str->Option Value):Prop where
 ns:s.heap.Ns C m
 fr:H C=none
 nl:C≠X.env.locals
 nf:C∉X.fs
 hi:X.s₀.heap.objs.size<=C
 nc:∀x c,X.env.cells.lookup x=some c->c≠C
 np:∀p∈X.pn++ak,p.1≠C
theorem Bb.off{m:Str->Option Value}(B:Bb X ak H s C m)(I:bI X ak σ H s)(hs:Heap.SameBut C s.heap h'):bI X ak σ H { s with heap:=h' }:=I.turned (t':=s.toks) (it:=C) (fun b o hb e=>hs.extBut b o hb e) B.fr B.nl (.inr B.hi) B.nc B.np
theorem Hf{NM:List (Addr×Obj)}{σ2:St}{H1:Hp}{s2:Shared}
  (vR:∀(i j:Nat),cap[i]?=some (some j)->∃x,nm[i]?=some x/\X.N[j]?=some x/\wl X scope cl x) (gC:cap.length=nm.length)
  (I2:bI X ak σ H1 s2) (TV:∀b∈fp,∀x c,X.env.cells.lookup x=some c->c≠b)
  (I:bI (fA X nm scope cl C s2 H1 fp) NM σ2 H s):bI (fA X nm scope cl C s2 H1 fp) NM (rj cap σ) H s:=by
 refine⟨I.ok,I.os,I.bare,I.base,?_,I.cell,I.free,I.freeC,I.pin,I.hok,by show(rj cap σ).length=nm.length;unfold rj;rw[aE];exact gC,I.pos,I.tk⟩
 obtain⟨m,hn,_⟩:=I.loc
 refine⟨m,hn,fun i x v e1 e2 e3=>?_⟩
 unfold rj at e2
 rw[aG]at e2
 cases hc:cap[i]? with
 |none=>rw[hc]at e2;cases e2
 |some oj=>
  cases oj with
  |none=>rw[hc]at e2;cases e2
  |some j=>
   rw[hc]at e2
   have e2':(σ[j]?).join=some v:=by simpa using e2
   have e2:σ[j]?=some (some v):=by
    cases hs:σ[j]? with
    |none=>rw[hs]at e2';cases e2'
    |some ov=>rw[hs]at e2';simp at e2';rw[e2']
   obtain⟨x',f1,f2,k⟩:=vR i j hc
   have hx:x'=x:=by
    have z:nm[i]?=some x:=e1
    rw[f1]at z;exact bg z
   subst hx
   obtain⟨m2,_,hl2⟩:=I2.loc
   obtain⟨u,r,l⟩:=hl2 j x' v f2 e2 k.vis
   refine⟨u,r.up I.tk,?_⟩
   rcases l with⟨kl,_⟩|⟨_,c,hcc,iF⟩
   ·exact absurd kl k.nl
   ·refine .inr ⟨k.kd,c,by rw[<- hcc];exact k.cl,?_⟩
    exact I.base.cellK iF (I2.freeC _ _ hcc) fun z=>TV c z _ _ hcc rfl
theorem Do{Qk:VK}(kC:X.calm=true)(xO:closureFor scope X.env=pure cl)(C3:∀x c,cl.lookup x=some c->X.env.cells.lookup x=some c)
  (kD:scope.kind=.function) (sM:∀x∈scope.names,x.2=.local->scope.names.lookup x.1=some .local) (Wx:∀y∈scope.names,y.2=.cell->cl.lookup y.1=none)
  (Ey:∀x,scope.names.lookup x≠some .cell->#[13]->∃c,cl.lookup x=some c)
  (vR:∀(i j:Nat),cap[i]?=some (some j)->∃x,nm[i]?=some x/\X.N[j]?=some x/\wl X scope cl x/\(x,NameKind.cell)∉scope.names) (gC:cap.length=nm.length)
  (hi:PI X tg et wi) (hg:∀k C s0 H0 fp,PG (fA X nm scope (cellsFrom k scope.names []++cl) C s0 H0 fp) tg g) (ht:∀k C s0 H0 fp,He (fA X nm scope (cellsFrom k scope.names []++cl) C s0 H0 fp) oq tc)
  (he:∀k C s0 H0 fp,PE (fA X nm scope (cellsFrom k scope.names []++cl) C s0 H0 fp) sI te) (hs:∀x,foldedSetIterable et X.env x=pure x)
  (I:bI X ak σ H s) (h:wj cap wi g tc te σ H Qk) (kT:∀(s4:Shared) (C D:Addr) (m4:Str->Option Value) (Hn:Hp),bI X ak σ Hn s4->Bb X ak Hn s4 C m4->Qk (.ref D) Hn->compPost #[4] X.A X.xe use Qv (.ref D) C (.ok .next) s4) :
  wpAny #[4] X.A (comprehension #[11] scope X.env (firstIterPos [⟨tg,et,oq,0⟩] pos) (newList []) (firstAsync [⟨tg,et,oq,0⟩]) (firstIter [⟨tg,et,oq,0⟩] X.env) use) Qv X.xe s:=by
 refine wpAny_comprehension_free (use:=use) rfl hs xO kD sM (C5 (hi ak s σ H _ I h) fun v s1 h1=>C5 h1 fun VT s2 h2=>?_)
 obtain⟨it,fp,tn,J,H1,e,I2,T,de,f2,W,⟨m0,w0⟩,turn⟩:=h2
 subst e
 have hfpn:∀b∈fp,b<s2.heap.objs.size:=fun b hb=>let ⟨o,ho,_⟩:=T.obj _ _ de b hb;aJ ho
 have hfpc:∀b∈fp,∀x c,X.env.cells.lookup x=some c->c≠b:=fun b hb=>(f2 b hb).2.2.2.2.1
 refine cD (Lf (fun h₁ hns₁ hsb₁ cok=>?_))
 dsimp only at hns₁ hsb₁ cok ⊢
 generalize hH2:s2.heap.push { cls:=.type "list",dict:=none,data:=.seq ([]:List Value).toArray }=G2 at hns₁ hsb₁ cok ⊢
 have hC:G2.objs.size=s2.heap.objs.size+1:=by rw[<- hH2,bx]
 have hDC:s2.heap.objs.size≠G2.objs.size:=by rw[hC];exact a9 (ce _)
 have old:∀b o,s2.heap.get? b=some o->h₁.get? b=some o:=fun b o e=>hsb₁ b o (hH2▸aw _ e)
 have hacc:h₁.get? s2.heap.objs.size=some { cls:=.type "list",data:=.seq ([]:List Value).toArray }:=hsb₁ _ _ (hH2▸aC _ rfl)
 have both:∀y c,(cellsFrom (G2.objs.size+1) scope.names []++cl).lookup y=some c->(cellsFrom (G2.objs.size+1) scope.names []).lookup y=some c\/cl.lookup y=some c:=fun y c e=>by
  rw[jI]at e
  cases h:(cellsFrom (G2.objs.size+1) scope.names []).lookup y with
  |none=>rw[h]at e;exact .inr e
  |some b=>rw[h]at e;exact .inl e
 have ownhi:∀y c,(cellsFrom (G2.objs.size+1) scope.names []).lookup y=some c->h₁.IsCell c none/\G2.objs.size+1<=c:=fun y c e=>cok.empty y c (PySem.mem_of_lookup e)
 have cllow:∀y c,cl.lookup y=some c->c<s2.heap.objs.size:=fun y c e=>by obtain⟨v,hv⟩:=I2.cell y c (C3 _ _ e);exact hv.lt
 have hcap0:=vR
 have vR:∀(i j:Nat),cap[i]?=some (some j)->∃x,nm[i]?=some x/\X.N[j]?=some x/\wl X scope (cellsFrom (G2.objs.size+1) scope.names []++cl) x:=fun i j e=>by
  obtain⟨x,q1,q2,k,q3⟩:=hcap0 i j e
  refine⟨x,q1,q2,k.vis,k.nl,?_,k.kd⟩
  rw[jI]
  cases h:(cellsFrom (G2.objs.size+1) scope.names []).lookup x with
  |none=>exact k.cl
  |some c=>
   rcases nr _ _ _ (PySem.mem_of_lookup h)with z|z
   ·exact absurd z q3
   ·cases z
 have okB:#[2].Ok:=by
  refine⟨I2.ok.mod,kD,I2.ok.glob,I2.ok.blt,by show s2.heap.objs.size<=G2.objs.size;omega,fun x y c h1 h2=>?_,fun x hx=>?_,fun x c h0 hc=>?_,fun hc=>I2.ok.hd kC,I2.ok.frames,.inl rfl,?_,?_,?_,?_,?_,?_,?_⟩
  ·rcases both x c h1 with q1|q1<;>rcases both y c h2 with q2|q2
   ·exact name_of_addr cok.apart (PySem.mem_of_lookup q1) (PySem.mem_of_lookup q2)
   ·exact absurd (cllow y c q2) (jJ.mpr (aN #[0] (ownhi x c q1).2))
   ·exact absurd (cllow x c q1) (jJ.mpr (aN #[0] (ownhi y c q2).2))
   ·exact I2.ok.inj x y c (C3 _ _ q1) (C3 _ _ q2)
  ·show ∃c,(cellsFrom (G2.objs.size+1) scope.names []++cl).lookup x=some c
   rw[jI]
   by_cases hq:scope.names.lookup x=some .cell
   ·obtain⟨c,e⟩:=nO (n:=G2.objs.size+1) hq
    exact⟨c,by rw[e];rfl⟩
   ·obtain⟨c,e⟩:=Ey x hq hx
    cases h:(cellsFrom (G2.objs.size+1) scope.names []).lookup x with
    |none=>exact⟨c,e⟩
    |some b=>exact⟨b,rfl⟩
  ·have hq:scope.names.lookup x=some .cell:=by simpa using h0
   obtain⟨b,e⟩:=nO (n:=G2.objs.size+1) hq
   have hc:(cellsFrom (G2.objs.size+1) scope.names []++cl).lookup x=some c:=hc
   rw[jI,e]at hc
   cases hc
   have:=(ownhi x _ e).2
   show s2.heap.objs.size<=_
   omega
  ·intro b hb
   exact⟨a9 (aL (hfpn b hb) (by show _<=G2.objs.size;omega)),fun x c hx=>(both x c hx).elim (fun q=>eu (aL (hfpn b hb) (aN #[0] (ownhi x c q).2))) fun q=>hfpc b hb x c (C3 _ _ q)⟩
  ·exact fun b o hb=>I2.bs b o hb
  ·exact aN I2.ok.bsz I2.sz
  ·intro b o hb z
   rcases(f2 b z).2.2.2.1 with q|q
   ·exact I2.ok.noex b o hb q
   ·exact absurd (aJ (I2.ok.bs b o hb).1) (jJ.mpr q)
  ·intro b hb z
   rcases aX.mp (I2.stkSub b z)with q|q
   ·exact(f2 b hb).2.1 q
   ·exact(f2 b hb).2.2.1 q
  ·exact I2.stack
  ·exact I2.stkFree
 have I4:bI #[2] [] (rj cap σ) H1 { s2 with heap:=h₁ }:=by
  refine Hf vR gC I2 hfpc (σ2:=List.replicate nm.length none) ⟨okB,rfl,I2.bare,Un.kept old,⟨_,hns₁,fun i x v _ e2=>?_⟩,fun x c hx=>?_,?_,fun x c hx=>(both x c hx).elim (fun q=>I2.hok.fresh (by have:=(ownhi x c q).2;omega)) fun q=>I2.freeC x c (C3 _ _ q),fun p hp=>absurd hp #[15],I2.hok.kept old,by simp,I2.pos,aA _⟩
  ·rw[jS]at e2;split at e2<;>cases e2
  ·rcases both x c hx with q|q
   ·exact⟨none,(ownhi x c q).1⟩
   ·obtain⟨v,hv⟩:=I2.cell x c (C3 _ _ q)
    exact⟨v,hv.keeps old⟩
  ·exact I2.hok.fresh (by show _<=G2.objs.size;omega)
 have hsz0:∀{Hx:Hp} {sx:Shared} {px:List (Addr×Obj)} {σx:St},bI #[2] px σx Hx sx->Hx s2.heap.objs.size=none->∀{oa:Obj},sx.heap.get? s2.heap.objs.size=some oa->(∀v,oa.data≠.cell v) ->
   bI #[2] [(s2.heap.objs.size,oa)] σx Hx sx:=fun{Hx sx px σx} Ix hn {oa} ho hd=>Ix.pins_of fun p hp=>by
  have e:p=(s2.heap.objs.size,oa):=by simpa using hp
  subst e
  exact⟨ho,hn,hDC,fun z=>by
   obtain⟨_,o,q,_⟩:=I2.stack.mem z
   exact absurd (aJ q) (dL _),hd⟩
 have hfpB:∀{Hx:Hp} {oa:Obj},(∀b∈fp,Hx b=none)->∀b∈fp,ur #[2] [(s2.heap.objs.size,oa)] Hx b:=fun{Hx oa} hn b hb=>
  ⟨hn b hb,(okB.exf b hb).1,okB.exfs b hb,.inl hb,(okB.exf b hb).2,fun p hp=>by
   have e:p=(s2.heap.objs.size,oa):=by simpa using hp
   subst e
   exact eu (hfpn b hb)⟩
 have hcalmB:#[2].calm=true:=kC
 have loop:∀sx:Shared,sx={ s2 with heap:=h₁ } ->
   codeAny #[4] X.A (.compLoop #[11] 0 (.ref it) (.ref s2.heap.objs.size) (compEnvC scope (cellsFrom (G2.objs.size+1) scope.names []++cl) G2.objs.size X.env))
    (compPost #[4] X.A X.xe use Qv (.ref s2.heap.objs.size) G2.objs.size) sx:=by
  rintro sx rfl
  refine codeAny_loop rfl (fun n s'=>∃i ys H',bI #[2] [] (rj cap σ) H' s'/\tn i s'.heap/\(∀b∈fp,H' b=none)/\H' s2.heap.objs.size=none /\
   (∃bO k,cL s'.toks ys bO/\s'.heap.get? s2.heap.objs.size=some { cls:=.type "list",data:=.seq bO.toArray k })/\W i n ys H') ?_ m0
   ⟨0,[],H1,I4,T.keep _ _ _ de (fun b _ o e=>old b o e),fun b hb=>(f2 b hb).1,I2.fresh,⟨[],0,.nil,hacc⟩,w0⟩
  rintro n s3 ⟨i,ys,H3,I3,nN,fr3,na3,⟨bO,ka,rv,ea⟩,w3⟩
  show wpAny _ X.A ((compTurn #[11] 0 (.ref it) (.ref s2.heap.objs.size) (compEnvC scope (cellsFrom (G2.objs.size+1) scope.names []++cl) G2.objs.size X.env)).onRaise (fun x=>do noteFrame x (compEnvC scope (cellsFrom (G2.objs.size+1) scope.names []++cl) G2.objs.size X.env);theTreesLotGoes x)) _ _ s3
  refine wpAny_noted ?_
  rw[compTurn_list]
  refine af (rS ?_)
  have I3p:=hsz0 I3 na3 ea (fun v z=>by cases z)
  rcases turn i n ys H3 w3 with⟨stop,hz,qn⟩|⟨go,step⟩
  ·refine af (ux (T.done #[2] rfl rfl rfl hcalmB i _ s3 _ H3 (fun _ _=>False) I3p (hfpB fr3) nN stop) (fun r s4 kt4 hr=>?_))
   obtain⟨hr,I4'⟩:=hr
   subst hr
   refine ay ?_
   obtain⟨m4,hn4,_⟩:=id I4'.loc
   have pa:=I4'.pin (s2.heap.objs.size,{ cls:=.type "list",data:=.seq bO.toArray ka }) #[15]
   have ne:∀b o,s2.heap.get? b=some o->b≠s2.heap.objs.size/\b≠G2.objs.size:=fun b o e=>⟨a9 (aJ e),a9 (by rw[hC];exact cX (aJ e))⟩
   have I5:bI X ak σ (fW H3 s2.heap.objs.size (.lst ys)) s4:=by
    refine I2.call' (ch:=fp) I4'.os ⟨fun b o e n hb hx=>?_,fun b o e n hb hx=>?_,fun b o e n hx=>?_,fun b o e hx=>?_,fun b xs e=>?_,fun b o u e=>?_,fun b ps e=>?_⟩ ?_ I4'.bare (fun b hb=>?_) I4'.tk
    ·exact I4'.base.keep b o e n hb hx
    ·exact I4'.base.slot b o e n hb hx
    ·rw[cY (ne b o e).1];exact I4'.base.free b o e n hx
    ·exact I4'.base.there b o e hx
    ·have q:=I4'.base.tups b xs e
     rw[cY (fJ q na3)];exact q
    ·have q:=I4'.base.frzs b o u e
     rw[cY (fJ q na3)];exact q
    ·obtain⟨mr,q⟩:=I4'.base.tbls b ps e
     exact⟨mr,by rw[cY (fJ q na3)];exact q⟩
    ·intro b o e
     by_cases hb:b=s2.heap.objs.size
     ·subst hb
      rw[ib]at e;cases e
      exact⟨hz,bO,ka,rv.up kt4,pa.1⟩
     ·rw[cY hb]at e
      exact(I4'.hok b o e).stay (fun c u hc q=>q) (fun c q=>by rw[cY (fJ q na3)];exact q) fun c xs q=>by rw[cY (fJ q na3)];exact q
    ·obtain⟨_,g1,_,g3,g4,g5⟩:=f2 b hb
     exact⟨g3,g1,g4,g5⟩
   have lC:s2.heap.objs.size<=G2.objs.size:=by rw[hC];exact bp _
   exact kT s4 G2.objs.size _ m4 _ I5 ⟨hn4,by rw[cY (Ne.symm hDC)];exact I4'.free,eu (aL I2.lt lC),I2.nofs lC,aN I2.sz lC,fun x c hx z=>(by
    obtain⟨v,o,ho,_⟩:=I2.cell x c hx
    exact absurd (aJ ho) (by rw[z];exact jJ.mpr lC)),fun p hp z=>(by
    have:=(I2.pin p hp).1
    exact absurd (aJ this) (by rw[z];exact jJ.mpr lC))⟩ (qn _ na3)
  ·refine af (ux (T.item #[2] rfl rfl rfl hcalmB i _ s3 _ H3 (fun _ _=>False) I3p (hfpB fr3) nN go) (fun r s4 kt4 hr=>?_))
   obtain⟨u,hr,h4⟩:=hr
   subst hr
   dsimp only
   refine af (ux h4 (fun _ s5 kt5 h5=>?_))
   obtain⟨x,H5,I5,r5,y5,st5,fr5⟩:=h5
   have I5':=I5.pinned (hfpB fr5) (T.obj _ _ st5)
   refine af (ux (hg _ _ _ _ _ _ s5 _ H5 x u _ I5' r5 (step x H5 y5)) (fun _ s6 kt6 h6=>?_))
   obtain⟨σ6,H6,I6,q6⟩:=h6
   refine af (ux (ht _ _ _ _ _ _ s6 σ6 H6 _ I6 q6) (fun ok s7 kt7 h7=>?_))
   obtain⟨H7,I7,q7⟩:=h7
   have back:∀{H8:Hp} {s8:Shared} {Q_:List V} {its':List Value} {k':Nat},bI #[2] [] σ6 H8 s8->(∀b∈fp,∀o,s5.heap.get? b=some o->s8.heap.get? b=some o)->(∀b∈fp,H8 b=none)->H8 s2.heap.objs.size=none ->
     cL s8.toks Q_ its'->s8.heap.get? s2.heap.objs.size=some { cls:=.type "list",data:=.seq its'.toArray k' }->(∃m',m'<n/\W (i+1) m' Q_ H8) ->
     ∃m,m<n/\∃i ys H',bI #[2] [] (rj cap σ) H' s8/\tn i s8.heap/\(∀b∈fp,H' b=none)/\H' s2.heap.objs.size=none /\
      (∃bO k,cL s8.toks ys bO/\s8.heap.get? s2.heap.objs.size=some { cls:=.type "list",data:=.seq bO.toArray k })/\W i m ys H':=
    fun{H8 s8 Q_ its' k'} I8 kf f8 n8 rv8 e8 ⟨m',hm,w8⟩=>⟨m',hm,i+1,Q_,H8,Hf vR gC I2 hfpc I8,T.keep _ _ _ st5 kf,f8,n8,⟨its',k',rv8,e8⟩,w8⟩
   cases ok with
   |false=>
    refine ay ⟨rfl,?_⟩
    have q7':∃m',m'<n/\W (i+1) m' ys H7:=by simpa using q7
    have pa:=I7.pin (s2.heap.objs.size,{ cls:=.type "list",data:=.seq bO.toArray ka }) #[15]
    refine back (I7.pins_of fun p hp=>absurd hp #[15]) (fun b hb o e=>?_) (fun b hb=>?_) pa.2.1 (rv.up #[0]) pa.1 q7'
    ·exact(I7.pin (b,o) (aP _ (aP _ (kH hb e)))).1
    ·obtain⟨o,e,d⟩:=T.obj _ _ st5 b hb
     exact(I7.pin (b,o) (aP _ (aP _ (kH hb e)))).2.1
   |true=>
    rw[aK rfl]at q7
    refine af (af (ux (he _ _ _ _ _ _ s7 σ6 H7 _ I7 q7) (fun xv s8 kt8 h8=>?_)))
    obtain⟨y,H8,I8,r8,hzy,q8⟩:=h8
    have pa:=I8.pin (s2.heap.objs.size,{ cls:=.type "list",data:=.seq bO.toArray ka }) #[15]
    refine af (up (zG pa.1 (by rw[<- rv.length];exact hzy) fun h' k' tk e9 sb hk=>?_))
    refine ay (ay ⟨rfl,?_⟩)
    have I9:bI #[2] [] σ6 H8 { s8 with heap:=h',toks:=tk }:=
     (bI.pins_of (pins':=[]) I8 fun p hp=>absurd hp #[15]).turned (it:=s2.heap.objs.size) (fun b o hb e=>sb b o hb e) pa.2.1 hDC (.inr (aA _)) (fun x c hx z=>by
      rcases both x c hx with q|q
      ·exact jJ.mpr (ownhi x c q).2 (by rw[z];omega)
      ·exact dL _ (by have:=cllow x c q;rw[z]at this;exact this)) (fun p hp=>absurd hp #[15])
    refine back I9 (fun b hb o e=>?_) (fun b hb=>?_) pa.2.1 ((rv.up #[0]).append (.cons (r8.up hk) .nil)) e9 q8
    ·exact sb b o (a9 (hfpn b hb)) (I8.pin (b,o) (aP _ (aP _ (kH hb e)))).1
    ·obtain⟨o,e,d⟩:=T.obj _ _ st5 b hb
     exact(I8.pin (b,o) (aP _ (aP _ (kH hb e)))).2.1
 exact codeAny_compStart_list (loop _ rfl) (T.self _ _ _ _ _ (T.keep _ _ _ de fun b _ o e=>old b o e) (loop _ rfl))
theorem sT:∀(names:List (Str×NameKind)) (n:Nat),(∀y∈names,y.2≠.cell)->cellsFrom n names []=[]
 |[],_,_=>rfl
 |(x,k)::r,n,h=>by
  show(if k==.cell then cellsFrom (n+1) r [(x,n)]else cellsFrom n r [])=[]
  rw[aU (by have:=h (x,k) #[15];simpa using this)]
  exact sT r n fun y hy=>h y (by simp[hy])
theorem yJ{Qk:VK}(kC:X.calm=true)(xO:closureFor scope X.env=pure cl)(C3:∀x c,cl.lookup x=some c->X.env.cells.lookup x=some c)
  (kD:scope.kind=.function) (sM:∀x∈scope.names,x.2=.local->scope.names.lookup x.1=some .local) (iF:∀y∈scope.names,y.2≠.cell)
  (Ey:∀x,#[13]->∃c,cl.lookup x=some c)
  (vR:∀(i j:Nat),cap[i]?=some (some j)->∃x,nm[i]?=some x/\X.N[j]?=some x/\wl X scope cl x) (gC:cap.length=nm.length)
  (hi:PI X tg et wi) (hg:∀C s0 H0 fp,PG #[10] tg g) (ht:∀C s0 H0 fp,He #[10] oq tc)
  (he:∀C s0 H0 fp,PE #[10] sI te) (hs:∀x,foldedSetIterable et X.env x=pure x)
  (I:bI X ak σ H s) (h:wj cap wi g tc te σ H Qk) (kT:∀(s4:Shared) (C D:Addr) (m4:Str->Option Value) (Hn:Hp),bI X ak σ Hn s4->Bb X ak Hn s4 C m4->Qk (.ref D) Hn->compPost #[4] X.A X.xe use Qv (.ref D) C (.ok .next) s4) :
  wpAny #[4] X.A (comprehension #[11] scope X.env (firstIterPos [⟨tg,et,oq,0⟩] pos) (newList []) (firstAsync [⟨tg,et,oq,0⟩]) (firstIter [⟨tg,et,oq,0⟩] X.env) use) Qv X.xe s:=by
 have nc:∀k,cellsFrom k scope.names []++cl=cl:=fun k=>by rw[sT _ _ iF];rfl
 have nx:∀C s0 H0 fp,fA X nm scope cl C s0 H0 fp=d6 X nm scope cl C s0 H0 fp:=fun C s0 H0 fp=>by
  have:(fun y=>scope.names.lookup y==some .cell)=fun _=>false:=funext fun y=>by
   rw[bq]
   exact fun e=>iF _ (jK e) rfl
  unfold fA d6
  rw[this]
 exact Do kC xO C3 kD sM (fun y hy h=>absurd h (iF y hy)) (fun x _ h=>Ey x h) (fun i j h=>let ⟨x,a,b,d⟩:=vR i j h;⟨x,a,b,d,fun z=>iF _ z rfl⟩) gC hi
  (fun k C s0 H0 fp=>by rw[nc,nx];exact hg C s0 H0 fp) (fun k C s0 H0 fp=>by rw[nc,nx];exact ht C s0 H0 fp) (fun k C s0 H0 fp=>by rw[nc,nx];exact he C s0 H0 fp) hs I h kT
theorem Lg(kC:X.calm=true)(xO:closureFor scope X.env=pure cl)(C3:∀x c,cl.lookup x=some c->X.env.cells.lookup x=some c)
  (kD:scope.kind=.function) (sM:∀x∈scope.names,x.2=.local->scope.names.lookup x.1=some .local) (iF:∀y∈scope.names,y.2≠.cell)
  (Ey:∀x,#[13]->∃c,cl.lookup x=some c)
  (vR:∀(i j:Nat),cap[i]?=some (some j)->∃x,nm[i]?=some x/\X.N[j]?=some x/\wl X scope cl x) (gC:cap.length=nm.length)
  (hi:PI X tg et wi) (hg:∀C s0 H0 fp,PG #[10] tg g) (ht:∀C s0 H0 fp,He #[10] oq tc)
  (he:∀C s0 H0 fp,PE #[10] sI te) (hs:∀x,foldedSetIterable et X.env x=pure x:=by intro _;rfl) :
  PE X #[11] (wj cap wi g tc te):=by
 intro ak s σ H Q I h
 rw[eval_ListComp]
 exact yJ kC xO C3 kD sM iF Ey vR gC hi hg ht he hs I h fun s4 C D m4 Hn I4 B q=>⟨m4,B.ns,fun h' hs'=>⟨.ref D,Hn,B.off I4 hs',rfl,q⟩⟩
end
end L2
namespace L2
open PySem PySem.Spec PyProof.Rows
noncomputable def tx(l:List Nat):Str:=⟨l.toArray⟩
theorem OD(l:List Nat):(tx l).cps.toList=l:=rfl
theorem RO(z:Str):tx z.cps.toList=z:=by cases z;rfl
theorem jC(l:List Nat):(tx l).length=l.length:=by show l.toArray.size=_;simp
theorem Dp(a b:List Nat):tx a++tx b=tx (a++b):=by
 show(⟨a.toArray++b.toArray⟩:Str)=⟨(a++b).toArray⟩
 simp
theorem Dq{a b:List Nat}:tx a=tx b↔a=b:=⟨fun h=>by have:=il (fun z:Str=>z.cps.toList) h;exact this,fun h=>by rw[h]⟩
noncomputable def Va(vN:List V):It:=⟨fun i _=>i<vN.length,fun i H x H'=>H'=H/\vN[i]?=some x,fun i _=>vN.length<=i⟩
section
def jY(l:List Nat):List V:=l.map fun c=>.str (tx [c])
def Vb(tl:TE):TI:=fun σ H R=>tl σ H fun x H1=>∃l,x=.str (tx l)/\R (Va (jY l)) H1
theorem wm{w:World}{K:Frag}{tg:Expr}{l:List Nat}{t:Tok}{ty:String}(Ew:["enumerate","zip","dict_itemiterator","dict_reverseitemiterator","odict_iterator","itertools.zip_longest","itertools.pairwise"].contains ty=false)
  (next:∀{A:Around} {s:Shared} {i c:Nat} {Q:Option Value->Shared->Prop} {E:Value->Shared->Prop},s.heap.IsStrIter it ty (tx l) t i->(tx l).cps[i]?=some c ->
   (∀h',h'.IsStrIter it ty (tx l) t (i+1)->Heap.SameBut it s.heap h'->Q (some (.str ⟨#[c]⟩ s.toks)) { s with heap:=h',toks:=s.toks+1 })->wpAny (model P w) A (pyNext (.ref it)) Q E s)
  (stop:∀{A:Around} {s:Shared} {i:Nat} {Q:Option Value->Shared->Prop} {E:Value->Shared->Prop},A.handled=none->s.heap.IsStrIter it ty (tx l) t i->(tx l).cps[i]?=none ->
   (∀h',Heap.ExtBut it s.heap h'->Q none { s with heap:=h' })->wpAny (model P w) A (pyNext (.ref it)) Q E s)
  (Ul:∀(A:Around) (i:Nat) (s:Shared) (Q:Value->Shared->Prop) (E:Value->Shared->Prop),s.heap.IsStrIter it ty (tx l) t i->Q (.ref it) s->wpAny (model P w) A (pyIter (.ref it)) Q E s) :
  C6 P w K tg (Va (jY l)) [it] it (fun i h=>h.IsStrIter it ty (tx l) t i) where
 mem:=by simp
 obj:=fun i h st b hb=>by
  have e:b=it:=by simpa using hb
  subst e
  obtain⟨o,e,_,d⟩:=st
  exact⟨o,e,fun v z=>by rw[d]at z;cases z⟩
 keep:=fun i h h' st k=>by
  obtain⟨o,e,r⟩:=st
  exact⟨o,k it #[15] o e,r⟩
 item:=by
  intro X hP hw hK hc i ak s σ H E I hf st hg
  subst hP hw hK
  obtain⟨f0,f1,f2,f3,f4,f5⟩:=hf it #[15]
  have hg:i<l.length:=by have hg:i<(jY l).length:=hg;simpa[jY]using hg
  obtain⟨c,hx⟩:∃c,l[i]?=some c:=⟨_,aj hg⟩
  refine next st (c:=c) (by simpa[tx]using hx) fun h' bh hs=>?_
  have I1:bI X ak σ H { s with heap:=h',toks:=s.toks+1 }:=I.turned (fun b o hb e=>hs.extBut b o hb e) f0 f1 f3 f4 f5
  obtain⟨o,e,cl,d⟩:=id bh
  exact⟨_,rfl,EI (s:={ s with heap:=h',toks:=s.toks+1 }) e cl d Ew ⟨.str (tx [c]),H,I1,I.tkS,⟨rfl,by unfold jY;rw[aG,hx];rfl⟩,bh,fun b hb=>(hf b hb).1⟩⟩
 done:=by
  intro X hP hw hK hc i ak s σ H E I hf st hg
  subst hP hw hK
  obtain⟨f0,f1,f2,f3,f4,f5⟩:=hf it #[15]
  have hg:l.length<=i:=by have hg:(jY l).length<=i:=hg;simpa[jY]using hg
  exact stop (I.ok.hd hc) st (by simpa[tx]using hg) fun h' hs=>⟨rfl,I.turned (t':=s.toks) (fun b o hb e=>hs b o hb e) f0 f1 f3 f4 f5⟩
 self:=fun A i s Q E st h=>Ul A i s Q E st h
theorem OE{l:Expr}{tl:TE}(hl:PE X l tl):PI X tg l (Vb tl):=by
 intro ak s σ H R I h
 refine ky (hl ak s σ H _ I h) fun v s1 kt1 zq=>?_
 obtain⟨x,H1,I1,r1,q1⟩:=zq
 obtain⟨l,e,q⟩:=q1
 subst e
 obtain⟨t,rfl⟩:=r1
 have fp:∀b∈[s1.heap.objs.size],ur X ak H1 b:=fun b hb=>by
  have e:b=s1.heap.objs.size:=by simpa using hb
  subst e
  exact I1.fpOk (aA _) (I1.hok.fresh (aA _))
 cases ha:(tx l).cps.all (· < 128)
 ·exact nh ha ⟨s1.heap.objs.size,[s1.heap.objs.size],_,_,H1,rfl,I1.kept (t':=s1.toks) fun b o e=>aw _ e,wm (l:=l) (t:=t.1) (ty:="str_iterator") #[3] (fun a b c=>kj a b c) (fun hh a b c=>wpAny_pyNext_wide_end hh a b c) (fun A i s Q E st h=>wpAny_pyIter_striter_wide st h),⟨_,aC _ rfl,rfl,rfl⟩,fp,q⟩
 ·exact mK ha ⟨s1.heap.objs.size,[s1.heap.objs.size],_,_,H1,rfl,I1.kept (t':=s1.toks) fun b o e=>aw _ e,wm (l:=l) (t:=t.1) (ty:="str_ascii_iterator") #[3] (fun a b c=>jT a b c) (fun hh a b c=>wpAny_pyNext_ascii_end hh a b c) (fun A i s Q E st h=>wpAny_pyIter_striter_ascii st h),⟨_,aC _ rfl,rfl,rfl⟩,fp,q⟩
noncomputable def Dr(l:List Nat)(lo hi:Option Int):List Nat:=(l.drop (HT.sIx l.length 0 lo)).take (HT.sIx l.length l.length hi-HT.sIx l.length 0 lo)
theorem Bc(l:List Nat)(lo hi:Option Int):(Dr l lo hi).length<=l.length:=by unfold Dr;rw[aF,cm];omega
theorem Ds(l:List Nat)(i k:Nat):((List.range k).map fun(m:Nat)=>i+m).filterMap (fun j=>l[j]?)=(l.drop i).take k:=by
 induction k generalizing i with
 |zero=>simp
 |succ k ih=>
  rw[ph,bt,cq]
  have e:((fun m=>i+m)∘Nat.succ)=fun m=>(i+1)+m:=by funext m;simp[Function.comp];omega
  rw[e]
  by_cases h:i<l.length
  ·rw[gF]
   simp only[uf,aj h]
   rw[ih (i+1),dE h,List.take_succ_cons]
  ·rw[gF]
   have h':l.length<=i:=by omega
   simp only[uf,bE h']
   rw[ih (i+1),pi h',pi #[0]]
   simp
theorem Mu(v:Int)(n d:Nat):(if (1:Int)>0 then max 0 (min (if v<0 then v+(n:Int)else v) (n:Int))else max (-1) (min (if v<0 then v+(n:Int)else v) ((n:Int)-1)))=((HT.sIx n d (some v):Nat):Int):=by
 rw[aK #[0]]
 show _=(((if v<0 then(v+(n:Int)).toNat else min v.toNat n):Nat):Int)
 by_cases hv:v<0
 ·simp only[aK hv];omega
 ·simp only[aU hv];omega
theorem OF(lo hi:Option Int)(n:Nat):Builtin.Str.strSliceIndices lo hi 1 n=(List.range (HT.sIx n n hi-HT.sIx n 0 lo)).map fun(m:Nat)=>HT.sIx n 0 lo+m:=by
 have key:∀a b:Nat,sliceRange (a:Int) (b:Int) 1=(List.range (b-a)).map fun(m:Nat)=>a+m:=fun a b=>by
  unfold sliceRange
  have e:(if (1:Int)>0 then(if (a:Int)<(b:Int)then((b:Int)-a+1-1)/1 else 0)else(if (a:Int)>b then((a:Int)-b-1-1)/(-1)else 0)).toNat=b-a:=by
   rw[aK #[0]]
   by_cases h:(a:Int)<b
   ·rw[aK h];omega
   ·rw[aU h];omega
  dsimp only
  rw[e]
  refine fy fun k _=>?_
  omega
 unfold Builtin.Str.strSliceIndices
 rw[<- key]
 dsimp only
 congr 1
 ·cases lo with
  |none=>rfl
  |some v=>exact Mu v n 0
 ·cases hi with
  |none=>rfl
  |some v=>exact Mu v n n
theorem Hg(l:List Nat)(lo hi:Option Int):Txt.slice (tx l) lo hi=tx (Dr l lo hi):=by
 unfold Txt.slice
 rw[OF,jC]
 split
 ·rename_i h
  simp only[beq_self_eq_true,Bool.true_and,dv,aE,ni]at h
  unfold Dr
  have h1:=HT.sIx_le l.length l.length (aA _) hi
  have h2:=HT.sIx_le l.length 0 (bZ _) lo
  by_cases hz:l.length=0
  ·have:l=[]:=hJ hz
   subst this;simp
  ·have e0:HT.sIx l.length 0 lo=0:=by omega
   rw[e0,List.drop_zero,bn #[0]]
 ·unfold Dr tx
  have:∀j:Nat,(l.toArray)[j]?=l[j]?:=fun j=>by simp
  simp only[this]
  rw[Ds]
def Vc:V->Option Int->Option Int->Hp->VK->Prop:=fun x lo hi H Q=>∃l,x=.str (tx l)/\l.length<=sizeLine/\Q (.str (tx (Dr l lo hi))) H
theorem EO{o:Option Int}(p:IsPart v o):∃q:Option (Int×Tok),v=partValue q/\q.map (·.1)=o:=by
 cases p with
 |none=>exact⟨none,rfl,rfl⟩
 |int i t=>exact⟨some (i,t),rfl,rfl⟩
theorem OG:RF X Vc:=by
 intro ak s σ H x v vl vu lo hi sl Q I rx hs pl pu h
 obtain⟨l,e,hz,q⟩:=h
 subst e
 obtain⟨t,rfl⟩:=rx
 obtain⟨pl',rfl,rfl⟩:=EO pl
 obtain⟨pu',rfl,rfl⟩:=EO pu
 refine⟨"str",_,F.slot_str_getitem.lookup,mJ _ _ _,?_⟩
 refine wpAny_getItem_str_slice (l:=pl') (u:=pu') (st:=none) hs rfl ?_
 have e:=Hg l (pl'.map (·.1)) (pu'.map (·.1))
 unfold Txt.slice at e
 have hl:(tx (Dr l (pl'.map (·.1)) (pu'.map (·.1)))).length<=sizeLine:=by rw[jC];exact aN (Bc l _ _) hz
 show(if ((1:Int)==1&&(Builtin.Str.strSliceIndices (pl'.map (·.1)) (pu'.map (·.1)) 1 (tx l).length).length==(tx l).length)=true then Made.val (.str (tx l) t.1)else Made.str ⟨((Builtin.Str.strSliceIndices (pl'.map (·.1)) (pu'.map (·.1)) 1 (tx l).length).filterMap ((tx l).cps[·]?)).toArray⟩).post (EP X ak σ Q) s
 split
 ·rename_i hc
  rw[aK hc]at e
  rw[<- e]at q
  exact⟨.str (tx l),H,I,⟨t,rfl⟩,q⟩
 ·rename_i hc
  rw[aU hc]at e
  rw[e]
  exact⟨hl,⟨.str _,H,I.tok _,I.tkS,q⟩⟩
theorem OH(c:Nat)(l:List Nat):(!(Builtin.Str.occurrences (tx l) (tx [c]) 0 (tx l).length 1).isEmpty)=decide (c∈l):=StrLaws.found_one (tx l) c
def Vd(T4:Bool):R2:=fun x y H Q=>∃c l,x=.str (tx [c])/\y=.str (tx l)/\Q (.bl (if T4 then !decide (c∈l)else decide (c∈l))) H
theorem FY:pT X (compareOp .In) (Vd false):=by
 intro ak s σ H x y v u Q I rx ry h
 obtain⟨c,l,rfl,rfl,q⟩:=h
 exact FJ ak s σ H _ _ v u Q I rx ry ⟨_,_,rfl,rfl,by rw[OH];exact q⟩
theorem FZ:pT X (compareOp .LtE) (fun x y H Q=>∃c d,x=.str (tx [c])/\y=.str (tx [d])/\Q (.bl (decide (c<=d))) H):=by
 intro ak s σ H x y v u Q I rx ry h
 obtain⟨c,d,rfl,rfl,q⟩:=h
 obtain⟨t,rfl⟩:=rx
 obtain⟨t',rfl⟩:=ry
 refine PySem.P.le_str ⟨.bl _,H,I,?_,q⟩
 show Value.bool _=Value.bool _
 congr 1
 show(!decide ([d]<[c]))=decide (c<=d)
 by_cases C4:c<=d
 ·rw[bG C4,a7];rfl
  intro z
  cases z with
  |rel z=>omega
  |cons z=>cases z
 ·rw[a7 C4,bG];rfl
  exact .rel #[0]
theorem wn:∀{ys:List (List Nat)} {bO:List Value},cL nk (ys.map fun l=>V.str (tx l)) bO->StrsAre bO (ys.map tx)
 |[],_,r=>by cases r;exact .nil
 |y::ys,_,r=>by
  cases r with
  |cons r rr=>
   obtain⟨t,rfl⟩:=r
   exact .cons _ _ (wn rr)
def jm(n:Nat)(bO:List Value):Prop:=∀(x:Str) (t:Tok),Value.str x t∈bO->x.length=1->0<t/\t<n
theorem oy:∀{bO:List Value} {ss:List Str},StrsAre bO ss->jm nk bO->cL nk (ss.map fun z=>V.str z) bO
 |_,_,.nil,_=>.nil
 |_,_,.cons y t r,h=>.cons ⟨⟨t,h y t cu⟩,rfl⟩ (oy r fun x u hx=>h x u (aW _ hx))
theorem sV:∀{vs:List V} {bO:List Value},cL nk vs bO->jm nk bO
 |_,_,.nil=>fun _ _ h=>nomatch h
 |v::_,_,.cons r t=>fun x u hx=>by
  rcases aX.mp hx with e|hx
  ·subst e
   cases v with
   |str y=>obtain⟨tk,e⟩:=r;cases e;exact tk.2
   |non=>cases r
   |bl b=>cases r
   |int i=>obtain⟨_,e⟩:=r;cases e
   |byt b=>obtain⟨_,e⟩:=r;cases e
   |flt b=>obtain⟨_,e⟩:=r;cases e
   |ref a=>cases r
   |ty n=>cases r
  ·exact sV t x u hx
theorem EQ:∀{ys:List (List Nat)} {bO:List Value},cL nk (ys.map fun l=>V.str (tx l)) bO->∃zs:List (Str×Tok),bO=strValues zs/\zs.map (·.1)=ys.map tx
 |[],_,r=>by cases r;exact⟨[],rfl,rfl⟩
 |y::ys,_,r=>by
  cases r with
  |cons r rr=>
   obtain⟨t,rfl⟩:=r
   obtain⟨zs,rfl,e⟩:=EQ rr
   exact⟨(tx y,t.1)::zs,rfl,by rw[bt,bt,e]⟩
noncomputable def mv(sep:List Nat):List (List Nat)->List Nat
 |[]=>[]
 |[x]=>x
 |x::y::r=>x++sep++mv sep (y::r)
theorem nP:∀ys:List (List Nat),mv [] ys=ys.flatten
 |[]=>rfl
 |[x]=>by simp[mv]
 |x::y::r=>by rw[mv,nP (y::r)];simp
theorem ER(sep:List Nat):∀ys:List (List Nat),Txt.join (tx sep) (ys.map tx)=tx (mv sep ys):=fun ys=>by
 show Builtin.Str.glued (tx sep) (ys.map tx)=_
 rw[iB]
 induction ys with
 |nil=>rfl
 |cons x r ih=>
  cases r with
  |nil=>rfl
  |cons y r=>
   show tx x++tx sep++Str.join (tx sep) ((y::r).map tx)=tx (x++sep++mv sep (y::r))
   rw[ih,Dp,Dp]
def RP(K:Frag):V->List V->Hp->VK->Prop:=fun x vs H Q=>∃(sep:List Nat) (a:Addr) (ys:List (List Nat)),x=.str (tx sep)/\vs=[.ref a]/\uq K H a (ys.map fun l=>V.str (tx l))/\(ys.map List.length).sum+ys.length*sep.length<=16777216/\Q (.str (tx (mv sep ys))) H
theorem bI.joinS{Q:VK}{sep:Str}{zs:List (Str×Tok)}(I:bI X ak σ H s)(hl:(Builtin.Str.glued sep (zs.map (·.1))).length<=sizeLine)(hk:jm s.toks (strValues zs))(q:Q (.str (Txt.join sep (zs.map (·.1)))) H):(joinMade sep zs).post (EP X ak σ Q) s:=by
 have kT:(Made.str (Builtin.Str.glued sep (zs.map (·.1)))).post (EP X ak σ Q) s:=⟨hl,⟨.str _,H,I.tok _,I.tkS,q⟩⟩
 cases zs with
 |nil=>exact kT
 |cons p r=>
  cases r with
  |nil=>
   have e:Txt.join sep [p.1]=p.1:=by
    show Builtin.Str.glued sep [p.1]=_
    rw[iB];rfl
   rw[show([p]:List (Str×Tok)).map (·.1)=[p.1]from rfl,e]at q
   exact⟨.str p.1,H,I,⟨⟨p.2,hk p.1 p.2 (by simp[strValues])⟩,rfl⟩,q⟩
  |cons _ _=>exact kT
theorem Lh:FU X "str.join" (RP X.K):=by
 intro ak s σ H x vs v us Q I rx rv h
 obtain⟨sep,a,ys,rfl,rfl,hS,hz,q⟩:=h
 obtain⟨t,rfl⟩:=rx
 obtain⟨u,rfl,ru⟩:=rv.one
 cases ru
 obtain⟨bO,r,p,_⟩:=I.list hS
 have hk:jm s.toks bO:=sV r
 obtain⟨zs,rfl,ez⟩:=EQ (by simpa using r)
 have hok:JoinOk (tx sep) (zs.map (·.1))=true:=joinOk_of (by
  rw[ez,cq,jC,aE]
  have e:((fun z:Str=>z.length)∘tx)=List.length:=by funext l;exact jC l
  rw[e];exact hz)
 have hj:=hok
 unfold JoinOk at hj
 rw[fm]at hj
 exact sO F.slot_str_join (mJ _ _ _) F.entry_str_join (F.args_str_join_2 _ _) (meets_str_join_list (tx sep) t.1 a zs hj) ⟨p.isList,I.joinS (joinFit_length hj) hk (by rw[ez,ER];exact q)⟩
end
end L2
namespace L2
open PySem PySem.Spec PyProof.Rows
inductive D where
 |non|bl (b:Bool)|int (i:Int)|str (l:List Nat)|tnil|tcons (d r:D)
 deriving DecidableEq
structure fF(K:Frag)(H H':Hp):Prop where
 t:∀p xs,gz K H p xs->gz K H' p xs
 z:∀b o u,H b=some (.frz o u)->H' b=some (.frz o u)
instance {K:Frag} {H H':Hp}:CoeFun (fF K H H') (fun _=>∀p xs,gz K H p xs->gz K H' p xs):=⟨fF.t⟩
theorem gz.same{K:Frag}(e:vC H H'):fF K H H':=⟨fun p xs h=>by
 rcases h with(h|⟨o,h⟩)|h
 ·exact .inl (.inl (e _ _ h))
 ·exact .inl (.inr ⟨o,e _ _ h⟩)
 ·exact .inr h,fun b o u h=>e _ _ h⟩
theorem cU{p:Addr}(h:H p=none)(o:HO):vC H (fW H p o):=fun b u q=>by rw[cY (fJ q h)];exact q
def Ve(l:Addr)(H H':Hp):Prop:=∀b o,b≠l->H b=some o->H' b=some o
theorem mW{l:Addr}{o:HO}:Ve l H (fW H l o):=fun b u h q=>by rw[cY h];exact q
theorem gz.but{l:Addr}(e:Ve l H H')(hl:H l=some (.lst xs)):fF K H H':=by
 have Fx:∀{p:Addr} {o:HO},H p=some o->(∀zs,o≠.lst zs)->p≠l:=fun{p o} q hn z=>by subst z;rw[hl]at q;cases q;exact hn _ rfl
 refine⟨fun p ys h=>?_,fun b o u h=>e _ _ (Fx h (fun _ z=>by cases z)) h⟩
 rcases h with(h|⟨o,h⟩)|h
 ·exact .inl (.inl (e _ _ (Fx h (fun _ z=>by cases z)) h))
 ·exact .inl (.inr ⟨o,e _ _ (Fx h (fun _ z=>by cases z)) h⟩)
 ·exact .inr h
theorem fF.refl:fF K H H:=⟨fun _ _ h=>h,fun _ _ _ h=>h⟩
theorem fF.trans{H1 H2:Hp}(a:fF K H H1)(b:fF K H1 H2):fF K H H2:=⟨fun p xs h=>b p xs (a p xs h),fun c o u h=>b.z c o u (a.z c o u h)⟩
theorem gz.new{p:Addr}:gz K (fW H p (.tup xs)) p xs:=gz.of ib
end L2
namespace L2
open PySem PySem.Spec PyProof.Rows
theorem RQ{v:V}{pos:Pos}(h:∃u,X.mg x=some u/\dA 0 v u)(hg:Gl X x:=by rfl)(hd:(x==("__debug__":Str))=false:=by decide):PE X (.Name x pos) (tC v):=by
 obtain⟨u,a,b⟩:=h
 exact zy hg a b hd
end L2
namespace L2
open PySem PySem.Spec PyProof.Rows
section
variable{to:TE}{t:TA}{id:String}
def Wo(r:V->List V->Hp->VK->Prop)(to:TE)(t:TA):TE:=fun σ H Q=>to σ H fun x H1=>(∃l ys,x=.ref l/\H1 l=some (.lst ys))/\t σ H1 fun xs H2=>r x xs H2 Q
def Wp(r:V->List V->Hp->VK->Prop)(to:TE)(t:TA):TE:=fun σ H Q=>to σ H fun x H1=>(∃l,x=.str (tx l))/\t σ H1 fun xs H2=>r x xs H2 Q
def Vf(r:V->List V->Hp->VK->Prop)(to:TE):TE:=fun σ H Q=>to σ H fun x H1=>(∃l ys,x=.ref l/\H1 l=some (.lst ys))/\r x [] H1 Q
theorem Bd{x:V}(h:∃l ys,x=.ref l/\H l=some (.lst ys)):Ur K "list" x H:=by
 obtain⟨l,ys,rfl,h⟩:=h
 exact .inl ⟨rfl,_,.of h⟩
theorem ES{x:V}(h:∃l,x=.str (tx l)):Ur K "str" x H:=by
 obtain⟨l,rfl⟩:=h
 exact rfl
theorem Hh{ty:V->Hp->Prop}(VQ:∀x H,ty x H->Ur X.K T x H)(pa:PlainAttrs T)(slot:Slot T name id)(Ew:typeOf (.builtin id)=pure (.type "method_descriptor"))(hm:FU X id r)(ho:PE X o to)(ha:PA X (e::es) t)
  (ki:attributeBase o name X.env (eval o X.env)=eval o X.env)
  (sJ:((backTo eN (starEach (e::es) X.env)).all (fun x=>!x.1)&&(backToKw eN (keywordEach [] X.env)).all (fun x=>x.1.isSome)
   && decide #[18])=true)
  (lq:(gT.endLine==eN.line)=true) (hs:starEach (e::es) X.env=(false,eval e X.env)::starEach es X.env) (pc:(backTo eN (starEach es X.env)).any (·.1)=false) :
  PE X (.Call (.Attribute o name gT) (e::es) [] eN) (fun σ H Q=>to σ H fun x H1=>ty x H1/\t σ H1 fun xs H2=>r x xs H2 Q):=by
 intro ak s σ H Q I h
 refine py ki sJ lq rfl (ky (ho ak s σ H _ I h) fun v s1 kt1 zq=>?_)
 obtain⟨x,H1,I1,r1,ty,q1⟩:=zq
 obtain⟨h1,h2⟩:=Dm I1 r1 (VQ _ _ ty)
 refine⟨T,id,pa,slot,Ew,h1,h2,?_⟩
 have hA:=ha eN ak s1 σ H1 _ I1 q1
 rw[hs]at hA ⊢
 refine km (by show(false||(backTo eN (starEach es X.env)).any (·.1))=false;rw[pc]<;>rfl) (ly ?_)
 exact ky hA fun us s2 kt2 ⟨vs,H2,I2,r2,q2⟩=>hm ak s2 σ H2 x vs v us Q I2 (r1.up kt2) r2 q2
theorem RR(slot:Slot "list" name id)(Ew:typeOf (.builtin id)=pure (.type "method_descriptor"))(hm:FU X id r)(ho:PE X o to)(ha:PA X (e::es) t)
  (ki:attributeBase o name X.env (eval o X.env)=eval o X.env:=by rfl)
  (sJ:((backTo eN (starEach (e::es) X.env)).all (fun x=>!x.1)&&(backToKw eN (keywordEach [] X.env)).all (fun x=>x.1.isSome)
   && decide #[18])=true:=by rfl)
  (lq:(gT.endLine==eN.line)=true:=by rfl) (hs:starEach (e::es) X.env=(false,eval e X.env)::starEach es X.env:=by rfl) (pc:(backTo eN (starEach es X.env)).any (·.1)=false:=by rfl) :
  PE X (.Call (.Attribute o name gT) (e::es) [] eN) (Wo r to t):=Hh (ty:=fun x H1=>∃l ys,x=.ref l/\H1 l=some (.lst ys)) (fun _ _ h=>Bd h) F.plainAttrs_list slot Ew hm ho ha ki sJ lq hs pc
theorem RT(slot:Slot "str" name id)(Ew:typeOf (.builtin id)=pure (.type "method_descriptor"))(hm:FU X id r)(ho:PE X o to)(ha:PA X (e::es) t)
  (ki:attributeBase o name X.env (eval o X.env)=eval o X.env:=by rfl)
  (sJ:((backTo eN (starEach (e::es) X.env)).all (fun x=>!x.1)&&(backToKw eN (keywordEach [] X.env)).all (fun x=>x.1.isSome)
   && decide #[18])=true:=by rfl)
  (lq:(gT.endLine==eN.line)=true:=by rfl) (hs:starEach (e::es) X.env=(false,eval e X.env)::starEach es X.env:=by rfl) (pc:(backTo eN (starEach es X.env)).any (·.1)=false:=by rfl) :
  PE X (.Call (.Attribute o name gT) (e::es) [] eN) (Wp r to t):=Hh (ty:=fun x H1=>∃l,x=.str (tx l)) (fun _ _ h=>ES h) F.plainAttrs_str slot Ew hm ho ha ki sJ lq hs pc
theorem OI(slot:Slot "list" name id)(Ew:typeOf (.builtin id)=pure (.type "method_descriptor"))(hm:FU X id r)(ho:PE X o to)
  (ki:attributeBase o name X.env (eval o X.env)=eval o X.env:=by rfl) (lq:(gT.endLine==eN.line)=true:=by rfl):PE X (.Call (.Attribute o name gT) [] [] eN) (Vf r to):=by
 intro ak s σ H Q I h
 refine wpAny_Call_method0_late ki lq (ky (ho ak s σ H _ I h) fun v s1 kt1 zq=>?_)
 obtain⟨x,H1,I1,r1,ty,q1⟩:=zq
 obtain⟨h1,h2⟩:=Dm I1 r1 (Bd ty)
 exact⟨"list",id,F.plainAttrs_list,slot,Ew,h1,h2,km rfl (PySem.evalArgs_none (hm ak s1 σ H1 x [] v [] Q I1 r1 .nil q1))⟩
end
end L2
namespace L2
open PySem PySem.Spec PyProof.Rows
end L2
namespace L2
open PySem PySem.Spec PyProof.Rows
section
variable{t:TA}
def RU(t:TA):TE:=fun σ H Q=>t σ H fun xs H1=>xs.length<=sizeLine/\∀p H2,H1 p=none->H2=fW H1 p (.tup xs)->Q (.ref p) H2
def RV(t:TA):TE:=fun σ H Q=>t σ H fun xs H1=>xs.length<=sizeLine/\∀p H2,H1 p=none->H2=fW H1 p (.lst xs)->Q (.ref p) H2
theorem ET{x1}(h:PA X es t):PE X (.Tuple es x1 pos) (RU t):=by
 intro ak s σ H Q I hq
 refine wpAny_Tuple_spliced (ky (h pos ak s σ H _ I hq) fun us s1 kt1 ⟨xs,H1,I1,r,z,q⟩=>⟨by rw[<- r.length];exact z,?_⟩)
 have hf:H1 s1.heap.objs.size=none:=I1.hok.fresh (aA _)
 refine⟨.ref s1.heap.objs.size,fW H1 s1.heap.objs.size (.tup xs),I1.laid (t':=s1.toks) (fun b u e=>aw _ e) (aA _) ?_,rfl,q _ _ hf rfl⟩
 exact⟨z,us,r,⟨_,aC _ rfl,rfl,_,rfl⟩⟩
theorem Li(h:PA X es t):PE X (.List es pos) (RV t):=by
 intro ak s σ H Q I hq
 refine wpAny_List_spliced (ky (h pos ak s σ H _ I hq) fun us s1 kt1 ⟨xs,H1,I1,r,z,q⟩=>⟨by rw[<- r.length];exact z,?_⟩)
 have hf:H1 s1.heap.objs.size=none:=I1.hok.fresh (aA _)
 refine⟨.ref s1.heap.objs.size,fW H1 s1.heap.objs.size (.lst xs),I1.laid (t':=s1.toks) (fun b u e=>aw _ e) (aA _) ?_,rfl,q _ _ hf rfl⟩
 exact⟨z,us,0,r,aC _ rfl⟩
theorem FU.imp{id:String}{r r':V->List V->Hp->VK->Prop}(h:FU X id r)(i:∀x xs H Q,r' x xs H Q->r x xs H Q):FU X id r':=fun ak s σ H x xs v us Q I rx rv q=>h ak s σ H x xs v us Q I rx rv (i _ _ _ _ q)
theorem jc.imp{f:Value}{r r':List V->Hp->VK->Prop}(h:jc X f r)(i:∀xs H Q,r' xs H Q->r xs H Q):jc X f r':=fun ak s σ H xs us Q I rv q=>h ak s σ H xs us Q I rv (i _ _ _ q)
theorem pT.imp{f:Value->Value->Sem Value}{r r':R2}(h:pT X f r)(i:∀x y H Q,r' x y H Q->r x y H Q):pT X f r':=fun ak s σ H x y v u Q I rx ry q=>h ak s σ H x y v u Q I rx ry (i _ _ _ _ q)
def Hi:V->List V->Hp->VK->Prop:=fun x vs H Q=>∃l xs y,x=.ref l/\vs=[y]/\H l=some (.lst xs)/\xs.length<sizeLine/\∀H2,H2=fW H l (.lst (xs++[y]))->Q .non H2
theorem Dt:FU X "list.append" Hi:=FU.imp (r:=EN) FV fun _ _ _ _ ⟨l,xs,y,a,b,c,d,q⟩=>⟨l,xs,y,a,b,c,d,q _ rfl⟩
def RW:V->List V->Hp->VK->Prop:=fun x vs H Q=>∃l xs y,x=.ref l/\vs=[]/\H l=some (.lst (xs++[y]))/\∀H2,H2=fW H l (.lst xs)->Q y H2
theorem Lj:FU X "list.pop" RW:=FU.imp (r:=RN) OB fun _ _ _ _ ⟨l,xs,y,a,b,c,q⟩=>⟨l,xs++[y],y,a,b,c,by simp,by rw[List.dropLast_concat];exact q _ rfl⟩
def OJ:V->V->V->Hp->(Hp->Prop)->Prop:=fun o i v H Q=>∃p xs k j,o=.ref p/\i=.int k/\H p=some (.lst xs)/\EK xs.length k=some j/\∀H2,H2=fW H p (.lst (xs.set j v))->Q H2
theorem F0:GY X OJ:=fun ak s σ H o i v ov iv u Q I r1 r2 r3 q=>by
 obtain⟨p,xs,k,j,a,b,c,d,q⟩:=q
 exact Hc ak s σ H o i v ov iv u Q I r1 r2 r3 ⟨p,xs,k,j,a,b,c,d,q _ rfl⟩
def Hj(K:Frag):List V->Hp->VK->Prop:=fun xs H Q=>∃p ys,xs=[.ref p]/\uq K H p ys/\∀l H2,H l=none->H2=fW H l (.tup ys)->Q (.ref l) H2
theorem Be:jc X (.type "tuple") (Hj X.K):=jc.imp xX fun _ _ _ ⟨p,ys,a,b,q⟩=>⟨p,ys,a,.inl ⟨b,fun l hl=>q l _ hl rfl⟩⟩
def Lk(K:Frag):List V->Hp->VK->Prop:=fun xs H Q=>∃p ys,xs=[.ref p]/\(uq K H p ys\/gz K H p ys)/\∀l H2,H l=none->H2=fW H l (.lst ys)->Q (.ref l) H2
theorem wq:jc X (.type "list") (Lk X.K):=jc.imp zD fun _ _ _ ⟨p,ys,a,b,q⟩=>⟨p,ys,a,b,fun l hl=>q l _ hl rfl⟩
def RX:R2:=fun x y H Q=>∃l b xs zs,x=.ref l/\y=.ref b/\H l=some (.lst xs)/\H b=some (.lst zs)/\xs.length+zs.length<=sizeLine/\∀p H2,H p=none->H2=fW H p (.lst (xs++zs))->Q (.ref p) H2
theorem Ll:pT X (binaryOp .Add) RX:=pT.imp OC fun _ _ _ _ ⟨l,b,xs,zs,h1,h2,h3,h4,h5,q⟩=>⟨l,b,xs,zs,h1,h2,h3,h4,h5,fun p hp=>q p _ hp rfl⟩
end
end L2
namespace L2
open PySem PySem.Spec PyProof.Rows
end L2
namespace L2
open PySem PySem.Spec PyProof.Rows
def Hk(T:String):Prop:=T="tuple"\/T="bool"\/T="int"\/T="str"
end L2
namespace L2
end L2
namespace L2
open PySem PySem.Spec PyProof.Rows
end L2
namespace L2
open PySem PySem.Spec PyProof.Rows
structure QE(X:Cx)(e:Expr)(t:TE):Prop where
 h:PE X e t
structure QA(X:Cx)(es:List Expr)(t:TA):Prop where
 h:PA X es t
structure QS(X:Cx)(s:Stmt)(t:TS):Prop where
 h:PS X s t
structure QG(X:Cx)(e:Expr)(t:TG):Prop where
 h:PG X e t
structure QI(X:Cx)(tg it:Expr)(t:TI):Prop where
 h:PI X tg it t
structure Vg(X:Cx)(es:List Expr)(t:TT):Prop where
 h:He X es t
structure VY(X:Cx)(f:Value->Value->Sem Value)(r:R2):Prop where
 h:pT X f r
structure Mv(X:Cx)(f:Value)(r:List V->Hp->VK->Prop):Prop where
 h:jc X f r
section
variable{a b:Expr}{ta tb tc to:TE}{t u:TA}{tA Ua:TT}{gM:List Expr}
theorem Hl:VY X (binaryOp .LShift) (rI Og fun i j=>.int (i*2^j.toNat)):=⟨G7⟩
variable{st:Stmt}{sr:List Stmt}{ts us:TS}{g:TG}
end
section
variable{wi:TI}{g:TG}{tb:TS}{tA:TT}
end
end L2
namespace L2
open PySem PySem.Spec PyProof.Rows
end L2
namespace L2
open PySem PySem.Spec PyProof.Rows
end L2
namespace L2
open PySem PySem.Spec PyProof.Rows
noncomputable def jZ(env:Env):List (Str×NameKind)->List (Str×Addr)->List (Str×Addr)
 |[],cs=>cs
 |(n,k)::r,cs=>jZ env r (if k==.free then(n,(env.cells.lookup n).getD 0)::cs else cs)
theorem RY(h:∀x∈scope.names,x.2=.free->∃c,env.cells.lookup x.1=some c):closureFor scope env=pure (jZ env scope.names []):=by
 unfold closureFor
 have key:∀(ns:List (Str×NameKind)) (cs:List (Str×Addr)),(∀x∈ns,x.2=.free->∃c,env.cells.lookup x.1=some c) ->
   (forIn ns cs fun(x:Str×NameKind) (r:List (Str×Addr))=>if (x.2==NameKind.free)=true then(do let a <- cellOf env x.1;pure (ForInStep.yield ((x.1,a)::r)))else(pure (ForInStep.yield r):Sem _))=pure (jZ env ns cs):=by
  intro ns
  induction ns with
  |nil=>intro cs _;rfl
  |cons y r ih=>
   intro cs hc
   obtain⟨n,k⟩:=y
   rw[lT]
   have ihr:=fun cs=>ih cs fun x hx=>hc x (aW _ hx)
   by_cases hk:(k==NameKind.free)=true
   ·obtain⟨c,e⟩:=hc (n,k) cu (om hk)
    have e2:cellOf env n=pure c:=by unfold cellOf;rw[e]
    show((if (k==NameKind.free)=true then _ else _) >>= _)=pure (jZ env r (if (k==NameKind.free)=true then _ else _))
    rw[aK hk,aK hk,e2]
    simp only[pure_bind]
    have e3:(env.cells.lookup n).getD 0=c:=by rw[show env.cells.lookup n=some c from e];rfl
    rw[e3]
    exact ihr _
   ·show((if (k==NameKind.free)=true then _ else _) >>= _)=pure (jZ env r (if (k==NameKind.free)=true then _ else _))
    rw[aU hk,aU hk]
    simp only[pure_bind]
    exact ihr _
 have:=key scope.names [] h
 dsimp only
 rw[this];simp only[pure_bind]
theorem yK:∀(ns:List (Str×NameKind)) (cs:List (Str×Addr)),(∀x∈ns,x.2=.free->∃c,env.cells.lookup x.1=some c)->(∀y∈cs,env.cells.lookup y.1=some y.2)->∀y∈jZ env ns cs,env.cells.lookup y.1=some y.2
 |[],cs,_,h=>h
 |(n,k)::r,cs,hf,h=>by
  refine yK r _ (fun x hx=>hf x (aW _ hx)) ?_
  by_cases hk:(k==NameKind.free)=true
  ·rw[aK hk]
   intro y hy
   rcases aX.mp hy with rfl|hy
   ·obtain⟨c,e⟩:=hf (n,k) cu (om hk)
    show env.cells.lookup n=some ((env.cells.lookup n).getD 0)
    rw[show env.cells.lookup n=some c from e];rfl
   ·exact h y hy
  ·rw[aU hk];exact h
theorem wt:∀(ns:List (Str×NameKind)) (cs:List (Str×Addr)) (y:Str×Addr),y∈cs->y∈jZ env ns cs
 |[],_,_,h=>h
 |(n,k)::r,cs,y,h=>by
  refine wt r _ y ?_
  split
  ·exact aW _ h
  ·exact h
theorem wu{env:Env}:∀(ns:List (Str×NameKind)) (cs:List (Str×Addr)) (x:Str),(x,NameKind.free)∈ns->∃c,(x,c)∈jZ env ns cs
 |[],_,_,h=>by simp at h
 |(n,k)::r,cs,x,h=>by
  rcases aX.mp h with e|h
  ·obtain⟨e1,e2⟩:=Prod.mk.inj e
   subst e1;subst e2
   exact⟨_,wt r _ (x,_) (by rw[aK (by rfl:(NameKind.free==NameKind.free)=true)];exact cu)⟩
  ·exact wu r _ x h
theorem ww:∀{l:List (Str×β)} {x:Str} {b:β},(x,b)∈l->∃c,l.lookup x=some c
 |(y,c)::r,x,b,h=>by
  rw[kW]
  cases hx:x==y with
  |true=>exact⟨c,rfl⟩
  |false=>
   rcases aX.mp h with e|h
   ·cases e;simp at hx
   ·exact ww h
theorem vh{env:Env}{g:Str×NameKind->Bool}:∀{names:List (Str×NameKind)} {x:Str},names.lookup x=some .free ->
  (names.map fun y=>if g y then(y.1,NameKind.cell)else y).lookup x=some .cell\/(names.map fun y=>if g y then(y.1,NameKind.cell)else y).lookup x=some .free
 |[],_,h=>by simp at h
 |(n,k)::r,x,h=>by
  rw[kW]at h
  rw[bt]
  have e1:∀y:Str×NameKind,(if g y then(y.1,NameKind.cell)else y).1=y.1:=fun y=>by split<;>rfl
  have e2:∀(y:Str×NameKind) (l:List (Str×NameKind)),(y::l).lookup x=if (x==y.1)=true then some y.2 else l.lookup x:=fun y l=>by
   obtain⟨a,b⟩:=y
   rw[kW]
   cases x==a<;>rfl
  rw[e2,e1]
  cases hx:x==n with
  |true=>
   rw[hx]at h
   cases h
   rw[aK rfl]
   by_cases hg:g (n,.free)=true
   ·rw[aK hg];exact .inl rfl
   ·rw[aU hg];exact .inr rfl
  |false=>
   rw[hx]at h
   rw[aU (by exact eV)]
   exact vh (env:=env) h
noncomputable def F1(dn:List (Str×NameKind))(sn:List (Str×NameKind))(nm:List Str)(cap:List (Option Nat))(N:List Str):Bool:=
 (sn.all fun x=>!(x.2==.local)||sn.lookup x.1==some .local)&&(sn.all fun y=>!(y.2==.cell))&&(sn.all fun x=>!(x.2==.free)||dn.lookup x.1==some .cell)&&(cap.length==nm.length) &&
 ((List.range cap.length).all fun i=>match cap[i]? with
  |some (some j)=>(match nm[i]?,N[j]? with
   |some x,some y=>x==y&&dn.lookup x==some .cell&&sn.lookup x==some .free
   |_,_=>false)
  |_=>true)
structure Vh(X:Cx)(scope:Scope)(nm:List Str)(cap:List (Option Nat)):Prop where
 clos:closureFor scope X.env=pure (jZ X.env scope.names [])
 cl:∀x c,(jZ X.env scope.names []).lookup x=some c->X.env.cells.lookup x=some c
 nms:∀x∈scope.names,x.2=.local->scope.names.lookup x.1=some .local
 cell:∀y∈scope.names,y.2≠.cell
 has:∀x,#[13]->∃c,(jZ X.env scope.names []).lookup x=some c
 cp:∀(i j:Nat),cap[i]?=some (some j)->∃x,nm[i]?=some x/\X.N[j]?=some x/\wl X scope (jZ X.env scope.names []) x
 len:cap.length=nm.length
theorem RZ{nm:List Str}{cap:List (Option Nat)}(hf:∀x,X.env.scope.names.lookup x=some .cell->∃c,X.env.cells.lookup x=some c)(hB:F1 X.env.scope.names scope.names nm cap X.N=true):Vh X scope nm cap:=by
 simp only[F1,dD,List.all_eq_true,Bool.or_eq_true,fm,dv,bq]at hB
 obtain⟨⟨⟨⟨b1,b2⟩,b3⟩,b4⟩,b5⟩:=hB
 have has:∀x∈scope.names,x.2=.free->∃c,X.env.cells.lookup x.1=some c:=fun x hx hk=>by
  rcases b3 x hx with z|z
  ·exact absurd hk z
  ·exact hf _ z
 have C3:∀x c,(jZ X.env scope.names []).lookup x=some c->X.env.cells.lookup x=some c:=fun x c h=>yK scope.names [] has #[15] (x,c) (jK h)
 have hin:∀x,(x,NameKind.free)∈scope.names->∃c,(jZ X.env scope.names []).lookup x=some c:=fun x h=>let ⟨_,q⟩:=wu (env:=X.env) scope.names [] x h;ww q
 have hmap:(relabel scope X.env).names=scope.names.map fun y=>if (y.2==.free&&X.env.scope.kind==.function&&X.env.kindOf y.1==some .cell)then(y.1,NameKind.cell)else y:=by
  show scope.names.map _=_
  refine fy fun y _=>?_
  obtain⟨a,b⟩:=y
  rfl
 have fr:∀x,#[13]->(x,NameKind.free)∈scope.names:=fun x h=>by
  have h':∃k,(x,k)∈(relabel scope X.env).names/\(k=.cell\/k=.free):=by
   rcases h with h|h
   ·exact⟨_,jK h,.inl rfl⟩
   ·exact⟨_,jK h,.inr rfl⟩
  obtain⟨k,hm,hk⟩:=h'
  rw[hmap]at hm
  obtain⟨y,hy,e⟩:=c8.mp hm
  obtain⟨a,b⟩:=y
  by_cases hb:b=.free
  ·subst hb
   have:a=x:=by split at e<;>(cases e;rfl)
   subst this;exact hy
  ·rw[aU (by simp[hb])]at e
   cases e
   rcases hk with rfl|rfl
   ·exact absurd rfl (b2 _ hy)
   ·exact absurd rfl hb
 refine⟨RY has,C3,fun x hx hk=>(b1 x hx).resolve_left fun z=>z hk,fun y hy=>b2 y hy,fun x hx=>hin x (fr x hx),fun i j e=>?_,b4⟩
 have hi':i<cap.length:=(ax.mp e).1
 have q:=b5 i (mF.mpr hi')
 rw[e]at q
 dsimp only at q
 cases hx:nm[i]? with
 |none=>rw[hx]at q;simp at q
 |some x=>
  cases hy:X.N[j]? with
  |none=>rw[hx,hy]at q;simp at q
  |some y=>
   rw[hx,hy]at q
   simp only[dD,dv]at q
   obtain⟨⟨rfl,q1⟩,q2⟩:=q
   refine⟨x,rfl,rfl,.inr (.inl q1),(by rw[q1];decide),?_,?_⟩
   ·obtain⟨c,hc⟩:=hin x (jK q2)
    rw[hc,C3 _ _ hc]
   ·rw[hmap];exact vh (env:=X.env) q2
theorem OK{pos:Pos}{wi:TI}{g:TG}{tc:TT}{m:Nat}(kC:X.calm=true)
  (sK:X.env.cells=cellsFrom m X.env.scope.names []) (kD:scope.kind=.function) (hB:F1 X.env.scope.names scope.names nm cap X.N=true)
  (hi:QI X tg et wi) (hg:∀cl C s0 H0 fp,QG #[10] tg g) (ht:∀cl C s0 H0 fp,Vg #[10] oq tc)
  (he:∀cl C s0 H0 fp,QE #[10] sI te) (hs:∀x,foldedSetIterable et X.env x=pure x:=by intro _;rfl) :
  QE X #[11] (wj cap wi g tc te):=by
 have F:=RZ (nm:=nm) (cap:=cap) (fun x z=>by rw[sK];exact nO z) hB
 exact⟨Lg kC F.clos F.cl kD F.nms F.cell F.has F.cp F.len hi.h (fun C s0 H0 fp=>(hg _ C s0 H0 fp).h) (fun C s0 H0 fp=>(ht _ C s0 H0 fp).h) (fun C s0 H0 fp=>(he _ C s0 H0 fp).h) hs⟩
def Lm(K:Frag):List V->Hp->VK->Prop:=fun xs H Q=>∃(p:Addr) (ys:List (List Nat)),xs=[.ref p]/\uq K H p (ys.map fun l=>V.str (tx l))/\ys.length<64 /\
 ∀zs:List (List Nat),zs.Perm ys->sortedS (zs.map tx)=true->∀l H2,H l=none->H2=fW H l (.lst (zs.map fun l=>V.str (tx l)))->Q (.ref l) H2
theorem EU(z:Str):tx z.cps.toList=z:=by cases z;rfl
theorem wz{vs:List Value}{xs:Array (Value×Value)}(hp:xs.Perm (pairsOf vs)):∀v∈(xs.map (·.2)).toList,v∈vs:=fun v hv=>by
 have hl:xs.toList.Perm (vs.zip vs):=by rw[<- pairsOf_toList];exact Array.perm_iff_toList_perm.mp hp
 rw[Array.toList_map]at hv
 obtain⟨p,hp',rfl⟩:=c8.mp hv
 have:=mem_zip_self (hl.mem_iff.mp hp')
 rw[<- this.1];exact this.2
theorem zH{prog:Program}{w:World}{A:Around}{E:Value->Shared->Prop}{l:Addr}{vs:List Value}{ss:List Str}(hl:s.heap.IsList l vs.toArray)(hS:StrsAre vs ss)(VI:vs.length<64)
  (h:∀(out:Array Value) (KG:List Str),(∀v∈out.toList,v∈vs)->StrsAre out.toList KG->KG.Perm ss->sortedS KG=true->Q (.ref #[7]) { s with heap:=sortedAll s.heap vs out }) :
  wpAny #[6] A (call (.builtin "sorted") [.ref l]) Q E s:=by
 refine sortedK rW hl hS.keysOf (fun v₁ v₂ gM e=>ug (by rw[<- e];exact hS)) VI fun bh hp hs=>?_
 obtain⟨KG,h1,h2,h3⟩:=qJ hS hp hs
 exact h _ KG (wz hp) h1 h2 h3
theorem jm.sub{vs:List Value}(h:jm n vs)(hs:∀v∈us,v∈vs):jm n us:=fun x t hx=>h x t (hs _ hx)
theorem xY:Mv X (.builtin "sorted") (Lm X.K):=⟨by
 intro ak s σ H xs us Q I r h
 obtain⟨p,ys,rfl,hS,VI,q⟩:=h
 obtain⟨u,rfl,ru⟩:=p8 r
 cases ru
 obtain⟨bO,rv,pl,hz⟩:=I.list hS
 have hl:=rv.length
 rw[aE]at hl
 refine zH (ss:=ys.map tx) pl.isList (wn (by simpa using rv)) #[0] fun out KG hm h1 h2 h3=>?_
 obtain⟨ep,hat⟩:=sortedAll_at s.heap bO out
 have yx:H #[7]=none:=I.hok.fresh (bp _)
 have hmap:(KG.map fun z=>z.cps.toList).map tx=KG:=by
  rw[cq]
  have:(tx∘fun z:Str=>z.cps.toList)=id:=funext fun z=>EU z
  rw[this,jU]
 have hperm:(KG.map fun z=>z.cps.toList).Perm ys:=by
  have e:=h2.map fun z:Str=>z.cps.toList
  rw[cq]at e
  have:((fun z:Str=>z.cps.toList)∘tx)=id:=funext fun l=>by simp[tx]
  rw[this,jU]at e
  exact e
 have hvals:cL s.toks ((KG.map fun z=>z.cps.toList).map fun l=>V.str (tx l)) out.toList:=by
  have e:=oy h1 ((sV rv).sub hm)
  rw[<- hmap,cq]at e
  exact e
 refine⟨.ref #[7],_,I.laid (t':=s.toks) (fun b o e=>sortedAll_old e) (bp _) ?_,rfl,q _ hperm (by rw[hmap];exact h3) _ _ yx rfl⟩
 refine⟨?_,out.toList,ep,hvals,hat⟩
 rw[aE,hperm.length_eq]
 exact aN (gp VI) #[3]⟩
theorem bI.turned2{t':Nat}{e:Addr}(I:bI X ak σ H s)(k:∀b o,b≠e->b≠it->s.heap.get? b=some o->h'.get? b=some o)
  (he:∃o,h'.get? e=some o) (f1:ur X ak H e) (f2:ur X ak H it) (hk:s.toks<=t':=by first|exact aA _|exact bp _|assumption|omega):bI X ak σ H { s with heap:=h',toks:=t' }:=by
 have nit:∀b u,H b=some u->b≠e/\b≠it:=fun b u q=>⟨fun z=>(by rw[z,f1.1]at q;cases q),fun z=>(by rw[z,f2.1]at q;cases q)⟩
 have nin:∀b,b∉[e,it]->b≠e/\b≠it:=fun b h=>⟨fun z=>h (by simp[z]),fun z=>h (by simp[z])⟩
 refine I.step (g':=s.gens) (d':=s.drawn) (ch:=[e,it]) (fun b hb=>?_) (fun b o _ _ hc q _=>k b o (nin b hc).1 (nin b hc).2 q) (fun b o _ _ hc q _=>⟨o.slots,k b o (nin b hc).1 (nin b hc).2 q⟩) (fun _ _ _ _ n=>n)
  (fun b o hc q=>⟨o,k b o (nin b hc).1 (nin b hc).2 q⟩) (fun _ _ q=>q) (fun _ _ _ q=>q) (fun b ps q=>⟨#[],by rw[q];simp⟩) (fun m hm=>?_) (fun b u q=>?_) I.bare hk
 ·have z:b=e\/b=it:=by simpa using hb
  rcases z with rfl|rfl
  ·exact⟨f1.2.2.2.1,f1.2.1,f1.2.2.2.2.1,f1.2.2.2.2.2⟩
  ·exact⟨f2.2.2.2.1,f2.2.1,f2.2.2.2.2.1,f2.2.2.2.2.2⟩
 ·obtain⟨o,es,ep,ho,r⟩:=hm
  exact⟨o,es,ep,k _ o (Ne.symm f1.2.1) (Ne.symm f2.2.1) ho,r⟩
 ·refine((I.hok b u q).up hk).stay (fun c v hc z=>?_) (fun _ z=>z) fun _ _ z=>z
  rcases hc with y|y
  ·rw[y]at z ⊢;exact k b v (nit b u q).1 (nit b u q).2 z
  ·exact k c v (nit c _ y).1 (nit c _ y).2 z
section
variable{w:World}
theorem k6{t:Addr}{bO:Array Value}{x:Value}(st:s.heap.IsTupleIter it t i)(ht:s.heap.IsTuple t bO)(hx:bO[i]?=some x)
  (q:∀g,g.IsTupleIter it t (i+1)->Heap.SameBut it s.heap g->Q x { s with heap:=g }):wpAny #[6] A (Builtin.SmallTypes.nextOf (.ref it)) Q E s:=by
 obtain⟨ob,e1,e2,e3⟩:=id st
 obtain⟨ot,g1,_,nt,g3⟩:=ht
 have T:=st.typeIs
 unfold Builtin.SmallTypes.nextOf
 refine af (bU (name:=Str.ofString "__next__") T fS (cn fS T mf ?_ (lU _)))
 show wpAny _ _ (field (.ref it) 0 >>= _) _ _ s
 refine af (df e1 e3 (x:=.ref t) rfl ?_)
 dsimp only
 rw[aU (show ¬ ((Value.ref t==Value.none)=true)from eV)]
 refine af (df e1 e3 (x:=.int i 0) rfl ?_)
 dsimp only
 refine af (eD g1 g3 ?_)
 simp only[cf,hx]
 refine af (wpAny_setField e1 e3 #[15] (ay ⟨x,rfl,ay (q _ ?_ (ji ..))⟩))
 exact⟨_,dI _ e1 (Obj.isFreed_of_fields (Obj.data_mapFields e3 _)),(Obj.cls_mapFields ..).trans e2,by rw[Obj.data_mapFields e3];simp[rawInt]⟩
theorem l7{t:Addr}{bO:Array Value}(hh:A.handled=none)(st:s.heap.IsTupleIter it t i)(ht:s.heap.IsTuple t bO)(hx:bO[i]?=none)
  (q:∀g e,Heap.ExtBut it s.heap g->(∃o,g.get? e=some o/\o.cls=.type "StopIteration")->E (.ref e) { s with heap:=g }):wpAny #[6] A (Builtin.SmallTypes.nextOf (.ref it)) Q E s:=by
 obtain⟨ob,e1,e2,e3⟩:=id st
 obtain⟨ot,g1,_,nt,g3⟩:=ht
 have T:=st.typeIs
 unfold Builtin.SmallTypes.nextOf
 refine af (bU (name:=Str.ofString "__next__") T fS (cn fS T mf ?_ (lU _)))
 show wpAny _ _ (field (.ref it) 0 >>= _) _ _ s
 refine af (df e1 e3 (x:=.ref t) rfl ?_)
 dsimp only
 rw[aU (show ¬ ((Value.ref t==Value.none)=true)from eV)]
 refine af (df e1 e3 (x:=.int i 0) rfl ?_)
 dsimp only
 refine af (eD g1 g3 ?_)
 simp only[cf,hx]
 refine af (kX (af (wpAny_setField e1 e3 #[15] (af ?_))))
 simp only[newExc,newTuple]
 refine af (cD (af (m:=firstArgMember _ _) (wpAny_of_eq (a:=Value.none) (by first|rfl|(simp only[firstArgMember];rfl)) (cD ?_ (by size_fits)))) (by size_fits))
 simp only[raiseNew]
 refine af (wpAny_handled ?_)
 rw[show A.in1.handled=none from hh]
 exact af (ay (wpAny_throw (q _ _ (((ji ..).extBut.push _).push _) ⟨_,aC _ rfl,rfl⟩)))
end
theorem Hm{w:World}{A:Around}(hh:A.handled=none)(it t:Addr)(Fx:t≠it)(bO:Array Value) :
  Draws prog w A it [it,t] bO.size (fun i v=>bO[i]?=some v) (fun i h=>h.IsTupleIter it t i/\h.IsTuple t bO) where
 live:=fun _ _ st=>let ⟨o,e,_⟩:=st.1;⟨o,e⟩
 frame:=fun _ h h' st k=>⟨st.1.at fun o e=>k it #[15] o e,let ⟨o,e,r⟩:=st.2;⟨o,k t #[15] o e,r⟩⟩
 item:=fun i s Q E hi st q=>k6 st.1 st.2 (x:=bO[i]) (by simp[hi]) fun g a b=>q _ g s.toks (by simp[hi]) ⟨a,st.2.extBut b.extBut Fx⟩ b
 done:=fun s Q E st q=>l7 hh st.1 st.2 #[15] q
open AutoSeq1 (wpAny_loadPart')
def VZ(K:Frag)(a:Addr):It:=
 ⟨fun i H=>∃xs x,gz K H a xs/\xs[i]?=some x,fun i H v H'=>∃p,H p=none/\v=.ref p/\∀xs x,gz K H a xs->xs[i]?=some x->H'=fW H p (.tup [.int i,x]),fun i H=>∃xs,gz K H a xs/\xs.length<=i⟩
theorem F3{w:World}(a it e:Addr)(VD:e≠it) :
  C6 P w K (.Tuple xL kk pos) (VZ K a) [e,it] e (fun i h=>(∃old,IsEnum h e it i old)/\h.IsTupleIter it a i) where
 mem:=by simp
 obj:=fun i h st b hb=>by
  have z:b=e\/b=it:=by simpa using hb
  rcases z with rfl|rfl
  ·obtain⟨old,q⟩:=st.1
   exact⟨_,q,fun v z=>by cases z⟩
  ·obtain⟨o,q,c,d⟩:=st.2
   exact⟨o,q,fun v z=>by rw[d]at z;cases z⟩
 keep:=fun i h h' st k=>⟨let ⟨old,q⟩:=st.1;⟨old,k e #[15] _ q⟩,st.2.at fun o q=>k it #[15] o q⟩
 item:=by
  intro X hP hw hK hc i ak s σ H E I hf st hg
  subst hP hw hK
  obtain⟨xs,x,hq,hx⟩:=hg
  obtain⟨bO,rv,p,hz⟩:=I.tuple hq
  obtain⟨u,hu,ru⟩:=rv.get hx
  obtain⟨⟨old,he⟩,qE⟩:=st
  have hT:s.heap.IsTuple a bO.toArray:=p
  obtain⟨oa,ha,hca,_⟩:=id hT
  obtain⟨oi,hi,hci,_⟩:=id qE
  have nai:a≠it:=fun z=>by
   rw[z,hi]at ha;cases ha
   rw[hci]at hca;injection hca with z;exact absurd z #[3]
  have nae:a≠e:=fun z=>by
   rw[z,he]at ha;cases ha
   injection hca with z;exact absurd z #[3]
  have hlt:i<bO.toArray.size:=by
   have:=(ax.mp hu).1
   simpa using this
  refine up (wpAny_pyNext_enum_itemD (Hm (A:=X.A.in1) (I.ok.hd hc) it a nai bO.toArray) he ⟨qE,hT⟩ hlt VD (by simp[VD,Ne.symm nae]) fun x' g tk hx' ho' bh htup AL hk KL=>⟨_,rfl,?_⟩)
  have ex:x'=u:=by
   have e1:bO[i]?=some x':=by simpa using hx'
   rw[hu]at e1;exact(bg e1).symm
  subst ex
  refine wpAny_letOwnedTupleGo_enum ho' fun g2 Mo u8=>?_
  have yx:H s.heap.objs.size=none:=I.hok.fresh (aA _)
  have I1:bI X ak σ (fW H s.heap.objs.size (.tup [.int i,x])) { s with heap:=s.heap.push { cls:=.type "tuple",data:=.seq #[.int i tk,x'] },toks:=tk+1 }:=I.laid (fun b o q=>aw _ q) (aA _)
   ⟨by show 2<=sizeLine;decide,[.int i tk,x'],.cons ⟨tk,rfl⟩ (.cons (ru.up KL) .nil),⟨_,aC _ rfl,rfl,_,rfl⟩⟩
  have nf:∀b∈[e,it],b≠s.heap.objs.size:=fun b hb=>by
   have z:b=e\/b=it:=by simpa using hb
   rcases z with rfl|rfl
   ·exact a9 (aJ he)
   ·exact a9 (aJ hi)
  have fp:∀b∈[e,it],ur X ak (fW H s.heap.objs.size (.tup [.int i,x])) b:=fun b hb=>by
   obtain⟨f0,f⟩:=hf b hb
   exact⟨by rw[cY (nf b hb)];exact f0,f⟩
  have he2':IsEnum g2 e it ((i:Int)+1) x':=Mo
  have I2:bI X ak σ (fW H s.heap.objs.size (.tup [.int i,x])) { s with heap:=g2,toks:=tk+1 }:=I1.turned2 (t':=tk+1) (fun b o hbe hbi q=>?_) ⟨_,he2'⟩ (fp e #[15]) (fp it #[15])
  ·refine⟨.ref s.heap.objs.size,_,I2,rfl,⟨_,yx,rfl,fun ys y hy hy'=>?_⟩,⟨⟨x',by simpa using he2'⟩,bh.1.extBut u8.extBut (Ne.symm VD)⟩,fun b hb=>(fp b hb).1⟩
   have e1:=I.tuple_inj hy hq
   subst e1
   rw[hx]at hy';cases hy';rfl
  ·have q':(s.heap.push { cls:=.type "tuple",data:=.seq #[.int i tk,x'] }).get? b=some o:=q
   refine u8.extBut b o hbe ?_
   by_cases hb:b=s.heap.objs.size
   ·subst hb
    have e1:=aC s.heap (o:={ cls:=.type "tuple",data:=.seq #[.int i tk,x'] }) rfl
    rw[e1]at q';cases q'
    exact htup
   ·rw[Heap.get?_push_ne _ _ _ hb]at q'
    exact hk b o hbe hbi q'
 done:=by
  intro X hP hw hK hc i ak s σ H E I hf st hg
  subst hP hw hK
  obtain⟨xs,hq,hx⟩:=hg
  obtain⟨bO,rv,p,hz⟩:=I.tuple hq
  obtain⟨⟨old,he⟩,qE⟩:=st
  have hT:s.heap.IsTuple a bO.toArray:=p
  have hl:=rv.length
  have hT':Shared.TypeIs s (.ref e) "enumerate":=⟨_,he,rfl⟩
  unfold pyNext
  refine af (iy (bU (name:=Str.ofString "__next__") hT' pX (cn pX hT' F.entry_enumerate_next ?_ (F.args_enumerate_next_1 _))))
  show wpAny _ _ (field (.ref e) 2 >>= _) _ _ _
  refine af (df he rfl (x:=.ref it) rfl (af (l7 (show X.A.in1.handled=none from I.ok.hd hc) qE hT (by simp;omega) fun g y hx' hy=>?_)))
  obtain⟨o,ho,C3⟩:=hy
  refine af (gY (T:="StopIteration") (b:=true) ⟨o,ho,C3⟩ mL (ay ⟨rfl,?_⟩))
  obtain⟨f0,f1,f2,f3,f4,f5⟩:=hf it #[15]
  exact I.turned (t':=s.toks) (fun b o hb q=>hx' b o hb q) f0 f1 f3 f4 f5
 self:=fun A i s Q E st h=>let ⟨_,q⟩:=st.1;wpAny_pyIter_enum q h
open AutoSeq1 (wpAny_loadPart')
noncomputable abbrev mX(t:Addr):Obj:={ cls:=.type "tuple_iterator",data:=.fields #[.ref t,.int 0 0] }
noncomputable abbrev Du(it:Addr):Obj:={ cls:=.type "enumerate",data:=.fields #[.none,.bool false,.ref it,rawInt 0,.none,.none] }
theorem OL(t:Addr)(bO:Array Value)(n:Nat)(dc:Option Addr)(sl:Array (Option Value)) :
  Meets (Builtin.«enumerate.__new__» ⟨[.type "enumerate",.ref t],[]⟩) (fun _ R s=>s.heap.get? t=some { cls:=.type "tuple",dict:=dc,data:=.seq bO n,slots:=sl } /\
   R (.ok (.ret (.ref (s.heap.push (mX t)).objs.size))) { s with heap:=(s.heap.push (mX t)).push (Du s.heap.objs.size) }):=
 .of_wp fun prog w A R s h=>by
  obtain⟨hp,g,d,tk,os⟩:=s
  obtain⟨ht,h⟩:=h
  have sb:=sub_enumerate
  have hT:Heap.IsTuple (Shared.heap ⟨hp,g,d,tk,os⟩) t bO:=⟨_,ht,rfl,n,rfl⟩
  wp_walk using dy ht
  refine wpAny_stack_any fun st=>ay ?_
  split
  ·rename_i c _ _ _ _ _
   cases(c==Value.type "enumerate")<;>(wp_walk using dy ht,fO hT;exact⟨_,rfl,h⟩)
  ·wp_walk using dy ht,fO hT
   exact⟨_,rfl,h⟩
section
variable{w:World}
theorem xZ{t:Addr}{bO:Array Value}(hT:s.heap.IsTuple t bO)
  (q:∀g,IsEnum g #[7] s.heap.objs.size 0 .none->g.IsTupleIter s.heap.objs.size t 0->(∀b o,s.heap.get? b=some o->g.get? b=some o)->Q (.ref #[7]) { s with heap:=g }) :
  wpAny #[6] A (call (.type "enumerate") [.ref t]) Q E s:=by
 obtain⟨⟨c,dc,dt,sl⟩,ht,hc,n,hd⟩:=hT
 obtain rfl:c=.type "tuple":=hc
 obtain rfl:dt=.seq bO n:=hd
 refine callType_new F.called_enumerate #[3] (F.typeCall_enumerate_1 _) (F.newCall_enumerate_1 _) (fun ob=>F.args_object_init_2 ob _) F.entry_enumerate_new (OL t bO n dc sl) ⟨ht,?_⟩
 have z:(s.heap.push (mX t)).objs.size=s.heap.objs.size+1:=bx ..
 show _/\_
 rw[z]
 have e1:IsEnum ((s.heap.push (mX t)).push (Du s.heap.objs.size)) #[7] s.heap.objs.size 0 .none:=by
  have y:=aC (s.heap.push (mX t)) (o:=Du s.heap.objs.size) rfl
  rw[z]at y;exact y
 exact⟨⟨_,e1,rfl⟩,q _ e1 ⟨_,aw _ (aC _ rfl),rfl,rfl⟩ fun b o y=>aw _ (aw _ y)⟩
end
section
def Vi(K:Frag)(ta:TA):TI:=fun σ H R=>ta σ H fun vs H1=>∃a,vs=[.ref a]/\(∃xs,gz K H1 a xs)/\R (VZ K a) H1
theorem Ho{a:Expr}{ta:TA}{p pos tp:Pos}{xL:List Expr}{kk:Nat}(hm:X.mg "enumerate"=none)(ha:QA X [a] ta)(hg:Gl X "enumerate":=by rfl)(hs:starEach [a] X.env=[(false,eval a X.env)]:=by rfl) :
  QI X (.Tuple xL kk tp) (.Call (.Name "enumerate" p) [a] [] pos) (Vi X.K ta):=⟨by
 intro ak s σ H R I h
 refine Call_ (p7 I hg hm boot_enumerate (dU (ky (ha.h pos ak s σ H _ I h) fun us s1 kt1 ⟨vs,H1,I1,r1,q1⟩=>?_) hs rfl))
 obtain⟨t,e,⟨xs,hq⟩,q⟩:=q1
 subst e
 obtain⟨u,rfl,ru⟩:=p8 r1
 cases ru
 obtain⟨bO,rv,pt,hz⟩:=I1.tuple hq
 refine xZ (show s1.heap.IsTuple t bO.toArray from pt) fun g e1 e2 kp=>?_
 refine wpAny_pyIter_enum e1 ?_
 refine⟨s1.heap.objs.size+1,[s1.heap.objs.size+1,s1.heap.objs.size],_,_,H1,rfl,I1.kept (t':=s1.toks) kp,F3 t _ _ (Nat.succ_ne_self _),⟨⟨_,e1⟩,e2⟩,fun b hb=>?_,q⟩
 have z:b=s1.heap.objs.size+1\/b=s1.heap.objs.size:=by simpa using hb
 rcases z with rfl|rfl
 ·exact I1.fpOk (bp _) (I1.hok.fresh (bp _))
 ·exact I1.fpOk (aA _) (I1.hok.fresh (aA _))⟩
end
section
variable{g:TG}{tc:TT}{H1:Hp}{Q:VK}
end
theorem yL:∀(p:Nat) (m:List Nat),risingS (tx [p]) (m.map fun c=>tx [c])=true->(∀c∈m,p<=c)/\m.Pairwise (· <= ·)
 |p,[],_=>⟨fun c h=>by simp at h,.nil⟩
 |p,c::r,h=>by
  have h':(!ltCps (tx [c]).cps.toList (tx [p]).cps.toList&&risingS (tx [c]) (r.map fun c=>tx [c]))=true:=h
  rw[dD]at h'
  obtain⟨a,b⟩:=h'
  obtain⟨b1,b2⟩:=yL c r b
  have hpc:p<=c:=by
   rw[ltCps_eq]at a
   have a':(!decide ([c]<[p]))=true:=a
   have:=of_decide_eq_false (fm _▸a')
   rcases Nat.lt_or_ge c p with z|z
   ·exact absurd (List.Lex.rel z) this
   ·exact z
  refine⟨fun x hx=>?_,b7.mpr ⟨b1,b2⟩⟩
  rcases aX.mp hx with rfl|hx
  ·exact hpc
  ·exact aN hpc (b1 x hx)
theorem Bf:∀(m:List Nat),sortedS ((m.map fun c=>[c]).map tx)=true->m.Pairwise (· <= ·)
 |[],_=>.nil
 |c::r,h=>by
  have h':risingS (tx [c]) ((r.map fun c=>[c]).map tx)=true:=h
  rw[cq]at h'
  obtain⟨a,b⟩:=yL c r h'
  exact b7.mpr ⟨a,b⟩
theorem eY:Slot "set_iterator" "__next__" "set_iterator.__next__":=.of (owner:="set_iterator") (n:="__next__") (by rw[typeLookup_type,pY];kernel_rfl) (by decide +kernel) (by decide +kernel) (by decide +kernel) (by first|exact .inl (by decide +kernel)|exact .inr (by decide +kernel)) (by rw[eF];kernel_rfl)
theorem mY:entryFor table "set_iterator.__next__"=some Builtin.«set_iterator.__next__»:=entryFor_of_tree (by kernel_rfl)
theorem mZ(a:Value):argsOk "set_iterator.__next__" ⟨[a],[]⟩:=by unfold argsOk;kernel_rfl
theorem Bg:entryFor table "set.__iter__"=some Builtin.«frozenset.__iter__»:=entryFor_alias (id':="frozenset.__iter__") (by kernel_rfl) (by first|rfl|decide +kernel|(unfold String.splitOn;simp +decide [String.splitOnAux])) (by decide +kernel) (by kernel_rfl)
noncomputable def vD(w:World):Bool:=w.params.followText "set-order"
def EV(w:World)(n:Nat)(t:SetTable):Prop:=(vD w=true\/t.led=true)/\(n=0\/t.plain=false)
theorem F4(t:SetTable)(es:Array (Int×Value))(h:Int)(x:Value):(layNew t es h x).2.1.led=t.led/\(t.plain=false->(layNew t es h x).2.1.plain=false):=by
 unfold layNew
 split
 ·dsimp only
  unfold SetTable.orStandIn
  split
  ·exact⟨rfl,fun z=>z⟩
  ·exact⟨rfl,fun _=>rfl⟩
 ·exact⟨rfl,fun _=>rfl⟩
theorem zI{t t':SetTable}{hs:Array Int}{o:Array Nat}(h:t.relaid hs n=some (t',o)):t'.led=t.led/\t'.plain=t.plain:=by
 unfold SetTable.relaid SetTable.laid at h
 cases hc:SetTable.layClean (SetTable.sizeAbove n-1) hs with
 |none=>rw[hc]at h;cases h
 |some ow=>
  rw[hc]at h
  have h':=bg h
  obtain⟨a,_⟩:=Prod.mk.inj h'
  subst a
  exact⟨rfl,rfl⟩
theorem Bh(t:SetTable)(es:Array (Int×Value))(n:Nat):(relayAll t es n).2.1.led=t.led/\(t.plain=false->(relayAll t es n).2.1.plain=false):=by
 unfold relayAll
 split
 ·rename_i t' o he
  obtain⟨a,b⟩:=zI he
  dsimp only
  split
  ·exact⟨a,fun z=>b.trans z⟩
  ·exact⟨rfl,fun _=>rfl⟩
 ·exact⟨rfl,fun _=>rfl⟩
section
variable{w:World}
def wA(prog:Program)(w:World)(n:Nat)(h:Heap)(a:Addr)(ks:List Str):Prop:=
 ∃o es ep t,h.get? a=some o/\o.ExactSet/\o.data=.set es ep t/\ElemsOf (PySem.strKind prog w) es.toList/\(es.toList.map fun e=>strOf e.2).Perm ks/\es.size<scanBound/\t.fits es.size=true/\EV w es.size t/\jm n (es.toList.map (·.2))
theorem Bi{l:List (Int×Value)}(h:ElemsOf (PySem.strKind prog w) l):∀e∈l,∃t,e.2=.str (strOf e.2) t:=fun e he=>by
 obtain⟨⟨k,hk,_⟩,_⟩:=h e he
 obtain⟨t,ht⟩:=lZ hk
 exact⟨t,by rw[ht];rfl⟩
theorem yM{k:Str}{e:Int×Value}{l:List (Int×Value)}(h:ElemsOf (PySem.strKind prog w) l)(he:e∈l):(PySem.strKind prog w).is k e.2=true↔k=strOf e.2:=by
 obtain⟨t,ht⟩:=Bi h e he
 constructor
 ·intro z
  obtain⟨u,hu⟩:=lZ z
  rw[hu];rfl
 ·intro z
  show Value.isStrOf k e.2=true
  rw[ht,z]
  show Value.isStrOf (strOf e.2) (.str (strOf e.2) t)=true
  unfold Value.isStrOf;simp
theorem wA.keep{a:Addr}(z:wA prog w n h a ks)(k:∀o,h.get? a=some o->h'.get? a=some o):wA prog w n h' a ks:=let ⟨o,es,ep,t,ho,r⟩:=z;⟨o,es,ep,t,k o ho,r⟩
theorem jm.up{l:List Value}(h:jm n l)(hn:n<=n'):jm n' l:=fun x t hx h1=>⟨(h x t hx h1).1,aL (h x t hx h1).2 hn⟩
theorem wA.up{a:Addr}(z:wA prog w n h a ks)(hn:n<=n'):wA prog w n' h a ks:=let ⟨o,es,ep,t,ho,h1,h2,h3,h4,h5,h6,h7,h8⟩:=z;⟨o,es,ep,t,ho,h1,h2,h3,h4,h5,h6,h7,h8.up hn⟩
theorem Ln{a:Addr}{tk:Tok}{Q:Bool->Shared->Prop}(z:wA prog w n s.heap a ks)(UO:x.length=1->0<tk/\tk<n)(V_:ks.length+1<scanBound)
  (q:∀b g,Heap.SameBut a s.heap g->wA prog w n g a (if x∈ks then ks else ks++[x])->Q b { s with heap:=g }):wpAny #[6] A (setAddHashed a (.str x tk) ((PySem.strKind prog w).hash x)) Q E s:=by
 obtain⟨o,es,ep,t,ho,zo,hd,hel,hp,hb,hf,KJ,hta⟩:=z
 have gC:es.size=ks.length:=by have:=hp.length_eq;simpa using this
 have hkey:(PySem.strKind prog w).is x (.str x tk)=true:=by show Value.isStrOf x (.str x tk)=true;unfold Value.isStrOf;simp
 have hsc:(Value.str x tk).scannable=true:=rfl
 unfold setAddHashed setAddHashedIn
 refine dw (af (gq ho hd hf ?_))
 dsimp only
 rw[byScan_of hsc hb hel,aK rfl]
 unfold setAddByScan
 refine af (af (kX (af (wpAny_setScan_of hkey ho hd hf hel ?_))))
 cases hr:List.findIdx? (fun e=>(PySem.strKind prog w).is x e.2) es.toList with
 |some j=>
  obtain⟨hj,hpj,_⟩:=List.findIdx?_eq_some_iff_getElem.mp hr
  have hin:x∈ks:=hp.mem_iff.mp (c8.mpr ⟨es.toList[j],dS hj,((yM hel (dS hj)).mp hpj).symm⟩)
  refine ay (ay ?_)
  have e1:=q false s.heap (Heap.SameBut.refl a s.heap) (by rw[aK hin];exact⟨o,es,ep,t,ho,zo,hd,hel,hp,hb,hf,KJ,hta⟩)
  exact e1
 |none=>
  have hin:¬ x∈ks:=fun hx=>by
   obtain⟨e,he,hxe⟩:=c8.mp (hp.mem_iff.mpr hx)
   have y:=List.findIdx?_eq_none_iff.mp hr e he
   rw[(yM hel he).mpr hxe.symm]at y
   cases y
  have q':=fun b g h1 h2=>q b g h1 (by rw[aU hin];exact h2)
  dsimp only
  have lp:=layNew_perm t es ((PySem.strKind prog w).hash x) (.str x tk)
  have lf:=layNew_fits t es ((PySem.strKind prog w).hash x) (.str x tk)
  have lm:=F4 t es ((PySem.strKind prog w).hash x) (.str x tk)
  generalize layNew t es ((PySem.strKind prog w).hash x) (.str x tk)=L at lp lf lm ⊢
  obtain⟨es1,t1,wd,gv⟩:=L
  dsimp only at lp lf lm ⊢
  rw[nj]at lp
  have el1:ElemsOf (PySem.strKind prog w) es1.toList:=(hel.push hkey hsc).perm lp
  have sz1:es1.size=es.size+1:=by have:=lp.length_eq;simpa using this
  have b1:es1.size<scanBound:=by omega
  have p1:(es1.toList.map fun e=>strOf e.2).Perm (ks++[x]):=by
   have y:=lp.map fun e:Int×Value=>strOf e.2
   rw[bH]at y
   exact y.trans (hp.append_right _)
  have ta1:jm n (es1.toList.map (·.2)):=fun y u hy=>by
   obtain⟨e,he,ee⟩:=c8.mp hy
   rcases aV.mp (lp.mem_iff.mp he)with z|z
   ·exact hta y u (c8.mpr ⟨e,z,ee⟩)
   ·rw[aZ]at z
    subst z
    cases ee
    exact UO
  have gw:∀(b:Bool) {s₁:Shared} {Q':Unit->Shared->Prop},Q' () s₁->wpAny #[6] A (match b with|true=>rule "set.scan.the-table-gave-way" | false=>pure ()) Q' E s₁:=fun b _ _ y=>by cases b<;>first|exact ay y|exact kX y
  refine af (gw _ ?_)
  have kT:∀t2:SetTable,t2.fits es1.size=true->t2.led=t.led->t2.plain=false->wpAny #[6] A (do
    storeSet a es1 t2
    if (!wd&&t2.tooFull)=true then do
      (match (relayAll t2 es1 (SetTable.grown es1.size)).2.2 with|true=>rule "set.scan.the-table-gave-way" | false=>pure ())
      storeSet a (relayAll t2 es1 (SetTable.grown es1.size)).1 (relayAll t2 es1 (SetTable.grown es1.size)).2.1
      pure (some true)
     else pure (some true)) (fun r s'=>wpAny #[6] A (match r with|some added=>pure added|none=>setAddHashedIn a (.str x tk) ((PySem.strKind prog w).hash x) 99999) Q E s') E s:=by
   intro t2 f2 l2 n2
   have to2:EV w es1.size t2:=⟨by rw[l2];exact KJ.1,.inr n2⟩
   refine af (wpAny_storeSet_of ho hd ?_ (fits_of_scanBound b1))
   have g1:(s.heap.update a (Obj.putSet es1 t2)).get? a=some { o with data:=.set es1 (ep+1) t2 }:=by
    have y:=dI (Obj.putSet es1 t2) ho (by rw[vb es1 t2 hd];rfl)
    rw[vb es1 t2 hd]at y;exact y
   have sb:=ji s.heap a (Obj.putSet es1 t2)
   split
   ·have rp:=relayAll_perm t2 es1 (SetTable.grown es1.size)
    have rf:=relayAll_fits t2 es1 (SetTable.grown es1.size)
    have rm:=Bh t2 es1 (SetTable.grown es1.size)
    generalize relayAll t2 es1 (SetTable.grown es1.size)=R at rp rf rm ⊢
    obtain⟨es2,t3,gv2⟩:=R
    dsimp only at rp rf rm ⊢
    have sz2:es2.size=es1.size:=by have:=rp.length_eq;simpa using this
    refine af (gw _ (af (wpAny_storeSet_of g1 rfl (ay (ay ?_)) (fits_of_scanBound #[0]))))
    have g2:((s.heap.update a (Obj.putSet es1 t2)).update a (Obj.putSet es2 t3)).get? a=some { o with data:=.set es2 (ep+1+1) t3 }:=by
     have y:=dI (Obj.putSet es2 t3) g1 (by rw[vb es2 t3 rfl];rfl)
     rw[vb es2 t3 rfl]at y;exact y
    refine q' true _ (sb.trans (ji _ a _)) ⟨_,es2,_,t3,g2,zo,rfl,el1.perm rp,?_,by omega,rf,?_⟩
    ·exact(rp.map fun e:Int×Value=>strOf e.2).trans p1
    ·exact⟨⟨by rw[rm.1,l2];exact KJ.1,.inr (rm.2 n2)⟩,fun y u hy=>ta1 y u ((rp.map _).mem_iff.mp hy)⟩
   ·exact ay (ay (q' true _ sb ⟨_,es1,_,t2,g1,zo,rfl,el1,p1,b1,f2,to2,ta1⟩))
  by_cases ou:t1.plain=true
  ·rw[aK ou,hashByValue_scannable 8 hsc]
   refine af (ay ?_)
   exact kT { t1 with plain:=false } (SetTable.fits_plain_off lf) lm.1 rfl
  ·rw[aU ou]
   refine af (ay ?_)
   exact kT t1 lf lm.1 (by simpa using ou)
end
section
variable{w:World}{R:Result->Shared->Prop}{I:Addr}{wr:List Addr}{P:Nat->Value->Prop}{St:Nat->Heap->Prop}
def Mw(prog:Program)(w:World)(m:Nat)(val:Nat->Str)(h:Heap)(a:Addr)(i:Nat):Prop:=∃ks,wA prog w m h a ks/\ks.Nodup/\(∀x,x∈ks↔∃j,j<i/\val j=x)/\ks.length<=i
theorem Hq(W:Walks prog w A.in1 I fp wr n P St)(S:Addr)(Wg:S∉fp)(val:Nat->Str)(C0:∀i v,P i v->∃t,v=.str (val i) t)(hb:n+1<scanBound){n0:Nat}
  (CU:∀i (s:Shared) (Q:Option Value->Shared->Prop) (E:Value->Shared->Prop),n0<=s.toks->i<n->St i s.heap ->
   (∀v h' tk,s.toks<=tk->jm tk [v]->P i v->St (i+1) h'->(∀b o,b∉wr->s.heap.get? b=some o->h'.get? b=some o)->Q (some v) { s with heap:=h',toks:=tk })->wpAny #[6] A.in1 (pyNext (.ref I)) Q E s) :
  ∀(k i:Nat) (s:Shared),n-i=k->i<=n->n0<=s.toks->St i s.heap->Mw prog w s.toks val s.heap S i ->
   (∀g tk,s.toks<=tk->Mw prog w tk val g S n->(∀b o,b≠S->b∉wr->s.heap.get? b=some o->g.get? b=some o)->R (.ok (.ret .none)) { s with heap:=g,toks:=tk }) ->
   codeAny #[6] A (.builtin "set.update.loop" ⟨[.ref S,.ref I],[]⟩) R s:=by
 have hSw:S∉wr:=fun h=>Wg (W.sub _ h)
 intro k
 induction k with
 |zero=>
  intro i s hk hi hn0 st hM hR
  obtain rfl:i=n:=by omega
  refine dz jk ?_
  rw[c6 fz _]
  show wpAny _ A.in1 (pyNext (.ref I) >>= _) _ _ s
  refine af (up (W.done s _ _ st fun g tk kp ms=>ay (hR g tk ms ?_ fun b o _ hb e=>kp b o hb e)))
  obtain⟨ks,z,r⟩:=hM
  exact⟨ks,(z.keep fun o e=>kp S o hSw e).up ms,r⟩
 |succ k ih=>
  intro i s hk hi hn0 st hM hR
  have hlt:i<n:=by omega
  refine dz jk ?_
  rw[c6 fz _]
  show wpAny _ A.in1 (pyNext (.ref I) >>= _) _ _ s
  refine af (CU i s _ _ hn0 hlt st fun v g tk ms hta hP bh kp=>?_)
  obtain⟨t,rfl⟩:=C0 i v hP
  obtain⟨ks,z,nd,mem,len⟩:=hM
  have z':wA prog w (tk+1) g S ks:=(z.keep fun o e=>kp S o hSw e).up (iG ms)
  refine af (dw ?_)
  unfold setAdd
  refine dw (af ((PySem.strKind prog w).pyHash (k:=val i) (show Value.isStrOf (val i) (.str (val i) t)=true by unfold Value.isStrOf;simp) ?_))
  refine Ln (s:={ s with heap:=g,toks:=tk+1 }) z' (fun h1=>⟨(hta _ t #[15] h1).1,cX (hta _ t #[15] h1).2⟩) #[0] fun _ g2 sb z2=>?_
  refine ay ⟨fH fz _,ih (i+1) _ #[0] hlt (aN hn0 (iG ms)) (W.frame _ _ _ bh fun b hb o e=>?_) ?_ fun g3 tk3 hle3 hM3 kp3=>?_⟩
  ·rw[sb.2 b (fun h:b=S=>Wg (by rw[<- h];exact hb))];exact e
  ·refine⟨_,z2,?_,fun x=>?_,?_⟩
   ·by_cases hx:val i∈ks
    ·rw[aK hx];exact nd
    ·rw[aU hx];exact nn.mpr ⟨nd,by simp,fun a ha b hb=>by rw[aZ]at hb;subst hb;exact fun e=>hx (e▸ha)⟩
   ·by_cases hx:val i∈ks
    ·rw[aK hx,mem x]
     constructor
     ·rintro⟨j,hj,e⟩;exact⟨j,by omega,e⟩
     ·rintro⟨j,hj,e⟩
      by_cases hji:j=i
      ·subst hji;subst e;exact(mem _).mp hx
      ·exact⟨j,by omega,e⟩
    ·rw[aU hx,aV,mem x,aZ]
     constructor
     ·rintro(⟨j,hj,e⟩|e)
      ·exact⟨j,by omega,e⟩
      ·exact⟨i,by omega,e.symm⟩
     ·rintro⟨j,hj,e⟩
      by_cases hji:j=i
      ·subst hji;exact .inr e.symm
      ·exact .inl ⟨j,by omega,e⟩
   ·by_cases hx:val i∈ks
    ·rw[aK hx];omega
    ·rw[aU hx,ai,bu];omega
  ·exact hR g3 tk3 (aN (iG ms) hle3) hM3 fun b o hb hw e=>kp3 b o hb hw ((sb.2 b hb).trans (kp b o hw e))
end
section
variable{w:World}
abbrev d7(w:World):Obj:={ cls:=.type "set",dict:=none,data:=.set #[] 0 (.fresh 0 0 (!vD w)) }
theorem Bj(a:Value){Q₁:Value->Shared->Prop}(h:Q₁ (.ref s.heap.objs.size) { s with heap:=s.heap.push (d7 w) }) :
  codeAny #[6] A (.call (.builtin "set.__new__") ⟨[.type "set",a],[]⟩) (wants Q₁ E) s:=by
 refine codeAny_of_tree ?_
 show wpAny _ A.in1 (do checkBuiltinCall "set.__new__" ⟨[.type "set",a],[]⟩;again (.builtin "set.__new__" ⟨[.type "set",a],[]⟩)) _ _ s
 refine af (wpAny_of_eq (PySem.F.newCall_set_1 a) (ay ⟨fH PySem.F.plain_set_new _,dz PySem.F.entry_set_new ?_⟩))
 rw[c6 PySem.F.plain_set_new _]
 unfold Builtin.«set.__new__» Builtin.Frozenset.newClass
 have sb:=sub_set_self
 obtain⟨hp,g,d,tk,os⟩:=s
 dsimp only
 wp_walk
 refine on (ay ?_)
 dsimp only
 simp only[newObj]
 exact af (wpAny_alloc (ay (ay h)))
set_option maxHeartbeats 8000000 in
theorem nu{T:String}{UJ:Obj}{fp:Addr->List Addr}{n:Nat}{P:Nat->Value->Prop}{St:Addr->Nat->Heap->Prop}{val:Nat->Str}{Q:Value->Shared->Prop}(hT:Shared.TypeIs { s with heap:=s.heap.push (d7 w) } v T)
  (n1:isSubtype (.type T) (.type "set")=pure false) (n2:isSubtype (.type T) (.type "frozenset")=pure false) (n3:(Value.type T==Value.type "dict")=false)
  (qE:∀(A:Around) (E:Value->Shared->Prop) (Q:Value->Shared->Prop),Q (.ref #[7]) { s with heap:=(s.heap.push (d7 w)).push UJ }->wpAny #[6] A (pyIter v) Q E { s with heap:=s.heap.push (d7 w) })
  (W:∀(A:Around) (it:Addr),A.handled=none->it=s.heap.objs.size+1->Walks prog w A it (fp it) [it] n P (St it)) (TV:s.heap.objs.size∉fp #[7]) (st:St #[7] 0 ((s.heap.push (d7 w)).push UJ)) (C0:∀i v,P i v->∃t,v=.str (val i) t)
  (hh:A.handled=none) (hb:n+1<scanBound)
  (CU:∀(A:Around),A.handled=none->∀i (s':Shared) (Q:Option Value->Shared->Prop) (E:Value->Shared->Prop),s.toks<=s'.toks->i<n->St #[7] i s'.heap ->
   (∀v h' tk,s'.toks<=tk->jm tk [v]->P i v->St #[7] (i+1) h'->(∀b o,b∉[s.heap.objs.size+1]->s'.heap.get? b=some o->h'.get? b=some o)->Q (some v) { s' with heap:=h',toks:=tk })->wpAny #[6] A (pyNext (.ref #[7])) Q E s')
  (q:∀g tk,s.toks<=tk->Mw prog w tk val g s.heap.objs.size n->(∀b o,s.heap.get? b=some o->g.get? b=some o)->Q (.ref s.heap.objs.size) { s with heap:=g,toks:=tk }) :
  wpAny #[6] A (call (.type "set") [v]) Q E s:=by
 obtain⟨c,tl,hmro⟩:=PySem.F.called_set.mro
 have hmade:=PySem.F.called_set.made
 have hsub:=PySem.F.called_set.sub
 refine sN (codeAny_of_tree ?_)
 show wpAny _ _ (callAny (.type "set") _) _ _ _
 refine ay ⟨Code.quiet_builtin _ (by decide +kernel),dz PySem.F.entry_type_call ?_⟩
 rw[Around.under_plain (weight_type_call_type "set" [v] []) rfl]
 have h1:=PySem.F.called_set.notType
 have h2:=PySem.F.called_set.canCreate
 have hct:=PySem.F.typeCall_set_1 v
 repeat(any_goals (first|assumption|wp_step))
 refine i' (Bj v (E:=E) (Q₁:=fun obj s₁=>obj=.ref s.heap.objs.size/\s₁={ s with heap:=s.heap.push (d7 w) }) ⟨rfl,rfl⟩) fun r s₁ hr=>?_
 cases r with
 |error e=>exact hr
 |ok fl=>
  cases fl with
  |ret obj=>
   obtain⟨rfl,rfl⟩:=hr
   have gS:(s.heap.push (d7 w)).get? s.heap.objs.size=some (d7 w):=aC _ rfl
   have tS:Shared.TypeIs { s with heap:=s.heap.push (d7 w) } (.ref s.heap.objs.size) "set":=⟨_,gS,rfl⟩
   have hli:=PySem.F.called_set.init.lookup
   have hbi:=PySem.F.called_set.init.bind (.ref s.heap.objs.size)
   repeat(any_goals (first|assumption|wp_step))
   refine i' (lD (R:=wants (fun r s₂=>r=.none/\∃g tk,s₂={ s with heap:=g,toks:=tk }/\s.toks<=tk/\Mw prog w tk val g s.heap.objs.size n/\(∀b o,s.heap.get? b=some o->g.get? b=some o)) E) PySem.F.called_set.init.plain PySem.F.entry_set_init (check_set_init_1 tS ?_)) fun r₂ s₂ hr₂=>?_
   ·unfold Builtin.«set.__init__» noKeywords Builtin.Frozenset.updateFrom
    generalize hPI:pyIter=PI
    wp_walk
    subst hPI
    refine qE _ _ _ (af (qK ?_))
    have g0:((s.heap.push (d7 w)).push UJ).get? s.heap.objs.size=some (d7 w):=aw _ gS
    have m0:Mw prog w s.toks val ((s.heap.push (d7 w)).push UJ) s.heap.objs.size 0:=⟨[],⟨_,#[],0,_,g0,⟨rfl,rfl,rfl⟩,rfl,fun e he=>by simp at he,by simp,by unfold scanBound;decide,rfl,?_⟩,List.nodup_nil,fun x=>by simp,aA _⟩
    ·refine Hq (W _ _ (by simpa using hh) rfl) s.heap.objs.size TV val C0 hb (n0:=s.toks) (CU _ (by simpa using hh)) (n-0) 0 _ rfl (bZ _) (aA _) st m0 fun g tk ms hM kp=>?_
     refine ay (ay ⟨rfl,g,tk,rfl,ms,hM,fun b o e=>kp b o (a9 (aJ e)) (fun hbm=>?_) (aw _ (aw _ e))⟩)
     rw[aZ]at hbm
     exact absurd (aJ e) (by rw[hbm];exact jJ.mpr (bp _))
    ·refine⟨⟨?_,.inl rfl⟩,fun x t hx=>by simp at hx⟩
     show vD w=true\/(!vD w)=true
     cases vD w<;>simp
   ·cases r₂ with
    |error e=>exact hr₂
    |ok fl₂=>
     cases fl₂ with
     |ret r=>
      obtain⟨rfl,g,tk,rfl,ms,hM,kp⟩:=hr₂
      repeat(any_goals (first|assumption|wp_step))
      exact q g tk ms hM kp
     |_=>exact hr₂.elim
  |_=>exact hr.elim
end
theorem r6:∀{l:List α} {i:Nat} (h:i<l.length),(l[i]::l.eraseIdx i).Perm l
 |x::r,0,_=>iT _
 |x::r,i+1,h=>(List.Perm.swap x (r[i]'(by simpa using h)) (r.eraseIdx i)).trans ((r6 (l:=r) (i:=i) (by simpa using h)).cons x)
section
theorem x5{Wy:Source}{Q:Nat->Shared->Prop}(hn:n≠0)(h:∀i,i<n->∀d,Q i { s with drawn:=d }):wpAny M A (choose Wy n) Q E s:=fun _ _ _=>⟨hn,h _ (Nat.mod_lt _ (Nat.pos_of_ne_zero hn)) _⟩
theorem Bk:∀(n:Nat) (xs:List α) (s:Shared) (Q:List α->Shared->Prop),xs.length=n->(∀ys,ys.Perm xs->∀d,Q ys { s with drawn:=d })->wpAny M A (drawOrder n xs) Q E s
 |0,xs,s,Q,hl,h=>by
  have e:xs=[]:=hJ hl
  subst e
  unfold drawOrder
  exact ay (h [] (iT _) s.drawn)
 |n+1,[],s,Q,hl,h=>by simp at hl
 |n+1,x::r,s,Q,hl,h=>by
  unfold drawOrder
  refine af (x5 #[15] fun i hi d=>?_)
  have e:(x::r)[i]?=some (x::r)[i]:=aj hi
  rw[e]
  dsimp only
  refine af (Bk n ((x::r).eraseIdx i) _ _ (by rw[List.length_eraseIdx,aK hi];simp at hl ⊢;omega) fun ys hp d'=>ay (h _ ?_ d'))
  exact(List.Perm.cons _ hp).trans (r6 hi)
theorem EW(next:Nat->Nat):∀(Mn k:Nat) (CM:List α) (out:Array α),CM.length=Mn->(pickOrder.go next Mn k CM out).toList.Perm (out.toList++CM)
 |0,k,CM,out,h=>by
  have e:CM=[]:=hJ h
  subst e
  unfold pickOrder.go
  simp
 |Mn+1,k,CM,out,h=>by
  have hlt:next k%CM.length<CM.length:=Nat.mod_lt _ #[0]
  unfold pickOrder.go
  rw[aj hlt]
  dsimp only
  refine(EW next Mn (k+1) _ _ (by rw[List.length_eraseIdx,aK hlt];omega)).trans ?_
  rw[nj,al]
  exact pZ _ (r6 hlt)
theorem F5(next:Nat->Nat)(xs:Array α):(pickOrder next xs).toList.Perm xs.toList:=by
 unfold pickOrder
 have:=EW next xs.size 0 xs.toList #[] #[15]
 simpa using this
end
noncomputable abbrev rk(f:Value)(i:Int)(S:Addr)(n ep:Nat):Obj:={ cls:=.type "set_iterator",dict:=none,data:=.fields #[f,rawInt i,.ref S,rawInt n,rawInt ep],slots:=#[] }
section
variable{w:World}
theorem wB{Q:Fin->Shared->Prop}(hh:A.handled=none)(q:∀g e,(∀b o,s.heap.get? b=some o->g.get? b=some o)->(∃o,g.get? e=some o/\o.cls=.type "StopIteration")->E (.ref e) { s with heap:=g }) :
  wpAny #[6] A (do let x <- newExc (.type "StopIteration") [];raiseNew x) Q E s:=by
 refine af ?_
 simp only[newExc,newTuple]
 refine af (cD (af (m:=firstArgMember _ _) (wpAny_of_eq (a:=Value.none) (by first|rfl|(simp only[firstArgMember];rfl)) (cD ?_ (by size_fits)))) (by size_fits))
 simp only[raiseNew]
 refine af (wpAny_handled ?_)
 rw[hh]
 exact af (ay (wpAny_throw (q _ _ (fun b o e=>aw _ (aw _ e)) ⟨_,aC _ rfl,rfl⟩)))
structure kA(w:World)(h:Heap)(S:Addr)(es:Array (Int×Value))(ep:Nat)(t:SetTable):Prop where
 ex:∃o,h.get? S=some o/\o.ExactSet/\o.data=.set es ep t
 fits:t.fits es.size=true
theorem kA.keep{S:Addr}{es:Array (Int×Value)}{t:SetTable}(z:kA w h S es ep t)(k:∀o,h.get? S=some o->h'.get? S=some o):kA w h' S es ep t:=⟨let ⟨o,ho,r⟩:=z.ex;⟨o,k o ho,r⟩,z.fits⟩
theorem F6{S p:Addr}{es:Array (Int×Value)}{t:SetTable}{pv:Array Value}{pn:Nat}{x:Int×Value}{Q:Option Value->Shared->Prop}(qE:s.heap.get? it=some (rk (.ref p) i S n ep))(hS:kA w s.heap S es ep t)(hn:es.size=n)
  (hp:∃o,s.heap.get? p=some o/\o.cls=.type "tuple"/\o.data=.seq pv pn) (hk:pv[i]?=some (rawInt k)) (hx:es[k]?=some x)
  (q:∀g,g.get? it=some (rk (.ref p) ((i:Int)+1) S n ep)->Heap.SameBut it s.heap g->Q (some x.2) { s with heap:=g }):wpAny #[6] A (pyNext (.ref it)) Q E s:=by
 obtain⟨o,ho,zo,hd⟩:=hS.ex
 obtain⟨op,hop,hcp,hdp⟩:=hp
 have T:Shared.TypeIs s (.ref it) "set_iterator":=⟨_,qE,rfl⟩
 unfold pyNext
 refine af (iy (bU (name:=Str.ofString "__next__") T eY (cn eY T mY ?_ (mZ _))))
 show wpAny _ _ (fieldsOf (.ref it) >>= _) _ _ s
 refine af (mM qE rfl ?_)
 dsimp only
 refine af (gH ho hd hS.fits ?_)
 rw[aU (by rw[hn];simp)]
 refine af (eD hop hdp ?_)
 simp only[cf,hk]
 unfold setNextDrawn
 refine af (af (gq ho hd hS.fits ?_))
 dsimp only
 rw[aU #[15],cf,hx]
 refine ay (af (cH qE #[15] fun g e1 e2=>ay ⟨_,rfl,ay (q g (by simpa using e1) e2)⟩))
theorem x6{S p:Addr}{es:Array (Int×Value)}{t:SetTable}{pv:Array Value}{pn:Nat}{Q:Option Value->Shared->Prop}(hh:A.handled=none)(qE:s.heap.get? it=some (rk (.ref p) i S n ep))(hS:kA w s.heap S es ep t)(hn:es.size=n)
  (hp:∃o,s.heap.get? p=some o/\o.cls=.type "tuple"/\o.data=.seq pv pn) (hk:pv[i]?=none)
  (q:∀g,(∀b o,b≠it->s.heap.get? b=some o->g.get? b=some o)->Q none { s with heap:=g }):wpAny #[6] A (pyNext (.ref it)) Q E s:=by
 obtain⟨o,ho,zo,hd⟩:=hS.ex
 obtain⟨op,hop,hcp,hdp⟩:=hp
 have T:Shared.TypeIs s (.ref it) "set_iterator":=⟨_,qE,rfl⟩
 unfold pyNext
 refine af (iy (bU (name:=Str.ofString "__next__") T eY (cn eY T mY ?_ (mZ _))))
 show wpAny _ _ (fieldsOf (.ref it) >>= _) _ _ s
 refine af (mM qE rfl ?_)
 dsimp only
 refine af (gH ho hd hS.fits ?_)
 rw[aU (by rw[hn];simp)]
 refine af (eD hop hdp ?_)
 simp only[cf,hk]
 refine af (cH qE #[15] fun g e1 e2=>af (cH e1 #[15] fun g2 e3 e4=>wB (s:={ s with heap:=g2 }) (show A.in1.handled=none from hh) fun g3 e kp hx=>?_))
 obtain⟨ox,hox,hcx⟩:=hx
 refine af (gY (T:="StopIteration") (b:=true) ⟨ox,hox,hcx⟩ mL (ay (q g3 fun b o hb e=>kp b o ?_)))
 exact e4.extBut b o hb (e2.extBut b o hb e)
theorem Hr{S:Addr}{sl sl':Nat}{es:Array (Int×Value)}{t:SetTable}{x:Value}{Q:Option Value->Shared->Prop}(qE:s.heap.get? it=some (rk (rawInt sl) i S n ep))(hS:kA w s.heap S es ep t)(hn:es.size=n)
  (hx:∀(Q':Option (Value×Nat)->Shared->Prop) (E':Value->Shared->Prop),Q' (some (x,sl')) s->wpAny #[6] A.in1 (setNext S sl i ep) Q' E' s)
  (q:∀g,g.get? it=some (rk (rawInt sl') ((i:Int)+1) S n ep)->Heap.SameBut it s.heap g->Q (some x) { s with heap:=g }):wpAny #[6] A (pyNext (.ref it)) Q E s:=by
 obtain⟨o,ho,zo,hd⟩:=hS.ex
 have T:Shared.TypeIs s (.ref it) "set_iterator":=⟨_,qE,rfl⟩
 unfold pyNext
 refine af (iy (bU (name:=Str.ofString "__next__") T eY (cn eY T mY ?_ (mZ _))))
 show wpAny _ _ (fieldsOf (.ref it) >>= _) _ _ s
 refine af (mM qE rfl ?_)
 dsimp only
 refine af (gH ho hd hS.fits ?_)
 rw[aU (by rw[hn];simp)]
 show wpAny _ _ (setNext S (sl:Int).toNat (i:Int).toNat (ep:Int).toNat >>= _) _ _ s
 simp only[cf]
 refine af (hx _ _ ?_)
 dsimp only
 refine af (cH qE #[15] fun g e1 e2=>af (cH e1 #[15] fun g2 e3 e4=>ay ⟨_,rfl,ay (q g2 (by simpa using e3) (e2.trans e4))⟩))
theorem zJ{S:Addr}{sl:Nat}{es:Array (Int×Value)}{t:SetTable}{Q:Option Value->Shared->Prop}(hh:A.handled=none)(qE:s.heap.get? it=some (rk (rawInt sl) i S n ep))(hS:kA w s.heap S es ep t)(hn:es.size=n)
  (hx:∀(Q':Option (Value×Nat)->Shared->Prop) (E':Value->Shared->Prop),Q' none s->wpAny #[6] A.in1 (setNext S sl i ep) Q' E' s)
  (q:∀g,(∀b o,b≠it->s.heap.get? b=some o->g.get? b=some o)->Q none { s with heap:=g }):wpAny #[6] A (pyNext (.ref it)) Q E s:=by
 obtain⟨o,ho,zo,hd⟩:=hS.ex
 have T:Shared.TypeIs s (.ref it) "set_iterator":=⟨_,qE,rfl⟩
 unfold pyNext
 refine af (iy (bU (name:=Str.ofString "__next__") T eY (cn eY T mY ?_ (mZ _))))
 show wpAny _ _ (fieldsOf (.ref it) >>= _) _ _ s
 refine af (mM qE rfl ?_)
 dsimp only
 refine af (gH ho hd hS.fits ?_)
 rw[aU (by rw[hn];simp)]
 show wpAny _ _ (setNext S (sl:Int).toNat (i:Int).toNat (ep:Int).toNat >>= _) _ _ s
 simp only[cf]
 refine af (hx _ _ ?_)
 dsimp only
 refine af (cH qE #[15] fun g e1 e2=>wB (s:={ s with heap:=g }) (show A.in1.handled=none from hh) fun g3 e kp hx=>?_)
 obtain⟨ox,hox,hcx⟩:=hx
 exact af (gY (T:="StopIteration") (b:=true) ⟨ox,hox,hcx⟩ mL (ay (q g3 fun b o hb e=>kp b o (e2.extBut b o hb e))))
end
theorem vi:Slot "set_iterator" "__iter__" "set_iterator.__iter__":=.of (owner:="set_iterator") (n:="__iter__") (by rw[typeLookup_type,pY];kernel_rfl) (by decide +kernel) (by decide +kernel) (by decide +kernel) (by first|exact .inl (by decide +kernel)|exact .inr (by decide +kernel)) (by rw[eF];kernel_rfl)
theorem Bm(a:Value):argsOk "set_iterator.__iter__" ⟨[a],[]⟩:=by unfold argsOk;kernel_rfl
theorem Bn:entryFor table "set_iterator.__iter__"=some Builtin.«dict_keyiterator.__iter__»:=entryFor_alias (id':="dict_keyiterator.__iter__") (by kernel_rfl) (by first|rfl|decide +kernel|(unfold String.splitOn;simp +decide [String.splitOnAux])) (by decide +kernel) (by kernel_rfl)
section
variable{w:World}
theorem Bo{S:Addr}{f:Value}{i:Int}(qE:s.heap.get? it=some (rk f i S n ep))(q:Q (.ref it) s):wpAny #[6] A (pyIter (.ref it)) Q E s:=by
 have T:Shared.TypeIs s (.ref it) "set_iterator":=⟨_,qE,rfl⟩
 exact wpAny_pyIter_slot T vi (cn vi T Bn (ay ⟨_,rfl,"set_iterator",_,T,eY.lookup,q⟩) (Bm _))
theorem Dv(hh:A.handled=none){S p:Addr}{ep:Nat}{es:Array (Int×Value)}{t:SetTable}{pl:List Nat}(ou:pl.Perm (List.range n))(hn:es.size=n)(h1:it≠S)(h2:it≠p) :
  Walks prog w A it [it,p,S] [it] n (fun i v=>∃k x,pl[i]?=some k/\es[k]?=some x/\v=x.2) (fun i h=>i<=n/\h.get? it=some (rk (.ref p) i S n ep)/\(∃o,h.get? p=some o/\o.cls=.type "tuple"/\∃e,o.data=.seq (pl.map fun k:Nat=>rawInt k).toArray e)/\kA w h S es ep t) where
 sub:=fun b hb=>by simp at hb;simp[hb]
 frame:=fun i h h' st k=>⟨st.1,k it #[15] _ st.2.1,(let ⟨o,ho,r⟩:=st.2.2.1;⟨o,k p #[15] o ho,r⟩),st.2.2.2.keep fun o ho=>k S #[15] o ho⟩
 item:=fun i s Q E hi st q=>by
  obtain⟨_,qE,⟨op,hop,hcp,e,hdp⟩,hS⟩:=st
  have hl:pl.length=n:=by have:=ou.length_eq;simpa using this
  have hk:pl[i]?=some pl[i]:=aj #[0]
  have hkn:pl[i]<es.size:=by rw[hn];exact mF.mp (ou.mem_iff.mp (dS #[0]))
  refine F6 qE hS hn ⟨op,hop,hcp,hdp⟩ (k:=pl[i]) (x:=es[pl[i]]) (by simp[hk]) (by simp[hkn]) fun g a b=>q _ g s.toks ⟨pl[i],es[pl[i]],hk,by simp[hkn],rfl⟩ ⟨hi,?_,⟨op,b.extBut p op (Ne.symm h2) hop,hcp,e,hdp⟩,hS.keep fun o ho=>b.extBut S o (Ne.symm h1) ho⟩ fun c o hc ho=>b.extBut c o (fun z=>hc (by simp[z])) ho
  rw[a];rfl
 done:=fun s Q E st q=>by
  obtain⟨_,qE,⟨op,hop,hcp,e,hdp⟩,hS⟩:=st
  have hl:pl.length=n:=by have:=ou.length_eq;simpa using this
  exact x6 hh qE hS hn ⟨op,hop,hcp,hdp⟩ (by simp[hl]) fun g kp=>q g s.toks fun c o hc ho=>kp c o (fun z=>hc (by simp[z])) ho
 self:=fun i s Q E st q=>Bo st.2.1 q
theorem F7(hh:A.handled=none){S:Addr}{ep:Nat}{es:Array (Int×Value)}{t:SetTable}{vs:List Value}{sl:Nat->Nat}(hv:vs.length=n)(hn:es.size=n)(h1:it≠S)
  (hx:∀(s:Shared) (i:Nat),kA w s.heap S es ep t->i<=n->∀(A:Around) (Q':Option (Value×Nat)->Shared->Prop) (E':Value->Shared->Prop),Q' ((vs[i]?).map fun v=>(v,sl (i+1))) s->wpAny #[6] A (setNext S (sl i) i ep) Q' E' s) :
  Walks prog w A it [it,S] [it] n (fun i v=>vs[i]?=some v) (fun i h=>i<=n/\h.get? it=some (rk (rawInt (sl i)) i S n ep)/\kA w h S es ep t) where
 sub:=fun b hb=>by simp at hb;simp[hb]
 frame:=fun i h h' st k=>⟨st.1,k it #[15] _ st.2.1,st.2.2.keep fun o ho=>k S #[15] o ho⟩
 item:=fun i s Q E hi st q=>by
  obtain⟨_,qE,hS⟩:=st
  have hk:vs[i]?=some vs[i]:=aj #[0]
  refine Hr (x:=vs[i]) (sl':=sl (i+1)) qE hS hn (fun Q' E' y=>hx s i hS (gp hi) _ Q' E' (by rw[hk];exact y)) fun g a b=>q _ g s.toks hk ⟨hi,?_,hS.keep fun o ho=>b.extBut S o (Ne.symm h1) ho⟩ fun c o hc ho=>b.extBut c o (fun z=>hc (by simp[z])) ho
  rw[a];rfl
 done:=fun s Q E st q=>by
  obtain⟨_,qE,hS⟩:=st
  have hk:vs[n]?=none:=bE #[0]
  exact zJ hh qE hS hn (fun Q' E' y=>hx s n hS (aA _) _ Q' E' (by rw[hk];exact y)) fun g kp=>q g s.toks fun c o hc ho=>kp c o (fun z=>hc (by simp[z])) ho
 self:=fun i s Q E st q=>Bo st.2.1 q
end
section
variable{w:World}
theorem qR{Q:Bool->Shared->Prop}(q:Q (vD w) s):wpAny #[6] A setsByText Q E s:=by
 unfold setsByText
 exact af (on (ay q))
theorem F8{S:Addr}{es:Array (Int×Value)}{t:SetTable}{Q:Option (Value×Nat)->Shared->Prop}(hb:vD w=true)(hS:kA w s.heap S es ep t)
  (q:Q ((((pickOrder (w.params.setOrder S ep) es).toList.map (·.2))[i]?).map fun v=>(v,0)) s):wpAny #[6] A (setNext S 0 i ep) Q E s:=by
 obtain⟨o,ho,zo,hd⟩:=hS.ex
 unfold setNext
 refine af (gq ho hd hS.fits ?_)
 dsimp only
 refine af (qR ?_)
 rw[hb,aK rfl,aU #[15]]
 unfold setWalk
 refine af (af (gq ho hd hS.fits ?_))
 dsimp only
 refine af (qR ?_)
 rw[hb,aK rfl]
 refine af (on (ay (ay ?_)))
 have e:((pickOrder (w.params.setOrder S ep) es)[i]?).map (fun e=>(e.2,0))=(((pickOrder (w.params.setOrder S ep) es).toList.map (·.2))[i]?).map fun v=>(v,0):=by
  rw[aG,fT,Option.map_map];rfl
 show Q (((pickOrder (w.params.setOrder S ep) es)[i]?).map fun e=>(e.2,0)) s
 rw[e];exact q
theorem yN(p:Nat):SetTable.below #[p] 0=0/\SetTable.below #[p] (p+1)=1:=by
 unfold SetTable.below
 constructor
 ·simp[SetTable.below.go]
 ·simp[SetTable.below.go]
theorem Hs{S:Addr}{es:Array (Int×Value)}{t:SetTable}{Q:Option (Value×Nat)->Shared->Prop}(hb:vD w=false)(hS:kA w s.heap S es ep t)(QW:t.led=true)(h1:es.size<=1)(hi:i<=es.size)
  (q:Q (((es.toList.map (·.2))[i]?).map fun v=>(v,if i+1=0 then 0 else t.place.getD 0 0+1)) s):wpAny #[6] A (setNext S (if i=0 then 0 else t.place.getD 0 0+1) i ep) Q E s:=by
 obtain⟨o,ho,zo,hd⟩:=hS.ex
 have hf:=hS.fits
 have hps:t.place.size=es.size:=by
  unfold SetTable.fits at hf
  simp only[dD,dv]at hf
  exact hf.1
 unfold setNext
 refine af (gq ho hd hS.fits ?_)
 dsimp only
 refine af (qR ?_)
 rw[hb,aU eV]
 show wpAny _ _ (if (!t.plain&&decide (es.size>1))=true then _ else _) _ _ _
 rw[aU (by simp;omega)]
 show wpAny _ _ ((if (!t.led&&!es.isEmpty)=true then _ else pure ()) >>= _) _ _ _
 rw[aU (by simp[QW])]
 refine af (ay (ay ?_))
 by_cases hz:es.size=0
 ·have e1:es=#[]:=gW hz
  subst e1
  simpa using q
 ·have hs1:es.size=1:=by omega
  obtain⟨x,rfl⟩:∃x,es=#[x]:=by
   obtain⟨l⟩:=es
   obtain⟨x,e⟩:=ia.mp hs1
   exact⟨x,il Array.mk e⟩
  obtain⟨p,hp⟩:∃p,t.place=#[p]:=by
   generalize t.place=pl at hps
   obtain⟨l⟩:=pl
   obtain⟨x,e⟩:=ia.mp hps
   exact⟨x,il Array.mk e⟩
  rw[hp]at q ⊢
  rcases(show i=0\/i=1 by simp at hi;omega)with rfl|rfl
  ·simp[yN]at q ⊢;exact q
  ·simp[yN]at q ⊢;exact q
end
theorem zK[Inhabited β](f:Nat->β)(xs:List α)(g:α->β)(n:Nat)(hn:xs.length=n)(hf:∀i x,xs[i]?=some x->f i=g x):(List.range n).map f=xs.map g:=by
 apply iJ
 intro i
 rw[aG,aG]
 by_cases h:i<n
 ·rw[gI h,aj #[0]]
  exact il some (hf i _ (aj #[0]))
 ·rw[bE (by simp;omega),bE #[0]];rfl
section
variable{w:World}
theorem Ht{S:Addr}{es:Array (Int×Value)}{t:SetTable}(hS:kA w s.heap S es ep t)(KJ:EV w es.size t)(AL:es.size<=sizeLine)
  (q:∀(g:Heap) (d:Drawn) (it:Addr) (fp:List Addr) (P:Nat->Value->Prop) (St:Nat->Heap->Prop),(∀A:Around,A.handled=none->Walks prog w A it fp [it] es.size P St)->St 0 g->s.heap.objs.size<=it->(∀b∈fp,b=S\/s.heap.objs.size<=b)->(∀b∈fp,b<g.objs.size)->(∀b o,s.heap.get? b=some o->g.get? b=some o) ->
   (∀ju,ItemsOf P ju es.size->ju.toList.Perm (es.toList.map (·.2)))->Q (.ref it) { s with heap:=g,drawn:=d }):wpAny #[6] A (pyIter (.ref S)) Q E s:=by
 obtain⟨o,ho,zo,hd⟩:=hS.ex
 have T:Shared.TypeIs s (.ref S) "set":=⟨o,ho,zo.1⟩
 have hSlt:=aJ ho
 refine wpAny_pyIter_slot T PySem.F.slot_set_iter (cn PySem.F.slot_set_iter T Bg ?_ (PySem.F.args_set_iter_1 _))
 show wpAny _ _ (Builtin.Frozenset.sizeOf S >>= _) _ _ s
 unfold Builtin.Frozenset.sizeOf
 refine af (af (gH ho hd hS.fits (ay ?_)))
 unfold setDrawn
 refine af (af (gq ho hd hS.fits ?_))
 dsimp only
 refine af (qR (ay ?_))
 by_cases hdr:(!vD w&&(!t.plain&&decide (es.size>1)))=true
 ·show wpAny _ _ (if (!vD w&&(!t.plain&&decide (es.size>1)))=true then _ else _) _ _ _
  rw[aK hdr]
  refine af (Bk es.size (List.range es.size) _ _ #[15] fun pl hp d=>?_)
  have hl:pl.length=es.size:=by have:=hp.length_eq;simpa using this
  refine af (wpAny_newTuple ?_ (by rw[aE,hl];exact AL))
  have hS1:kA w (s.heap.push { cls:=.type "tuple",data:=.seq (pl.map fun i:Nat=>rawInt i).toArray }) S es ep t:=hS.keep fun o e=>aw _ e
  obtain⟨o1,ho1,_,hd1⟩:=hS1.ex
  refine af (wpAny_setEpoch_of (s:={ s with heap:=s.heap.push { cls:=.type "tuple",data:=.seq (pl.map fun i:Nat=>rawInt i).toArray },drawn:=d }) ho1 hd1 hS.fits ?_)
  refine af (cD (ay ⟨_,rfl,"set_iterator",_,⟨_,aC _ rfl,rfl⟩,eY.lookup,?_⟩))
  have z:(s.heap.push { cls:=.type "tuple",data:=.seq (pl.map fun i:Nat=>rawInt i).toArray }).objs.size=s.heap.objs.size+1:=bx ..
  refine q _ d _ [_,s.heap.objs.size,S] _ _ (fun A hA=>Dv (p:=s.heap.objs.size) (t:=t) (ep:=ep) hA hp rfl ?_ ?_) ⟨bZ _,aC _ rfl,⟨_,aw _ (aC _ rfl),rfl,0,rfl⟩,hS1.keep fun o e=>aw _ e⟩ ?_ (fun b hb=>?_) (fun b hb=>?_) (fun b o e=>aw _ (aw _ e)) fun ju hacc=>?_
  ·rw[z];exact eu (cX hSlt)
  ·rw[z];exact Nat.succ_ne_self _
  ·rw[z];exact bp _
  ·simp only[aX,eW,mO]at hb
   rcases hb with rfl|rfl|rfl
   ·rw[z];exact .inr (bp _)
   ·exact .inr (aA _)
   ·exact .inl rfl
  ·simp only[aX,eW,mO]at hb
   have z2:∀o2,((s.heap.push { cls:=.type "tuple",data:=.seq (pl.map fun i:Nat=>rawInt i).toArray }).push o2).objs.size=s.heap.objs.size+2:=fun o2=>by rw[bx,z]
   rw[z2]
   rcases hb with rfl|rfl|rfl
   ·rw[z];exact ce _
   ·exact cX (ce _)
   ·exact cX (cX hSlt)
  ·have e:ju.toList=pl.map fun k=>(es.getD k (0,.none)).2:=by
    apply iJ
    intro i
    rw[aG]
    by_cases hi:i<es.size
    ·have hia:i<ju.size:=by rw[hacc.1];exact hi
     have ha:ju[i]?=some (ju[i]'hia):=eQ hia
     obtain⟨k,x,h1,h2,h3⟩:=hacc.2 i _ ha
     rw[fT,ha,h1]
     have:es.getD k (0,.none)=x:=by rw[mh,h2];rfl
     rw[h3]
     show some x.2=some (es.getD k (0,.none)).2
     rw[this]
    ·rw[bE (by rw[eG,hacc.1];omega),bE #[0]];rfl
   rw[e]
   refine(hp.map _).trans (List.Perm.of_eq ?_)
   exact zK _ es.toList (·.2) es.size #[15] fun i x hx=>by
    have hx':es[i]?=some x:=by rw[<- fT];exact hx
    rw[mh,hx'];rfl
 ·show wpAny _ _ (if (!vD w&&(!t.plain&&decide (es.size>1)))=true then _ else _) _ _ _
  rw[aU hdr]
  refine af (ay (af (wpAny_setEpoch_of ho hd hS.fits ?_)))
  refine af (cD (ay ⟨_,rfl,"set_iterator",_,⟨_,aC _ rfl,rfl⟩,eY.lookup,?_⟩))
  have kT:∀(vs:List Value) (sl:Nat->Nat),sl 0=0->vs.Perm (es.toList.map (·.2))->(∀(s:Shared) (i:Nat),kA w s.heap S es ep t->i<=es.size->∀(A:Around) (Q':Option (Value×Nat)->Shared->Prop) (E':Value->Shared->Prop),Q' ((vs[i]?).map fun v=>(v,sl (i+1))) s->wpAny #[6] A (setNext S (sl i) i ep) Q' E' s) ->
    Q (.ref s.heap.objs.size) { s with heap:=s.heap.push (rk (rawInt 0) 0 S es.size ep) }:=fun vs sl h0 hp hx=>by
   have hl:vs.length=es.size:=by have:=hp.length_eq;simpa using this
   refine q _ s.drawn s.heap.objs.size [s.heap.objs.size,S] _ _ (fun A hA=>F7 (t:=t) (ep:=ep) (vs:=vs) (sl:=sl) hA hl rfl (eu hSlt) hx) ⟨bZ _,?_,hS.keep fun o e=>aw _ e⟩ (aA _) (fun b hb=>?_) (fun b hb=>?_) (fun b o e=>aw _ e) fun ju hacc=>?_
   ·rw[h0];exact aC _ rfl
   ·simp only[aX,eW,mO]at hb
    rcases hb with rfl|rfl
    ·exact .inr (aA _)
    ·exact .inl rfl
   ·simp only[aX,eW,mO]at hb
    rw[bx]
    rcases hb with rfl|rfl
    ·exact ce _
    ·exact cX hSlt
   ·have e:ju.toList=vs:=by
     apply iJ
     intro i
     by_cases hi:i<es.size
     ·have hia:i<ju.size:=by rw[hacc.1];exact hi
      have ha:ju[i]?=some (ju[i]'hia):=eQ hia
      rw[fT,ha,hacc.2 i _ ha]
     ·rw[bE (by rw[eG,hacc.1];omega),bE #[0]]
    rw[e];exact hp
  cases hb:vD w with
  |true=>exact kT ((pickOrder (w.params.setOrder S ep) es).toList.map (·.2)) (fun _=>0) rfl ((F5 _ _).map _) fun s i hS' hi A Q' E' y=>F8 hb hS' y
  |false=>
   have h1:es.size<=1:=by
    rcases KJ.2 with z|z
    ·omega
    ·rw[hb,z]at hdr;simp at hdr;omega
   have QW:t.led=true:=KJ.1.resolve_left (by rw[hb];exact eV)
   exact kT (es.toList.map (·.2)) (fun i=>if i=0 then 0 else t.place.getD 0 0+1) rfl (iT _) fun s i hS' hi A Q' E' y=>Hs hb hS' QW h1 hi y
end
section
variable{w:World}
theorem Hu{S:Addr}{Q:Bool->Shared->Prop}(T:s.TypeIs (.ref S) "set")(q:Q false s):wpAny #[6] A (Builtin.List.listLengthHint (.ref S)) Q E s:=by
 unfold Builtin.List.listLengthHint
 refine af (wpAny_specialOf T PySem.F.slot_set_len.lookup ?_)
 generalize hid:("set.__len__":String)=id0
 wp_delta
 rw[show splitId id0=some ("set","__len__")from by subst hid;decide +kernel]
 subst hid
 refine af (gY (T:="set") (b:=true) T (by rw[eF];kernel_rfl) ?_)
 refine pQ (fun y=>absurd y #[3]) (fun _=>pQ (fun _=>?_) (fun y=>absurd (by decide +kernel) y))
 exact af (ja T (ay q))
theorem Bp{S:Addr}{es:Array (Int×Value)}{t:SetTable}{Q:List Value->Shared->Prop}(hS:kA w s.heap S es ep t)(KJ:EV w es.size t)(AL:es.size<=sizeLine)(hh:A.handled=none)
  (q:∀(g:Heap) (d:Drawn) (tk:Nat) (vs:List Value),(∀b o,s.heap.get? b=some o->g.get? b=some o)->vs.Perm (es.toList.map (·.2))->Q vs { s with heap:=g,drawn:=d,toks:=tk }):wpAny #[6] A (collect (.ref S)) Q E s:=by
 obtain⟨o,ho,zo,hd⟩:=hS.ex
 have hSlt:=aJ ho
 unfold collect
 refine af (qK (dz entry_proto_collect' ?_))
 rw[c6 PySem.F.plain_proto_collect _]
 show wpAny _ A.in1 (newList [] >>= fun l=>again (.builtin "list.__iadd__" ⟨[l,.ref S],[]⟩)) _ _ s
 refine af (cD (ay ⟨fH PySem.F.plain_list_iadd _,dz entry_list_iadd' ?_⟩))
 rw[c6 PySem.F.plain_list_iadd _]
 generalize hL:s.heap.objs.size=L
 have gL:(s.heap.push { cls:=.type "list",data:=.seq ([]:List Value).toArray }).get? L=some { cls:=.type "list",data:=.seq #[] }:=by rw[<- hL];exact aC _ rfl
 have hS1:kA w (s.heap.push { cls:=.type "list",data:=.seq ([]:List Value).toArray }) S es ep t:=hS.keep fun o e=>aw _ e
 have z1:(s.heap.push { cls:=.type "list",data:=.seq ([]:List Value).toArray }).objs.size=L+1:=by rw[bx,hL]
 have kp1:∀b o,s.heap.get? b=some o->(s.heap.push { cls:=.type "list",data:=.seq ([]:List Value).toArray }).get? b=some o:=fun b o e=>aw _ e
 have bL:∀b o,s.heap.get? b=some o->b≠L:=fun b o e=>by rw[<- hL];exact a9 (aJ e)
 generalize s.heap.push { cls:=.type "list",data:=.seq ([]:List Value).toArray }=h1 at gL hS1 z1 kp1 ⊢
 have Fx:L≠S:=by rw[<- hL];exact eu hSlt
 obtain⟨o1,ho1,hex1,hd1⟩:=hS1.ex
 have T:Shared.TypeIs { s with heap:=h1 } (.ref S) "set":=⟨o1,ho1,hex1.1⟩
 show wpAny _ A.in1 (Builtin.List.listExtendWith (.ref L) (.ref S) (.ref L)) _ _ _
 unfold Builtin.List.listExtendWith
 refine af (ja (T:="set") T ?_)
 have e1:Builtin.List.listSameRef (.ref L) (.ref S)=false:=by simp[Builtin.List.listSameRef,Fx]
 have e2:(Value.type "set" == Value.type "list")=false:=by decide
 have e3:(Value.type "set" == Value.type "tuple")=false:=by decide
 simp only[e1,e2,e3,nI,fQ,gX]
 refine af (Ht (s:={ s with heap:=h1 }) hS1 KJ AL fun g d it fp P St W st qE TV hfl kp2 hperm=>?_)
 have gL2:=kp2 _ _ gL
 have hLf:L∉fp:=fun hm=>by
  rcases TV L hm with y|y
  ·exact Fx y
  ·rw[show Shared.heap { s with heap:=h1 }=h1 from rfl,z1]at y;exact absurd y (Nat.not_le.mpr (ce _))
 obtain⟨o2,ho2,hex2,hd2⟩:=(hS1.keep fun o e=>kp2 S o e).ex
 refine af (dw (Hu (s:={ s with heap:=g,drawn:=d }) ⟨o2,ho2,hex2.1⟩ ?_))
 have itL:it≠L:=fun y=>by
  have:=qE
  rw[show Shared.heap { s with heap:=h1 }=h1 from rfl,z1,y]at this
  exact absurd this (Nat.not_le.mpr (ce _))
 have old:∀b o,s.heap.get? b=some o->b≠it:=fun b o e y=>by
  have h2:=aJ (kp1 b o e)
  have h3:=qE
  rw[show Shared.heap { s with heap:=h1 }=h1 from rfl]at h3
  rw[y]at h2
  exact absurd h2 (jJ.mpr h3)
 have key:∀(g':Heap) (c tk:Nat),St 0 g'->(∀b o,b≠L->g.get? b=some o->g'.get? b=some o)->g'.get? L=some { cls:=.type "list",data:=.seq #[] c } ->
   codeAny #[6] A (.builtin "list.extend.loop" ⟨[.ref L,.ref it,.ref L],[]⟩) (wants (fun r s'=>wpAny #[6] A (match r with|.ref a=>(do match (<- load a).data with|.seq xs _=>pure xs.toList|_=>unsupported "internal:collect")|_=>unsupported "internal:collect") Q E s') E) { s with heap:=g',drawn:=d,toks:=tk }:=by
  intro g' c tk bh kp3 gL3
  refine codeAny_extend_loopS (W A.in1 (by simpa using hh)).toS AL L hLf (.ref L) es.size 0 _ #[] c rfl (bZ _) bh gL3 (ItemsOf.nil _) fun s' ju c' hm gL4 hacc=>?_
  have ee:s'={ s with heap:=s'.heap,drawn:=d,toks:=s'.toks }:=by
   have h1:=hm.gens
   have h2:=hm.drawn
   have h3:=hm.os
   cases s'
   simp only at h1 h2 h3
   subst h1;subst h2;subst h3;rfl
  refine af (wpAny_load gL4 (ay ?_))
  rw[ee]
  refine q s'.heap d s'.toks ju.toList (fun b o e=>hm.heap b o (fun y=>?_) (kp3 b o (bL b o e) (kp2 b o (kp1 b o e)))) (hperm ju hacc)
  rcases aX.mp y with y|y
  ·exact bL b o e y
  ·exact old b o e (aZ.mp y)
 refine pQ (fun _=>?_) (fun _=>ay ⟨fH PySem.F.plain_extend_loop _,key g 0 _ st (fun _ _ _ e=>e) gL2⟩)
 refine af (kX (af ?_))
 show wpAny _ _ (updateSeq L (·.push .none) >>= fun _=>updateSeq L (·.pop)) _ _ _
 refine af (pR gL2 rfl ?_)
 have g5:=dI (Obj.mapSeq (·.push Value.none)) gL2 rfl
 refine pR (hz:=by seq_fits) g5 rfl ?_
 have g6:=dI (Obj.mapSeq (·.pop)) g5 rfl
 refine ay ⟨fH PySem.F.plain_extend_loop _,key _ _ _ ((W A hh).frame 0 _ _ st fun b hb o e=>?_) (fun b o hb e=>?_) g6⟩
 ·have hbL:b≠L:=fun y=>hLf (y▸hb)
  exact(cN _ _ (Ne.symm hbL)).trans ((cN _ _ (Ne.symm hbL)).trans e)
 ·exact(cN _ _ (Ne.symm hb)).trans ((cN _ _ (Ne.symm hb)).trans e)
end
end L2
namespace L2
open PySem PySem.Spec PyProof.Rows
section
variable{w:World}
theorem Dw{S:Addr}(z:wA prog w n s.heap S ks)(NK:ks.length<64)(hh:A.handled=none)
  (q:∀(g0 g1:Heap) (d:Drawn) (tk:Nat) (out:Array Value) (ss:List Str) (e:Nat),(∀b o,s.heap.get? b=some o->g0.get? b=some o)->(∀b o,g0.get? b=some o->g1.get? b=some o)->g1.get? g0.objs.size=some (seqObj "list" out e) ->
   jm n out.toList->StrsAre out.toList ss->ss.Perm ks->sortedS ss=true->Q (.ref g0.objs.size) { s with heap:=g1,drawn:=d,toks:=tk }):wpAny #[6] A (call (.builtin "sorted") [.ref S]) Q E s:=by
 obtain⟨o,es,ep,t,ho,zo,hd,hel,hp,hb,hf,KJ,hta⟩:=z
 have hS:kA w s.heap S es ep t:=⟨⟨o,ho,zo,hd⟩,hf⟩
 have gC:es.size=ks.length:=by have:=hp.length_eq;simpa using this
 apply mV kind_sorted plain_sorted entry_sorted (args_sorted1 _)
 show wpAny _ _ (checkCount "sorted" 1 1 _ >>= _) _ _ _
 refine af (ay (af (Bp hS KJ (by rw[lv];omega) (by simpa using hh) fun g d tk vs kp pv=>?_)))
 have hv:∀v∈vs,∃x t,v=Value.str x t:=fun v hv=>by
  obtain⟨e,he,rfl⟩:=c8.mp (pv.mem_iff.mp hv)
  obtain⟨t,ht⟩:=Bi hel e he
  exact⟨_,t,ht⟩
 have oZ:=strsAre_map vs hv
 have hks:(vs.map strOf).Perm ks:=by
  refine(pv.map strOf).trans ?_
  rw[cq];exact hp
 have hvl:vs.length<64:=by have:=hks.length_eq;rw[aE]at this;omega
 refine af (wpAny_newList ?_ (by rw[lv];omega))
 have oL:(g.push (seqObj "list" vs.toArray 0)).get? g.objs.size=some (seqObj "list" vs.toArray 0):=aC _ rfl
 refine af (dw (cn slot_list_sort ⟨_,oL,rfl⟩ entry_list_sort (list_sort_treeK rW oL oZ.keysOf (fun a b r e=>ug (by rw[<- e];exact oZ)) hvl fun st a1 a2=>⟨_,rfl,?_⟩) (args_list_sort _)))
 obtain⟨ss,h1,h2,h3⟩:=qJ oZ a1 a2
 obtain⟨e,he⟩:=sortedHeap_at (out:=(arrOf st).map (·.2)) oL
 refine ay ⟨_,rfl,q g _ d tk _ ss e kp (fun b o hb=>?_) he (fun x t hx=>hta x t (pv.mem_iff.mp (wz a1 _ hx))) h1 (h2.trans hks) h3⟩
 rw[sortedHeap_old (a9 (aJ hb)) (by rw[bx];exact cX (aJ hb))]
 exact aw _ hb
noncomputable abbrev R0(ty:String)(x:Str)(t:Tok):Obj:={ cls:=.type ty,data:=.fields #[.str x t,.int 0 0] }
theorem Hv{t:Tok}(yw:0<s.toks)(hh:A.handled=none)(hb:l.length+1<scanBound)
  (q:∀g tk,s.toks<=tk->Mw prog w tk (fun j=>tx [l.getD j 0]) g s.heap.objs.size l.length->(∀b o,s.heap.get? b=some o->g.get? b=some o)->Q (.ref s.heap.objs.size) { s with heap:=g,toks:=tk }):wpAny #[6] A (call (.type "set") [.str (tx l) t]) Q E s:=by
 have z:(s.heap.push (d7 w)).objs.size=s.heap.objs.size+1:=bx ..
 have hn:(tx l).cps.size=l.length:=by simp[tx]
 have C0:∀i v,SignAt (tx l) i v->∃t,v=Value.str (tx [l.getD i 0]) t:=by
  rintro i v ⟨c,u,hc,rfl⟩
  have:l[i]?=some c:=by simpa[tx]using hc
  exact⟨u,by rw[aI,this];rfl⟩
 have hT:Shared.TypeIs { s with heap:=s.heap.push (d7 w) } (.str (tx l) t) "str":=mJ _ _ _
 rw[<- hn]at hb q
 cases ha:(tx l).cps.all (· < 128)
 ·refine nu (T:="str") (fp:=fun it=>[it]) (P:=SignAt (tx l)) (St:=fun it i h=>h.IsStrIter it "str_iterator" (tx l) t i) hT (by rw[eF];kernel_rfl) (by rw[eF];kernel_rfl) #[3]
   (fun A E Q y=>nh ha (by show Q (.ref (s.heap.push (d7 w)).objs.size) _;rw[z];exact y)) (fun A it hA _=>Walks.strWide hA it (tx l) t) #[15] ⟨R0 "str_iterator" (tx l) t,?_,rfl,rfl⟩ C0 hh hb (fun A hA i s' Q E hn hi st q=>by
    obtain⟨c,hx⟩:∃c,(tx l).cps[i]?=some c:=⟨_,eQ hi⟩
    refine kj st hx fun h' bh hs=>q _ h' (s'.toks+1) (bp _) (fun x u hx' _=>?_) ⟨c,_,hx,rfl⟩ bh fun b o hb e=>hs.extBut b o (fun z=>hb (by simp[z])) e
    rw[aZ]at hx'
    cases hx'
    exact⟨aL yw hn,ce _⟩) q
  rw[<- z];exact aC _ rfl
 ·refine nu (T:="str") (fp:=fun it=>[it]) (P:=SignAt (tx l)) (St:=fun it i h=>h.IsStrIter it "str_ascii_iterator" (tx l) t i) hT (by rw[eF];kernel_rfl) (by rw[eF];kernel_rfl) #[3]
   (fun A E Q y=>mK ha (by show Q (.ref (s.heap.push (d7 w)).objs.size) _;rw[z];exact y)) (fun A it hA _=>Walks.strAscii hA it (tx l) t) #[15] ⟨R0 "str_ascii_iterator" (tx l) t,?_,rfl,rfl⟩ C0 hh hb (fun A hA i s' Q E hn hi st q=>by
    obtain⟨c,hx⟩:∃c,(tx l).cps[i]?=some c:=⟨_,eQ hi⟩
    refine jT st hx fun h' bh hs=>q _ h' (s'.toks+1) (bp _) (fun x u hx' _=>?_) ⟨c,_,hx,rfl⟩ bh fun b o hb e=>hs.extBut b o (fun z=>hb (by simp[z])) e
    rw[aZ]at hx'
    cases hx'
    exact⟨aL yw hn,ce _⟩) q
  rw[<- z];exact aC _ rfl
theorem Lo{a:Addr}(hh:A.handled=none)(hb:l.length+1<scanBound)(ht:s.heap.IsTuple a bO.toArray)(hv:cL s.toks (jY l) bO)
  (q:∀g tk,s.toks<=tk->Mw prog w tk (fun j=>tx [l.getD j 0]) g s.heap.objs.size l.length->(∀b o,s.heap.get? b=some o->g.get? b=some o)->Q (.ref s.heap.objs.size) { s with heap:=g,toks:=tk }):wpAny #[6] A (call (.type "set") [.ref a]) Q E s:=by
 have z:(s.heap.push (d7 w)).objs.size=s.heap.objs.size+1:=bx ..
 have hn:bO.toArray.size=l.length:=by have:=hv.length;unfold jY at this;simpa using this.symm
 have ha:a<s.heap.objs.size:=by obtain⟨o,ho,_⟩:=ht;exact aJ ho
 have Rb:(s.heap.push (d7 w)).IsTuple a bO.toArray:=ht.at fun o e=>aw _ e
 have C0:∀i v,bO.toArray[i]?=some v->∃t,v=Value.str (tx [l.getD i 0]) t:=by
  intro i v hi
  have hi':bO[i]?=some v:=by simpa using hi
  have hlt:i<l.length:=by
   have:=(ax.mp hi').1
   rw[<- hn];simpa using this
  have hx:(jY l)[i]?=some (.str (tx [l.getD i 0])):=by
   unfold jY
   rw[aG,aj hlt,aI,aj hlt];rfl
  obtain⟨u,hu,t,e⟩:=hv.get hx
  rw[hi']at hu
  exact⟨t.1,(bg hu).trans e⟩
 rw[<- hn]at hb q
 refine nu (T:="tuple") (fp:=fun it=>[it,a]) (P:=fun i v=>bO.toArray[i]?=some v) (St:=fun it i h=>h.IsTupleIter it a i/\h.IsTuple a bO.toArray) Rb.typeIs (by rw[eF];kernel_rfl) (by rw[eF];kernel_rfl) #[3]
  (fun A E Q y=>fO Rb (by show Q (.ref (s.heap.push (d7 w)).objs.size) _;rw[z];exact y)) (fun A it hA e=>Walks.tuple hA it a (by rw[e];exact a9 (cX ha)) bO.toArray) (by simp;exact fun e=>absurd ha (by rw[<- e];exact dL _)) ⟨⟨{ cls:=.type "tuple_iterator",data:=.fields #[.ref a,.int 0 0] },?_,rfl,rfl⟩,?_⟩ C0 hh hb (fun A hA i s' Q E hn hi st q=>by
   refine up ((Walks.tuple hA #[7] a (a9 (cX ha)) bO.toArray).item i s' _ _ hi st fun v h' tk hp bh kp ms=>q v h' tk ms (fun x u hx=>?_) hp bh kp)
   rw[aZ]at hx
   subst hx
   exact((sV hv).up (aN hn ms)) x u (by have hp:bO.toArray[i]?=some _:=hp;exact cz (by simpa using hp))) q
 ·rw[<- z];exact aC _ rfl
 ·exact Rb.at fun o e=>aw _ e
end
theorem Lp{ss:List Str}(hp:ss.Perm ks)(VM:ks.Nodup)(hm:∀x,x∈ks↔∃j,j<l.length/\tx [l.getD j 0]=x)(hs:sortedS ss=true) :
  ∃m:List Nat,ss=m.map (fun c=>tx [c])/\m.Nodup/\m.Pairwise (· <= ·)/\∀c,c∈m↔c∈l:=by
 have all:∀z∈ss,tx [z.cps.toList.headD 0]=z:=fun z hz=>by
  obtain⟨j,_,e⟩:=(hm z).mp (hp.mem_iff.mp hz)
  subst e;rfl
 have em:ss=(ss.map fun z=>z.cps.toList.headD 0).map fun c=>tx [c]:=by
  rw[cq]
  conv=>lhs;rw[<- jU ss]
  exact fy fun z hz=>(all z hz).symm
 refine⟨ss.map fun z=>z.cps.toList.headD 0,em,?_,?_,fun c=>?_⟩
 ·have nd:ss.Nodup:=hp.nodup_iff.mpr VM
  rw[em]at nd
  exact List.Pairwise.of_map (fun c=>tx [c]) (fun a b h e=>h (by rw[e])) nd
 ·refine Bf _ ?_
  rw[cq]
  rw[em]at hs
  exact hs
 ·constructor
  ·intro hc
   obtain⟨z,hz,rfl⟩:=c8.mp hc
   obtain⟨j,hj,e⟩:=(hm z).mp (hp.mem_iff.mp hz)
   subst e
   show l.getD j 0∈l
   rw[aI,aj hj]
   exact dS hj
  ·intro hc
   obtain⟨j,hj,e⟩:=List.getElem_of_mem hc
   refine c8.mpr ⟨tx [c],hp.mem_iff.mpr ((hm _).mpr ⟨j,hj,?_⟩),rfl⟩
   rw[aI,aj hj,e];rfl
def Lq(K:Frag)(H:Hp)(v:V)(l:List Nat):Prop:=v=.str (tx l)\/∃a,v=.ref a/\gz K H a (jY l)
def Hw(K:Frag)(te:TE):TE:=fun σ H Q=>te σ H fun v H1=>∃l,Lq K H1 v l/\l.length<4000/\(∀m:List Nat,m.Nodup->(∀c∈m,c∈l)->m.length<64) /\
 ∀m:List Nat,m.Nodup->m.Pairwise (· <= ·)->(∀c,c∈m↔c∈l)->∀a H2,H1 a=none->H2=fW H1 a (.lst (m.map fun c=>V.str (tx [c])))->Q (.ref a) H2
theorem bI.kept2{d':Drawn}(I:bI X ak σ H s)(k:∀b o,s.heap.get? b=some o->h'.get? b=some o)(hk:s.toks<=t':=by first|exact aA _|exact bp _|assumption|omega):bI X ak σ H { s with heap:=h',drawn:=d',toks:=t' }:=
 I.step (g':=s.gens) (ch:=[]) (fun _ z=>nomatch z) (fun b o _ _ _ e _=>k b o e) (fun b o _ _ _ e _=>⟨o.slots,k b o e⟩) (fun _ _ _ _ n=>n) (fun b o _ e=>⟨o,k b o e⟩) (fun _ _ e=>e) (fun _ _ _ e=>e) (fun b ps e=>⟨#[],by rw[e];simp⟩)
  (fun m hm=>let ⟨o,es,ep,ho,r⟩:=hm;⟨o,es,ep,k _ o ho,r⟩) ((I.hok.kept k).up hk) I.bare hk
theorem F9{p1 p2 QX Mm:Pos}(h1:X.mg "sorted"=none)(h3:X.mg "set"=none)(he:QE X e te)(hc:X.calm=true:=by rfl)
  (VN:Gl X "sorted":=by rfl) (VJ:Gl X "set":=by rfl) (UI:starEach [e] X.env=(false,eval e X.env)::starEach [] X.env:=by rfl):QE X (.Call (.Name "sorted" p1) [.Call (.Name "set" p2) [e] [] Mm] [] QX) (Hw X.K te):=⟨by
 intro ak s σ H Q I h
 refine fR (p7 I VN h1 PyProof.Rows.boot_sorted (kU ?_) #[3] #[3])
 show wpAny _ _ (spliced ((false,eval (.Call (.Name "set" p2) [e] [] Mm) X.env)::[])) _ _ s
 refine fP (fR (p7 I VJ h3 PyProof.Rows.boot_set (dU ?_ UI rfl) #[3] #[3]))
 rw[UI]
 show wpAny _ _ (spliced ((false,eval e X.env)::[])) _ _ s
 refine fP (ky (he.h ak s σ H _ I h) fun u s1 kt1 ⟨v,H1,I1,r1,l,hl,hb,NK,q⟩=>iI ?_)
 have hh:X.A.handled=none:=I1.ok.hd hc
 have hb':l.length+1<scanBound:=by unfold scanBound;omega
 have kT:∀g tk,s1.toks<=tk->Mw X.prog X.w tk (fun j=>tx [l.getD j 0]) g s1.heap.objs.size l.length->(∀b o,s1.heap.get? b=some o->g.get? b=some o) ->
   wpAny #[4] X.A (spliced []) (fun vs s₂=>wpAny #[4] X.A (call (.builtin "sorted") (.ref s1.heap.objs.size::vs)) (EP X ak σ Q) X.xe s₂) X.xe { s1 with heap:=g,toks:=tk }:=fun g tk ms hM kp=>by
  refine iI ?_
  obtain⟨ks,z,nd,mem,len⟩:=hM
  have sJ:ks.length<64:=by
   obtain⟨m,em,mn,_,mm⟩:∃m:List Nat,ks=m.map (fun c=>tx [c])/\m.Nodup/\True/\∀c∈m,c∈l:=by
    have all:∀z∈ks,tx [z.cps.toList.headD 0]=z:=fun z hz=>by
     obtain⟨j,_,e⟩:=(mem z).mp hz
     subst e;rfl
    have em:ks=(ks.map fun z=>z.cps.toList.headD 0).map fun c=>tx [c]:=by
     rw[cq]
     conv=>lhs;rw[<- jU ks]
     exact fy fun z hz=>(all z hz).symm
    refine⟨_,em,?_,trivial,fun c hc=>?_⟩
    ·have nd':=nd
     rw[em]at nd'
     exact List.Pairwise.of_map (fun c=>tx [c]) (fun a b h e=>h (by rw[e])) nd'
    ·obtain⟨z,hz,rfl⟩:=c8.mp hc
     obtain⟨j,hj,e⟩:=(mem z).mp hz
     subst e
     show l.getD j 0∈l
     rw[aI,aj hj]
     exact dS hj
   rw[em,aE]
   exact NK m mn mm
  refine up (Dw z sJ hh fun g0 g1 d QN out ss ep k0 k1 gL hta oZ hperm hsrt hle2=>?_)
  have hle2:tk<=QN:=hle2
  have hle3:s1.toks<=QN:=aN ms hle2
  obtain⟨m,em,mn,mp,mm⟩:=Lp hperm nd mem hsrt
  have I2:bI X ak σ H1 { s1 with heap:=g0,drawn:=d,toks:=QN }:=I1.kept2 fun b o e=>k0 b o (kp b o e)
  have yx:H1 g0.objs.size=none:=I2.hok.fresh (aA _)
  have hvals:cL QN (m.map fun c=>V.str (tx [c])) out.toList:=by
   have e:=oy oZ (hta.up hle2)
   rw[em,cq]at e
   exact e
  refine⟨.ref g0.objs.size,_,I2.laid (o:=.lst (m.map fun c=>V.str (tx [c]))) (t':=QN) k1 (aA _) ?_,rfl,q m mn mp mm _ _ yx rfl⟩
  refine⟨?_,out.toList,ep,hvals,gL⟩
  rw[aE]
  exact aN (gp (NK m mn fun c hc=>(mm c).mp hc)) #[3]
 rcases hl with rfl|⟨a,rfl,hT⟩
 ·obtain⟨t,rfl⟩:=r1
  exact Hv I1.pos hh hb' kT
 ·cases r1
  obtain⟨bO,rv,ht,_⟩:=I1.tuple hT
  exact Lo hh hb' ht rv kT⟩
end L2
namespace L2
open PySem PySem.Spec PyProof.Rows
section
variable{w:World}
end
section
variable{wi:TI}{g:TG}{tc:TT}
theorem Dx{x0:Str}{p0 p1:Pos}{gx:TG}(NQ:PG X (.Name x0 p0) gx)(T6:swapsWith #[11] (some (.Name x0 p0)) p1.line X.env=pure true)(kC:X.calm=true)(xO:closureFor scope X.env=pure cl)(C3:∀x c,cl.lookup x=some c->X.env.cells.lookup x=some c)
  (kD:scope.kind=.function) (sM:∀x∈scope.names,x.2=.local->scope.names.lookup x.1=some .local) (iF:∀y∈scope.names,y.2≠.cell)
  (Ey:∀x,#[13]->∃c,cl.lookup x=some c)
  (vR:∀(i j:Nat),cap[i]?=some (some j)->∃x,nm[i]?=some x/\X.N[j]?=some x/\wl X scope cl x) (gC:cap.length=nm.length)
  (hi:PI X tg et wi) (hg:∀C s0 H0 fp,PG #[10] tg g) (ht:∀C s0 H0 fp,He #[10] oq tc)
  (he:∀C s0 H0 fp,PE #[10] sI te) (hs:∀x,foldedSetIterable et X.env x=pure x:=by intro _;rfl) :
  PS X (.Assign [.Name x0 p0] #[11] p1) (G0 (wj cap wi g tc te) gx):=by
 intro ak s σ H D I h
 rw[exec_Assign_Name_used _ _ _ _ T6]
 suffices main:wpAny #[4] X.A (comprehension #[11] scope X.env (firstIterPos [⟨tg,et,oq,0⟩] pos) (newList []) (firstAsync [⟨tg,et,oq,0⟩]) (firstIter [⟨tg,et,oq,0⟩] X.env) (some (assign (.Name x0 p0) X.env))) (fun _ s'=>SP X ak D .next s') X.xe s from
  af (rS (af (af (jG main (fun _ s' h=>ay (ay h)) fun _ _ z=>z))))
 refine yJ kC xO C3 kD sM iF Ey vR gC hi hg ht he hs I h fun s4 C D m4 Hn I4 B q=>?_
 obtain⟨oC,es,ep,hoC,hdC,hrC⟩:=B.ns
 refine jG (NQ _ s4 σ _ (.ref D) (.ref D) _ (I4.pins_of (pins':=ak++[(C,oC)]) fun p hp=>?_) rfl q) (fun _ s5 h5=>?_) fun _ _ z=>z
 ·rcases aV.mp hp with z|z
  ·exact I4.pin p (aP _ z)
  ·have e:p=(C,oC):=by simpa using z
   subst e
   exact⟨hoC,B.fr,B.nl,B.nf,fun v z=>by rw[hdC]at z;cases z⟩
 obtain⟨σ',H',I6,nx⟩:=h5
 have pC:=I6.pin (C,oC) (aP _ (aP _ (aZ.mpr rfl)))
 have I7:bI X ak σ' H' s5:=I6.pins_of fun p hp=>I6.pin p (aP _ (bB _ hp))
 have B7:Bb X ak H' s5 C m4:=⟨⟨oC,es,ep,pC.1,hdC,hrC⟩,pC.2.1,B.nl,B.nf,B.hi,B.nc,B.np⟩
 exact⟨m4,B7.ns,fun h' hs'=>⟨σ',H',B7.off I7 hs',nx⟩⟩
end
theorem Dy{x0:Str}{p0 p1:Pos}{gx:TG}{pos:Pos}{wi:TI}{g:TG}{tc:TT}{m:Nat}(NQ:QG X (.Name x0 p0) gx)(kC:X.calm=true)
  (sK:X.env.cells=cellsFrom m X.env.scope.names []) (kD:scope.kind=.function) (hB:F1 X.env.scope.names scope.names nm cap X.N=true)
  (hi:QI X tg et wi) (hg:∀cl C s0 H0 fp,QG #[10] tg g) (ht:∀cl C s0 H0 fp,Vg #[10] oq tc)
  (he:∀cl C s0 H0 fp,QE #[10] sI te) (hs:∀x,foldedSetIterable et X.env x=pure x:=by intro _;rfl) (T6:swapsWith #[11] (some (.Name x0 p0)) p1.line X.env=pure true:=by first|rfl|kernel_rfl) :
  QS X (.Assign [.Name x0 p0] #[11] p1) (G0 (wj cap wi g tc te) gx):=by
 have F:=RZ (nm:=nm) (cap:=cap) (fun x z=>by rw[sK];exact nO z) hB
 exact⟨Dx NQ.h T6 kC F.clos F.cl kD F.nms F.cell F.has F.cp F.len hi.h (fun C s0 H0 fp=>(hg _ C s0 H0 fp).h) (fun C s0 H0 fp=>(ht _ C s0 H0 fp).h) (fun C s0 H0 fp=>(he _ C s0 H0 fp).h) hs⟩
def R1:List V->Hp->VK->Prop:=fun xs H Q=>∃c:Nat,xs=[.str (tx [48+c])]/\c<=3/\Q (.int c) H
theorem OM:Mv X (.type "int") R1:=⟨by
 intro ak s σ H xs us Q I r h
 obtain⟨i,rfl,hi,q⟩:=h
 obtain⟨u,rfl,t,rfl⟩:=p8 r
 have e:PySem.intText? (tx [48+i])=some (i:Int):=by
  rcases(show i=0\/i=1\/i=2\/i=3 by omega)with rfl|rfl|rfl|rfl<;>decide +kernel
 exact PySem.W.KIN.call_text e (by show 1<=640;decide) ⟨.int i,H,I.tok _,⟨_,rfl⟩,q⟩⟩
open AutoSeq1 (wpAny_loadPart')
theorem Hy(l b:Addr)(i1 i2:Array Value)(n1 n2:Nat)(d1 d2:Option Addr)(s1 s2:Array (Option Value))(h0:i1.isEmpty=true) :
  Meets (Builtin.«tuple.__add__» ⟨[.ref l,.ref b],[]⟩) (fun _ R s=>s.heap.get? l=some { cls:=.type "tuple",dict:=d1,data:=.seq i1 n1,slots:=s1 }/\s.heap.get? b=some { cls:=.type "tuple",dict:=d2,data:=.seq i2 n2,slots:=s2 }/\R (.ok (.ret (.ref b))) s):=
 .of_wp fun prog w A R s h=>by
  obtain⟨hp,g,d,tk,os⟩:=s
  obtain⟨e1,e2,h⟩:=h
  have a2:=PyProof.Rows.sub_tuple_tuple
  wp_walk using dy e1,dy e2
  exact⟨_,rfl,h⟩
def R3(K:Frag):R2:=fun x y H Q=>∃a b xs ys,x=.ref a/\y=.ref b/\gz K H a xs/\gz K H b ys/\xs.length+ys.length<=sizeLine/\∀p H2,vC H H2->gz K H2 p (xs++ys)->Q (.ref p) H2
theorem ON:VY X (binaryOp .Add) (R3 X.K):=⟨by
 intro ak s σ H x y v u Q I rx ry h
 obtain⟨a,b,xs,ys,rfl,rfl,ha,hb,hz,q⟩:=h
 by_cases hx:xs=[]
 ·subst hx
  cases rx
  cases ry
  obtain⟨bO,r1,p1,_⟩:=I.tuple ha
  obtain⟨its2,r2,p2,_⟩:=I.tuple hb
  have e1:bO=[]:=r1.nil_iff.mpr rfl
  obtain⟨⟨c1,d1,g1,l1⟩,f1,hc1,n1,hd1⟩:=id p1
  obtain⟨⟨c2,d2,g2,l2⟩,f2,hc2,n2,hd2⟩:=id p2
  simp only at hc1 hd1 hc2 hd2
  subst hc1 hd1 hc2 hd2
  refine ud ⟨_,f1,rfl⟩ ⟨_,f2,rfl⟩ ol rV PySem.F.slot_tuple_add PySem.F.entry_tuple_add (PySem.F.args_tuple_add_2 _ _) (Hy a b bO.toArray its2.toArray n1 n2 d1 d2 l1 l2 (by rw[e1];rfl)) ⟨f1,f2,?_⟩
  exact⟨.ref b,H,I,rfl,q b H (vC.refl H) hb⟩
 ·exact K' ak s σ H _ _ v u Q I rx ry ⟨a,b,xs,ys,rfl,rfl,ha,hb,hx,hz,fun e=>q a H (vC.refl H) (by rw[e,a8];exact ha),fun _ p hp=>q p _ (cU hp _) (gz.of ib)⟩⟩
end L2
namespace L2
open PySem PySem.Spec PyProof.Rows
inductive W where
 |non|bl (b:Bool)|int (i:Int)|str (l:List Nat)|tup (ws:List W)|loc (n:Nat)
inductive DK where
 |i (z:Int)|s (l:List Nat)
deriving DecidableEq
def DK.key:DK->v_
 |.i z=>.inl z
 |.s l=>.inr (tx l)
inductive KX where
 |bo (b:Bool)|fl (ks:List Int)|pr (i:Int) (ks:List Int)
deriving DecidableEq
noncomputable def KX.w:KX->W
 |.bo b=>.bl b
 |.fl ks=>.tup (ks.map W.int)
 |.pr i ks=>.tup [.int i,.tup (ks.map W.int)]
noncomputable def Hz(ks:List Int):Int:=reduceHash (Builtin.Tuple.tupleHashOf (ks.map hashInt))
def KX.hash:KX->Int
 |.bo b=>hashInt (if b then 1 else 0)
 |.fl ks=>Hz ks
 |.pr i ks=>reduceHash (Builtin.Tuple.tupleHashOf [hashInt i,Hz ks])
inductive au where
 |lst (ws:List W)
 |ro (ws:List W)
 |exc (c:Str)
 |dct (hG:List (DK×W))
 |tab (P:Addr) (pos:Pos) (q:Str)
 |rod (hG:List (DK×W))
 |dcx (hG:List (KX×W))
 |rox (hG:List (KX×W))
 |obj (c:Str) (fs:List (Str×W))
 |pin (k:Bool) (c:Addr) (o:Obj) (w:W)
 |gone
noncomputable abbrev nQ:Nat:=1000000
theorem qa(h:n<=nQ):n<=sizeLine:=aN h #[3]
theorem OO(h:n<=nQ):n<sizeLine:=jH h #[3]
inductive R(α:Type) where
 |ok (a:α) (st:List au)
 |ex (c:Str) (st:List au)
 |bad
noncomputable def R.bind:R α->(α->List au->R β)->R β
 |.ok a st,k=>k a st
 |.ex c st,_=>.ex c st
 |.bad,_=>.bad
@[simp] theorem R.bind_ok{α β:Type}(a:α)(st:List au)(k:α->List au->R β):(R.ok a st).bind k=k a st:=rfl
@[simp] theorem R.bind_ex{α β:Type}(c:Str)(st:List au)(k:α->List au->R β):(R.ex c st:R α).bind k=.ex c st:=rfl
@[simp] theorem R.bind_bad{α β:Type}(k:α->List au->R β):(R.bad:R α).bind k=.bad:=rfl
noncomputable abbrev cW:=List (Option W)
inductive RS where
 |nx (ρ:cW) (st:List au)|rt (w:W) (st:List au)|bk (ρ:cW) (st:List au)|ct (ρ:cW) (st:List au)
 |ex (c:Str) (ρ:cW) (st:List au)|bad
abbrev FE:=cW->List au->R W
abbrev FT:=cW->List au->R Bool
abbrev FA:=cW->List au->R (List W)
abbrev FS:=cW->List au->RS
section
variable(K:Frag)
mutual
def bN(μ:List Addr)(H:Hp):W->V->Prop
 |.non,v=>v=.non
 |.bl b,v=>v=.bl b
 |.int i,v=>v=.int i
 |.str l,v=>v=.str (tx l)
 |.tup ws,v=>∃p vs,v=.ref p/\gz K H p vs/\RelWs μ H ws vs
 |.loc n,v=>∃a,μ[n]?=some a/\v=.ref a
def RelWs(μ:List Addr)(H:Hp):List W->List V->Prop
 |[],vs=>vs=[]
 |w::ws,vs=>∃x xs,vs=x::xs/\bN μ H w x/\RelWs μ H ws xs
end
end
theorem pre_get(h:μ <+: μ'){a:Addr}(e:μ[n]?=some a):μ'[n]?=some a:=by
 obtain⟨t,rfl⟩:=h
 rw[aR (ax.mp e).1];exact e
section
mutual
theorem bN.mono(h:μ <+: μ')(e:fF K H H'):∀{w:W} {v:V},bN K μ H w v->bN K μ' H' w v
 |.non,_,r=>by unfold bN at r ⊢;exact r
 |.bl _,_,r=>by unfold bN at r ⊢;exact r
 |.int _,_,r=>by unfold bN at r ⊢;exact r
 |.str _,_,r=>by unfold bN at r ⊢;exact r
 |.tup _,_,r=>by unfold bN at r ⊢;obtain⟨p,vs,a,b,c⟩:=r;exact⟨p,vs,a,e _ _ b,RelWs.mono h e c⟩
 |.loc _,_,r=>by unfold bN at r ⊢;obtain⟨a,b,c⟩:=r;exact⟨a,pre_get h b,c⟩
theorem RelWs.mono(h:μ <+: μ')(e:fF K H H'):∀{ws:List W} {vs:List V},RelWs K μ H ws vs->RelWs K μ' H' ws vs
 |[],_,r=>by unfold RelWs at r ⊢;exact r
 |_::_,_,r=>by unfold RelWs at r ⊢;obtain⟨x,xs,a,b,c⟩:=r;exact⟨x,xs,a,bN.mono h e b,RelWs.mono h e c⟩
end
theorem RelWs.nilI:RelWs K μ H [] []:=by unfold RelWs;rfl
theorem RelWs.consI{w:W}{ws:List W}{x:V}(a:bN K μ H w x)(b:RelWs K μ H ws xs):RelWs K μ H (w::ws) (x::xs):=by unfold RelWs;exact⟨x,xs,rfl,a,b⟩
theorem RelWs.nilE(h:RelWs K μ H [] vs):vs=[]:=by unfold RelWs at h;exact h
theorem RelWs.consE{w:W}{ws:List W}(h:RelWs K μ H (w::ws) vs):∃x xs,vs=x::xs/\bN K μ H w x/\RelWs K μ H ws xs:=by unfold RelWs at h;exact h
theorem RelWs.pr:∀{ws:List W} {vs:List V},RelWs K μ H ws vs↔Paired (fun w v=>bN K μ H w v) ws vs
 |[],vs=>⟨fun h=>by rw[h.nilE];exact .nil,fun h=>by cases h;exact .nilI⟩
 |w::ws,vs=>⟨fun h=>by obtain⟨x,xs,rfl,a,b⟩:=h.consE;exact .cons a (RelWs.pr.mp b),fun h=>by cases h with|cons a b=>exact .consI a (RelWs.pr.mpr b)⟩
theorem RelWs.len{ws:List W}(h:RelWs K μ H ws vs):ws.length=vs.length:=Paired.length (RelWs.pr.mp h)
theorem RelWs.app:∀{as:List W} {xs:List V} {bs:List W} {ys:List V},RelWs K μ H as xs->RelWs K μ H bs ys->RelWs K μ H (as++bs) (xs++ys)
 |[],xs,bs,ys,a,b=>by rw[a.nilE];exact b
 |w::as,xs,bs,ys,a,b=>by obtain⟨x,xs,rfl,c,d⟩:=a.consE;exact .consI c (RelWs.app d b)
theorem RelWs.get:∀{ws:List W} {vs:List V} {i:Nat} {w:W},RelWs K μ H ws vs->ws[i]?=some w->∃v,vs[i]?=some v/\bN K μ H w v
 |[],_,_,_,_,e=>by simp at e
 |x::ws,vs,0,w,h,e=>by obtain⟨y,ys,rfl,a,b⟩:=h.consE;simp at e;subst e;exact⟨y,rfl,a⟩
 |x::ws,vs,i+1,w,h,e=>by obtain⟨y,ys,rfl,a,b⟩:=h.consE;simpa using RelWs.get (i:=i) b (by simpa using e)
theorem RelWs.take:∀{ws:List W} {vs:List V} (n:Nat),RelWs K μ H ws vs->RelWs K μ H (ws.take n) (vs.take n)
 |_,_,0,_=>by simp only[qL];exact .nilI
 |[],vs,n+1,h=>by rw[h.nilE];exact .nilI
 |x::ws,vs,n+1,h=>by obtain⟨y,ys,rfl,a,b⟩:=h.consE;exact .consI a (RelWs.take n b)
theorem RelWs.drop:∀{ws:List W} {vs:List V} (n:Nat),RelWs K μ H ws vs->RelWs K μ H (ws.drop n) (vs.drop n)
 |_,_,0,h=>h
 |[],vs,n+1,h=>by rw[h.nilE];exact .nilI
 |x::ws,vs,n+1,h=>by obtain⟨y,ys,rfl,a,b⟩:=h.consE;exact RelWs.drop n b
theorem RelWs.setI:∀{ws:List W} {vs:List V} (i:Nat) {w:W} {v:V},bN K μ H w v->RelWs K μ H ws vs->RelWs K μ H (ws.set i w) (vs.set i v)
 |[],vs,_,_,_,_,h=>by rw[h.nilE];exact .nilI
 |x::ws,vs,0,w,v,r,h=>by obtain⟨y,ys,rfl,a,b⟩:=h.consE;exact .consI r b
 |x::ws,vs,i+1,w,v,r,h=>by obtain⟨y,ys,rfl,a,b⟩:=h.consE;exact .consI a (RelWs.setI i r b)
theorem bN.intE{i:Int}{v:V}(h:bN K μ H (.int i) v):v=.int i:=by unfold bN at h;exact h
theorem bN.blE{b:Bool}{v:V}(h:bN K μ H (.bl b) v):v=.bl b:=by unfold bN at h;exact h
theorem bN.nonE{v:V}(h:bN K μ H .non v):v=.non:=by unfold bN at h;exact h
theorem bN.strE{v:V}(h:bN K μ H (.str l) v):v=.str (tx l):=by unfold bN at h;exact h
theorem bN.tupE{ws:List W}{v:V}(h:bN K μ H (.tup ws) v):∃p vs,v=.ref p/\gz K H p vs/\RelWs K μ H ws vs:=by unfold bN at h;exact h
theorem bN.locE{v:V}(h:bN K μ H (.loc n) v):∃a,μ[n]?=some a/\v=.ref a:=by unfold bN at h;exact h
theorem bN.int{i:Int}:bN K μ H (.int i) (.int i):=by unfold bN;rfl
theorem bN.bl{i:Bool}:bN K μ H (.bl i) (.bl i):=by unfold bN;rfl
theorem bN.non:bN K μ H .non .non:=by unfold bN;rfl
theorem bN.str:bN K μ H (.str l) (.str (tx l)):=by unfold bN;rfl
theorem bN.tupI{ws:List W}{p:Addr}(a:gz K H p vs)(b:RelWs K μ H ws vs):bN K μ H (.tup ws) (.ref p):=by unfold bN;exact⟨p,vs,rfl,a,b⟩
theorem bN.locI{a:Addr}(e:μ[n]?=some a):bN K μ H (.loc n) (.ref a):=by unfold bN;exact⟨a,e,rfl⟩
end
noncomputable def wC(a:Addr)(C:Value):HO:=.ext fun h=>∃o vs,h.get? a=some o/\o.cls=C/\o.data=.fields vs
noncomputable def Bq(b:Addr)(q:Str):HO:=.ext fun h=>∃o vs t,h.get? b=some o/\o.data=.fields vs/\vs[1]?=some (.str q t)
def Us(K:Frag)(H:Hp)(a:Addr)(xs:List V):Prop:=
 (∃o,H a=some (.frz o (.lst xs)))\/∃(o:Obj) (bO:Array Value) (n:Nat),K.lookup a=some o/\o.cls=.type "list"/\o.dict=none/\o.data=.seq bO n/\bO.size<=sizeLine/\cL 0 xs bO.toList
theorem Us.sq{a:Addr}(h:Us K H a xs):uq K H a xs:=by
 rcases h with⟨o,h⟩|h
 ·exact .inl (.inr ⟨o,h⟩)
 ·exact .inr h
noncomputable def au.isRo:au->Bool
 |.ro _=>true
 |.gone=>true
 |_=>false
def DX(a:Addr)(es:List DictEntry):Heap->Prop:=fun h=>∃o ep,h.get? a=some o/\o.ExactDict/\o.data=.dict es.toArray ep
noncomputable abbrev V0(a:Addr)(es:List DictEntry):HO:=.ext (DX a es)
def Br(K:Frag)(μ:List Addr)(H:Hp)(p:KX×W)(e:DictEntry):Prop:=e.hash=p.1.hash/\(∃v,bN K μ H p.1.w v/\dA 0 v e.key)/\∃v,bN K μ H p.2 v/\dA 0 v e.val
noncomputable def Vj(a:Addr)(o:Obj):HO:=.ext fun h=>h.get? a=some o
def m5(K:Frag)(mg:Str->Option Value)(μ:List Addr)(H:Hp):au->Addr->Prop
 |.lst ws,a=>∃vs,H a=some (.lst vs)/\RelWs K μ H ws vs
 |.ro ws,a=>∃vs,Us K H a vs/\RelWs K μ H ws vs
 |.exc c,a=>∃C,mg c=some C/\H a=some (wC a C)
 |.dct hG,a=>∃vs,H a=some (.dK ((hG.map fun p=>p.1.key).zip vs))/\RelWs K μ H (hG.map fun p=>p.2) vs
 |.rod hG,a=>∃vs o,H a=some (.frz o (.dK ((hG.map fun p=>p.1.key).zip vs)))/\RelWs K μ H (hG.map fun p=>p.2) vs
 |.dcx hG,a=>∃es,H a=some (V0 a es)/\(a==sysModules)=false/\Paired (Br K μ H) hG es/\(hG.map fun p=>p.1).Nodup
 |.rox hG,a=>∃es o,H a=some (.frz o (V0 a es))/\(a==sysModules)=false/\Paired (Br K μ H) hG es/\(hG.map fun p=>p.1).Nodup
 |.obj c fs,a=>∃C dx vs,mg c=some (.ref C)/\H a=some (.ins C dx ((fs.map fun p=>p.1).zip vs))/\RelWs K μ H (fs.map fun p=>p.2) vs
 |.tab P pos q,a=>a=P/\∃ps,H a=some (.tbl ps)/\TriplesOk ps.toList/\(codeAmong pos ps.toList=none\/∃c,codeAmong pos ps.toList=some (.ref c)/\H c=some (Bq c q))
 |.pin k c o w,a=>a=c/\H a=some (Vj a o)/\(k=false->∃fd cd,o.data=.func fd/\fd.code=.ref cd/\H cd=some (Bq cd fd.qualname))/\∃v,bN K μ H w v/\(k=true->∃u,o.data=.cell (some u)/\dA 0 v u)
 |.gone,_=>True
structure jD(K:Frag)(mg:Str->Option Value)(μ:List Addr)(st:List au)(H:Hp):Prop where
 nd:∀(i j:Nat) (a:Addr) (ci cj:au),st[i]?=some ci->st[j]?=some cj->ci.isRo=false->cj.isRo=false->μ[i]?=some a->μ[j]?=some a->i=j
 len:st.length=μ.length
 at':∀(i:Nat) (c:au) (a:Addr),st[i]?=some c->μ[i]?=some a->m5 K mg μ H c a
section
variable{st:List au}
theorem Br.mono(h:μ <+: μ')(x:fF K H H'){p:KX×W}{e:DictEntry}(r:Br K μ H p e):Br K μ' H' p e:=by
 obtain⟨a,⟨v,b,c⟩,u,d,g⟩:=r
 exact⟨a,⟨v,b.mono h x,c⟩,u,d.mono h x,g⟩
theorem m5.keep(h:μ <+: μ')(x:fF K H H'){c:au}{a:Addr}(e:∀o,H a=some o->H' a=some o)(e2:∀b q,H b=some (Bq b q)->H' b=some (Bq b q))(r:m5 K mg μ H c a):m5 K mg μ' H' c a:=by
 cases c with
 |lst ws=>obtain⟨vs,p,y⟩:=r;exact⟨vs,e _ p,y.mono h x⟩
 |ro ws=>
  obtain⟨vs,p,y⟩:=r
  refine⟨vs,?_,y.mono h x⟩
  rcases p with⟨o,p⟩|p
  ·exact .inl ⟨o,e _ p⟩
  ·exact .inr p
 |exc c=>obtain⟨C,p,y⟩:=r;exact⟨C,p,e _ y⟩
 |dct hG=>obtain⟨vs,p,y⟩:=r;exact⟨vs,e _ p,y.mono h x⟩
 |rod hG=>obtain⟨vs,o,p,y⟩:=r;exact⟨vs,o,e _ p,y.mono h x⟩
 |dcx hG=>obtain⟨es,p,d,y,z⟩:=r;exact⟨es,e _ p,d,Paired.imp' (fun _ _ q=>q.mono h x) y,z⟩
 |rox hG=>obtain⟨es,o,p,d,y,z⟩:=r;exact⟨es,o,e _ p,d,Paired.imp' (fun _ _ q=>q.mono h x) y,z⟩
 |obj c fs=>obtain⟨C,dx,vs,m,p,y⟩:=r;exact⟨C,dx,vs,m,e _ p,y.mono h x⟩
 |tab P pos q=>
  obtain⟨ea,ps,p,t,y⟩:=r
  refine⟨ea,ps,e _ p,t,?_⟩
  rcases y with y|⟨c,y,z⟩
  ·exact .inl y
  ·exact .inr ⟨c,y,e2 _ _ z⟩
 |pin k c o w=>obtain⟨ea,p,g,v,y,z⟩:=r;exact⟨ea,e _ p,fun q=>let ⟨fd,cd,q1,q2,q3⟩:=g q;⟨fd,cd,q1,q2,e2 _ _ q3⟩,v,y.mono h x,z⟩
 |gone=>trivial
theorem m5.ro_ne{c:au}{a:Addr}(r:m5 K mg μ H c a)(h:c.isRo=false):∃o,H a=some o:=by
 cases c with
 |lst ws=>obtain⟨vs,p,y⟩:=r;exact⟨_,p⟩
 |ro ws=>cases h
 |exc c=>obtain⟨C,p,y⟩:=r;exact⟨_,y⟩
 |dct hG=>obtain⟨vs,p,y⟩:=r;exact⟨_,p⟩
 |rod hG=>obtain⟨vs,o,p,y⟩:=r;exact⟨_,p⟩
 |dcx hG=>obtain⟨es,p,_⟩:=r;exact⟨_,p⟩
 |rox hG=>obtain⟨es,o,p,_⟩:=r;exact⟨_,p⟩
 |obj c fs=>obtain⟨C,dx,vs,m,p,y⟩:=r;exact⟨_,p⟩
 |tab P pos q=>obtain⟨_,ps,p,_⟩:=r;exact⟨_,p⟩
 |pin k c o w=>obtain⟨_,p,_⟩:=r;exact⟨_,p⟩
 |gone=>cases h
theorem jD.same(S:jD K mg μ st H)(e:vC H H'):jD K mg μ st H':=⟨S.nd,S.len,fun i c a h1 h2=>(S.at' i c a h1 h2).keep (aq _) (gz.same e) (e a) fun b q h=>e b _ h⟩
theorem jD.get(S:jD K mg μ st H){c:au}(h:st[n]?=some c):∃a,μ[n]?=some a/\m5 K mg μ H c a:=by
 have hn:n<μ.length:=by rw[<- S.len];exact(ax.mp h).1
 exact⟨μ[n],aj hn,S.at' n c _ h (aj hn)⟩
theorem jD.push(S:jD K mg μ st H){p:Addr}{o:HO}{c:au}(hp:H p=none)(hc:m5 K mg (μ++[p]) (fW H p o) c p):jD K mg (μ++[p]) (st++[c]) (fW H p o):=by
 have hs:vC H (fW H p o):=cU hp o
 have CS:μ <+: μ++[p]:=a_ _ _
 have old:∀{i:Nat} {d:au} {a:Addr},i<st.length->(st++[c])[i]?=some d->(μ++[p])[i]?=some a->st[i]?=some d/\μ[i]?=some a:=fun{i d a} hi h1 h2=>by
  rw[aR hi]at h1
  rw[aR (by rw[<- S.len];exact hi)]at h2
  exact⟨h1,h2⟩
 have new:∀{i:Nat} {d:au} {a:Addr},¬ i<st.length->(st++[c])[i]?=some d->(μ++[p])[i]?=some a->i=st.length/\d=c/\a=p:=fun{i d a} hi h1 h2=>by
  have hi':i=st.length:=by
   have:=(ax.mp h1).1
   simp at this;omega
  subst hi'
  simp at h1
  rw[S.len,aS (aA _)]at h2
  simp at h2
  exact⟨rfl,h1.symm,h2.symm⟩
 refine⟨fun i j a ci cj h1 h2 r1 r2 m1 m2=>?_,by simp[S.len],fun i d a h1 h2=>?_⟩
 ·by_cases hi:i<st.length
  ·obtain⟨x1,x2⟩:=old hi h1 m1
   by_cases hj:j<st.length
   ·obtain⟨y1,y2⟩:=old hj h2 m2
    exact S.nd i j a ci cj x1 y1 r1 r2 x2 y2
   ·obtain⟨_,_,rfl⟩:=new hj h2 m2
    obtain⟨o',z⟩:=(S.at' i ci a x1 x2).ro_ne r1
    rw[hp]at z;cases z
  ·obtain⟨e1,_,rfl⟩:=new hi h1 m1
   by_cases hj:j<st.length
   ·obtain⟨y1,y2⟩:=old hj h2 m2
    obtain⟨o',z⟩:=(S.at' j cj a y1 y2).ro_ne r2
    rw[hp]at z;cases z
   ·obtain⟨e2,_,_⟩:=new hj h2 m2
    omega
 ·by_cases hi:i<st.length
  ·obtain⟨x1,x2⟩:=old hi h1 h2
   exact(S.at' i d a x1 x2).keep CS (gz.same hs) (hs a) fun b q h=>hs b _ h
  ·obtain⟨_,rfl,rfl⟩:=new hi h1 h2
   exact hc
theorem jD.setG(S:jD K mg μ st H){a:Addr}{c c':au}{o o':HO}(hn:st[n]?=some c)(CW:c.isRo=false)(hm:μ[n]?=some a)(ha:H a=some o)(hf:∀q u,o≠.frz q u)(hg:∀q,o≠Bq a q)(hx:fF K H (fW H a o'))(Wz:c'.isRo=false)(hr:m5 K mg μ (fW H a o') c' a):jD K mg μ (st.set n c') (fW H a o'):=by
 have hl:n<st.length:=(ax.mp hn).1
 have back:∀{i:Nat} {d:au},(st.set n c')[i]?=some d->∃d',st[i]?=some d'/\(d'=d\/(i=n/\d=c')):=fun{i d} h=>by
  by_cases e:i=n
  ·subst e
   rw[b9 hl]at h
   exact⟨_,hn,.inr ⟨rfl,(bg h).symm⟩⟩
  ·rw[cM (Ne.symm e)]at h
   exact⟨d,h,.inl rfl⟩
 refine⟨fun i j b ci cj h1 h2 r1 r2 m1 m2=>?_,by simp[S.len],fun i d b h1 h2=>?_⟩
 ·obtain⟨di,x1,y1⟩:=back h1
  obtain⟨dj,x2,y2⟩:=back h2
  refine S.nd i j b di dj x1 x2 ?_ ?_ m1 m2
  ·rcases y1 with rfl|⟨rfl,rfl⟩
   ·exact r1
   ·rw[hn]at x1;cases x1;exact CW
  ·rcases y2 with rfl|⟨rfl,rfl⟩
   ·exact r2
   ·rw[hn]at x2;cases x2;exact CW
 ·by_cases e:i=n
  ·subst e
   rw[b9 hl]at h1
   cases h1
   rw[hm]at h2;cases h2
   exact hr
  ·rw[cM (Ne.symm e)]at h1
   have r:=S.at' i d b h1 h2
   by_cases hrd:d.isRo=true
   ·cases d with
    |ro zs=>
     obtain⟨us,p,q⟩:=r
     refine⟨us,?_,q.mono (aq _) hx⟩
     rcases p with⟨o2,p⟩|p
     ·exact .inl ⟨o2,by rw[cY (by rintro rfl;rw[ha]at p;cases p;exact hf _ _ rfl)];exact p⟩
     ·exact .inr p
    |lst _=>cases hrd
    |exc _=>cases hrd
    |dct _=>cases hrd
    |rod _=>cases hrd
    |dcx _=>cases hrd
    |rox _=>cases hrd
    |obj _ _=>cases hrd
    |tab _ _ _=>cases hrd
    |pin _ _ _ _=>cases hrd
    |gone=>trivial
   ·refine r.keep (aq _) hx (fun o ho=>?_) fun b' q h=>by rw[cY (by rintro rfl;rw[ha]at h;cases h;exact hg _ rfl)];exact h
    have hb:b≠a:=by
     rintro rfl
     exact e (S.nd i n b d _ h1 hn (by simpa using hrd) CW h2 hm)
    rw[cY hb];exact ho
theorem jD.set(S:jD K mg μ st H){a:Addr}{ws TY:List W}{EF:List V}(hn:st[n]?=some (.lst ws))(hm:μ[n]?=some a)(ha:H a=some (.lst vs))(hr:RelWs K μ H TY EF):jD K mg μ (st.set n (.lst TY)) (fW H a (.lst EF)):=by
 have hx:fF K H (fW H a (.lst EF)):=gz.but mW ha
 have hl:n<st.length:=(ax.mp hn).1
 have back:∀{i:Nat} {d:au},(st.set n (.lst TY))[i]?=some d->∃d',st[i]?=some d'/\(d'=d\/(i=n/\d=.lst TY)):=fun{i d} h=>by
  by_cases e:i=n
  ·subst e
   rw[b9 hl]at h
   exact⟨_,hn,.inr ⟨rfl,(bg h).symm⟩⟩
  ·rw[cM (Ne.symm e)]at h
   exact⟨d,h,.inl rfl⟩
 refine⟨fun i j b ci cj h1 h2 r1 r2 m1 m2=>?_,by simp[S.len],fun i d b h1 h2=>?_⟩
 ·obtain⟨di,x1,y1⟩:=back h1
  obtain⟨dj,x2,y2⟩:=back h2
  refine S.nd i j b di dj x1 x2 ?_ ?_ m1 m2
  ·rcases y1 with rfl|⟨rfl,rfl⟩
   ·exact r1
   ·rw[hn]at x1;cases x1;rfl
  ·rcases y2 with rfl|⟨rfl,rfl⟩
   ·exact r2
   ·rw[hn]at x2;cases x2;rfl
 ·by_cases e:i=n
  ·subst e
   rw[b9 hl]at h1
   cases h1
   rw[hm]at h2;cases h2
   exact⟨EF,ib,hr.mono (aq _) hx⟩
  ·rw[cM (Ne.symm e)]at h1
   have r:=S.at' i d b h1 h2
   by_cases CW:d.isRo=true
   ·cases d with
    |ro zs=>
     obtain⟨us,p,q⟩:=r
     refine⟨us,?_,q.mono (aq _) hx⟩
     rcases p with⟨o',p⟩|p
     ·exact .inl ⟨o',by rw[cY (by rintro rfl;rw[ha]at p;cases p)];exact p⟩
     ·exact .inr p
    |lst _=>cases CW
    |exc _=>cases CW
    |dct _=>cases CW
    |rod _=>cases CW
    |dcx _=>cases CW
    |rox _=>cases CW
    |obj _ _=>cases CW
    |tab _ _ _=>cases CW
    |pin _ _ _ _=>cases CW
    |gone=>trivial
   ·refine r.keep (aq _) hx (fun o ho=>?_) fun b' q h=>by rw[cY (by rintro rfl;rw[ha]at h;cases h)];exact h
    have hb:b≠a:=by
     rintro rfl
     exact e (S.nd i n b d _ h1 hn (by simpa using CW) rfl h2 hm)
    rw[cY hb];exact ho
end
end L2
variable{st bh st1 z:List L2.au}{t:L2.FT}{ws:List L2.W}{ρ:L2.cW}{fa fe fo el:L2.FE}{F G:List L2.W->List L2.au->L2.R L2.W}{ck:Option (Nat×List L2.W)}
namespace L2
open PySem PySem.Spec PyProof.Rows
structure Rl(X:Cx)(μ:List Addr)(ρ:cW)(st:List au)(σ:St)(H:Hp):Prop where
 env:Paired (fun(o:Option W) (s:Option V)=>∀w,o=some w->∃v,s=some v/\bN X.K μ H w v) ρ σ
 sto:jD X.K X.mg μ st H
theorem uy(h:μ <+: μ')(x:fF K H H'):∀{ρ:cW} {σ:St},Paired (fun(o:Option W) (s:Option V)=>∀w,o=some w->∃v,s=some v/\bN K μ H w v) ρ σ ->
  Paired (fun(o:Option W) (s:Option V)=>∀w,o=some w->∃v,s=some v/\bN K μ' H' w v) ρ σ
 |_,_,.nil=>.nil
 |_,_,.cons a t=>.cons (fun w e=>let ⟨v,p,q⟩:=a w e;⟨v,p,q.mono h x⟩) (uy h x t)
theorem Rl.to(r:Rl X μ ρ st σ H)(h:μ <+: μ')(x:fF X.K H H')(s:jD X.K X.mg μ' bh H'):Rl X μ' ρ bh σ H':=⟨uy h x r.env,s⟩
theorem wD:∀{ρ:cW} {σ:St} {i:Nat} {w:W},Paired (fun(o:Option W) (s:Option V)=>∀w,o=some w->∃v,s=some v/\bN K μ H w v) ρ σ->ρ[i]?=some (some w)->∃v,σ[i]?=some (some v)/\bN K μ H w v
 |_,_,_,_,.nil,e=>by simp at e
 |_,_,0,w,.cons a t,e=>by simp at e;obtain⟨v,p,q⟩:=a w e;exact⟨v,by simp[p],q⟩
 |_,_,i+1,w,.cons a t,e=>by simpa using wD (i:=i) t (by simpa using e)
theorem sX{w:W}{v:V}(r:bN K μ H w v):∀{ρ:cW} {σ:St} (i:Nat),Paired (fun(o:Option W) (s:Option V)=>∀w,o=some w->∃v,s=some v/\bN K μ H w v) ρ σ ->
  Paired (fun(o:Option W) (s:Option V)=>∀w,o=some w->∃v,s=some v/\bN K μ H w v) (ρ.set i (some w)) (σ.set i (some v))
 |_,_,_,.nil=>.nil
 |_,_,0,.cons a t=>.cons (fun w' e=>⟨v,rfl,by cases e;exact r⟩) t
 |_,_,i+1,.cons a t=>.cons a (sX r i t)
structure vj(X:Cx)(ak:List (Addr×Obj))(σ:St)(c:Str)(H:Hp)(e:Value)(s:Shared):Prop where
 inv:bI X ak σ H s
 ex:∃x C t B,e=.ref x/\X.mg c=some C/\H x=none/\B.StaysIn s.heap/\B.get? x=none/\s.heap.FunFrames B X.stack /\
  (s.heap.TracedW B x C (.ref t)\/(∃oe vs,s.heap.get? x=some oe/\oe.cls=C/\oe.dict=none/\oe.data=.fields vs/\vs[1]?=some .none/\vs[0]?=some (.ref t))\/∃L,X.env.frame=some L/\s.heap.TracedAtW B x C (.ref t) (rawInt L)) /\
  ∀b o,s.heap.get? b=some o->(H b≠none\/((∃o0,X.s₀.heap.get? b=some o0)/\b∉X.fs/\b∉X.ex)\/((∃y,X.env.cells.lookup y=some b)/\b∉sP X.stack)\/∃p∈X.pn++ak,p.1=b)->B.get? b=some o
def XS(X:Cx)(c:Str)(μ:List Addr)(ρ:cW)(st:List au)(H:Hp):Prop:=
 ∀ak μ' σ' H' e s',μ <+: μ'->fF X.K H H'->Rl X μ' ρ st σ' H'->vj X ak σ' c H' e s'->X.xe e s'
def XE(X:Cx)(c:Str)(μ:List Addr)(st:List au)(σ:St)(H:Hp):Prop:=
 ∀ak μ' H' e s',μ <+: μ'->fF X.K H H'->jD X.K X.mg μ' st H'->vj X ak σ c H' e s'->X.xe e s'
theorem XE.mono{c:Str}{μ1:List Addr}{H1:Hp}(h:XE X c μ st σ H)(p:μ <+: μ1)(x:fF X.K H H1):XE X c μ1 st σ H1:=fun ak μ' H' e s' a b=>h ak μ' H' e s' (p.trans a) (x.trans b)
theorem XS.mono{c:Str}{μ1:List Addr}{H1:Hp}(h:XS X c μ ρ st H)(p:μ <+: μ1)(x:fF X.K H H1):XS X c μ1 ρ st H1:=fun ak μ' σ' H' e s' a b=>h ak μ' σ' H' e s' (p.trans a) (x.trans b)
theorem XS.toE{c:Str}{UL:List au}(h:XS X c μ ρ st H)(r:Rl X μ ρ UL σ H):XE X c μ st σ H:=fun ak μ' H' e s' a b s f=>h ak μ' σ H' e s' a b (r.to a b s) f
def RK(X:Cx)(rel:List Addr->Hp->α->β->Prop)(μ:List Addr)(σ:St)(H:Hp)(Q:β->Hp->Prop):R α->Prop
 |.ok a bh=>∀μ' b H',μ <+: μ'->fF X.K H H'->jD X.K X.mg μ' bh H'->rel μ' H' a b->Q b H'
 |.ex c bh=>XE X c μ bh σ H
 |.bad=>False
theorem RK.mono{rel:List Addr->Hp->α->β->Prop}{μ1:List Addr}{H1:Hp}{Q:β->Hp->Prop}{r:R α}(h:RK X rel μ σ H Q r)(p:μ <+: μ1)(x:fF X.K H H1):RK X rel μ1 σ H1 Q r:=by
 cases r with
 |ok a st=>exact fun μ' b H' a1 b1=>h μ' b H' (p.trans a1) (x.trans b1)
 |ex c st=>exact XE.mono h p x
 |bad=>exact h
def tG(X:Cx)(rel:List Addr->Hp->α->β->Prop)(f:cW->List au->R α)(σ:St)(H:Hp)(Q:β->Hp->Prop):Prop:=
 ∃μ ρ st,Rl X μ ρ st σ H/\RK X rel μ σ H Q (f ρ st)
abbrev uz(X:Cx):List Addr->Hp->W->V->Prop:=fun μ H w v=>bN X.K μ H w v
abbrev Vk(X:Cx):List Addr->Hp->List W->List V->Prop:=fun μ H w v=>RelWs X.K μ H w v
abbrev OP:List Addr->Hp->Bool->Bool->Prop:=fun _ _ a b=>a=b
abbrev tE(X:Cx)(f:FE):TE:=tG X (uz X) f
abbrev tT(X:Cx)(f:FT):TT:=tG X OP f
abbrev R4(X:Cx)(f:FA):TA:=tG X (Vk X) f
theorem RK.bind{α' β':Type}{rel:List Addr->Hp->α->β->Prop}{TZ:List Addr->Hp->α'->β'->Prop}{r:R α}{k:α->List au->R α'}{Q:β'->Hp->Prop}{T:β->Hp->Prop}
  (h:RK X TZ μ σ H Q (r.bind k)) (l:Rl X μ ρ st σ H)
  (hk:∀μ' bh x v H',μ <+: μ'->fF X.K H H'->Rl X μ' ρ bh σ H'->rel μ' H' x v->RK X TZ μ' σ H' Q (k x bh)->T v H'):RK X rel μ σ H T r:=by
 cases r with
 |ok a bh=>exact fun μ' b H' p x s q=>hk μ' bh a b H' p x (l.to p x s) q (RK.mono h p x)
 |ex c bh=>exact h
 |bad=>exact h
def SK(X:Cx)(μ:List Addr)(H:Hp)(D:zx):RS->Prop
 |.nx ρ st=>∀μ' σ' H',μ <+: μ'->fF X.K H H'->Rl X μ' ρ st σ' H'->D.nx σ' H'
 |.bk ρ st=>∀μ' σ' H',μ <+: μ'->fF X.K H H'->Rl X μ' ρ st σ' H'->D.bk σ' H'
 |.ct ρ st=>∀μ' σ' H',μ <+: μ'->fF X.K H H'->Rl X μ' ρ st σ' H'->D.ct σ' H'
 |.rt w st=>∀μ' v H',μ <+: μ'->fF X.K H H'->jD X.K X.mg μ' st H'->bN X.K μ' H' w v->D.rt v H'
 |.ex c ρ st=>XS X c μ ρ st H
 |.bad=>False
theorem SK.mono{μ1:List Addr}{H1:Hp}{D:zx}{r:RS}(h:SK X μ H D r)(p:μ <+: μ1)(x:fF X.K H H1):SK X μ1 H1 D r:=by
 cases r with
 |nx ρ st=>exact fun μ' b H' a1 b1=>h μ' b H' (p.trans a1) (x.trans b1)
 |bk ρ st=>exact fun μ' b H' a1 b1=>h μ' b H' (p.trans a1) (x.trans b1)
 |ct ρ st=>exact fun μ' b H' a1 b1=>h μ' b H' (p.trans a1) (x.trans b1)
 |rt w st=>exact fun μ' b H' a1 b1=>h μ' b H' (p.trans a1) (x.trans b1)
 |ex c ρ st=>exact XS.mono h p x
 |bad=>exact h
def Ut(X:Cx)(g:FS):TS:=fun D σ H=>∃μ ρ st,Rl X μ ρ st σ H/\SK X μ H D (g ρ st)
structure SE(X:Cx)(e:Expr)(f:FE):Prop where
 h:PE X e (tE X f)
structure ST(X:Cx)(e:Expr)(f:FT):Prop where
 h:PT X e (tT X f)
structure SW(X:Cx)(e:Expr)(f:FT):Prop where
 h:PW X e (tT X f)
structure SA(X:Cx)(es:List Expr)(f:FA):Prop where
 h:PA X es (R4 X f)
structure SS(X:Cx)(s:Stmt)(g:FS):Prop where
 h:PS X s (Ut X g)
structure SB(X:Cx)(s:List Stmt)(g:FS):Prop where
 h:FC X s (Ut X g)
theorem PE.imp{t t':TE}(h:PE X e t)(i:∀σ H Q,t' σ H Q->t σ H Q):PE X e t':=fun ak s σ H Q I q=>h ak s σ H Q I (i _ _ _ q)
theorem PT.imp{t t':TT}(h:PT X e t)(i:∀σ H Q,t' σ H Q->t σ H Q):PT X e t':=fun ak s σ H Q I q=>h ak s σ H Q I (i _ _ _ q)
theorem PW.imp{t t':TT}(h:PW X e t)(i:∀σ H Q,t' σ H Q->t σ H Q):PW X e t':=fun wh ak s σ H Q I q=>h wh ak s σ H Q I (i _ _ _ q)
theorem PA.imp{e:List Expr}{t t':TA}(h:PA X e t)(i:∀σ H Q,t' σ H Q->t σ H Q):PA X e t':=fun pos ak s σ H Q I q=>h pos ak s σ H Q I (i _ _ _ q)
theorem PS.imp{e:Stmt}{t t':TS}(h:PS X e t)(i:∀D σ H,t' D σ H->t D σ H):PS X e t':=fun ak s σ H D I q=>h ak s σ H D I (i _ _ _ q)
theorem FC.imp{e:List Stmt}{t t':TS}(h:FC X e t)(i:∀D σ H,t' D σ H->t D σ H):FC X e t':=fun ak s σ H D I q=>h ak s σ H D I (i _ _ _ q)
section
variable{a b:Expr}{gM:List Expr}{fb fc:FE}{ft fu:FT}{fs:FA}
def ag(i:Nat):FE:=fun ρ st=>match ρ[i]? with
 |some (some w)=>.ok w st
 |_=>.bad
theorem ae(i:Nat){pos:Pos}(hN:X.N[i]?=some x:=by rfl)(hv:Re X.env.scope x:=by first|exact Or.inl rfl|exact Or.inr (Or.inl rfl)|exact Or.inr (Or.inr rfl))(hd:(x==("__debug__":Str))=false:=by decide)
  (C4:(x==("__classdict__":Str))=false:=by decide):SE X (.Name x pos) (ag i):=⟨(pv i hN hv hd C4).imp fun σ H Q h=>by
 obtain⟨μ,ρ,st,r,h⟩:=h
 unfold ag at h
 cases e:ρ[i]? with
 |none=>rw[e]at h;exact h.elim
 |some ow=>
  cases ow with
  |none=>rw[e]at h;exact h.elim
  |some w=>
   rw[e]at h
   obtain⟨v,e1,e2⟩:=wD r.env e
   exact⟨v,e1,h μ v H (aq _) fF.refl r.sto e2⟩⟩
def eC(w:W):FE:=fun _ st=>.ok w st
abbrev eI(n:Int):FE:=eC (.int n)
theorem R5{w:W}{v:V}(hc:PE X e (tC v))(hr:∀μ H,bN X.K μ H w v):SE X e (eC w):=⟨hc.imp fun σ H Q h=>by
 obtain⟨μ,ρ,st,r,h⟩:=h
 exact h μ v H (aq _) fF.refl r.sto (hr _ _)⟩
theorem aB{i:Int}:SE X (.Constant (.int i) j pos) (eC (.int i)):=R5 NX fun _ _=>.int
theorem oz{k:Bool}:SE X (.Constant (.bool k) j pos) (eC (.bl k)):=R5 Rg fun _ _=>.bl
theorem qb:SE X (.Constant .none j pos) (eC .non):=R5 NY fun _ _=>.non
theorem e_(h:x=tx l:=by decide +kernel):SE X (.Constant (.str x) j pos) (eC (.str l)):=R5 NZ fun _ _=>by rw[h];exact .str
theorem Vl{w:W}(h:∃u v,X.mg x=some u/\dA 0 v u/\∀μ H,bN X.K μ H w v)(hg:Gl X x:=by rfl)(hd:(x==("__debug__":Str))=false:=by decide):SE X (.Name x pos) (eC w):=by
 obtain⟨u,v,a,b,c⟩:=h
 exact R5 (RQ ⟨u,a,b⟩ hg hd) c
def e2(f:W->W->List au->R W)(fa fb:FE):FE:=fun ρ st=>(fa ρ st).bind fun x st=>(fb ρ st).bind fun y st=>f x y st
def GN(X:Cx)(μ:List Addr)(H:Hp)(Q:VK):R W->Prop
 |.ok w bh=>∀μ' v H',μ <+: μ'->fF X.K H H'->jD X.K X.mg μ' bh H'->bN X.K μ' H' w v->Q v H'
 |_=>False
def vE:R α->Prop
 |.ex _ _=>False
 |_=>True
def Vm(X:Cx)(f:W->W->List au->R W):R2:=fun x y H Q=>∃μ st wx wy,jD X.K X.mg μ st H/\bN X.K μ H wx x/\bN X.K μ H wy y/\GN X μ H Q (f wx wy st)
structure xU(X:Cx)(g:Value->Value->Sem Value)(f:W->W->List au->R W):Prop where
 h:pT X g (Vm X f)
 n:∀x y st,vE (f x y st)
theorem uC{Q:VK}{r:R W}(h:RK X (uz X) μ σ H Q r)(n:vE r):GN X μ H Q r:=by
 cases r with
 |ok a st=>exact h
 |ex c st=>exact n.elim
 |bad=>exact h
theorem EX{f:W->W->List au->R W}{Q:VK}(n:∀x y st,vE (f x y st))(h:tE X (e2 f fa fb) σ H Q):Rt (Vm X f) (tE X fa) (tE X fb) σ H Q:=by
 walk_at "2"
 refine⟨μ,ρ,st,l,RK.bind h l fun μ1 st1 x v H1 p1 x1 l1 q1 h1=>⟨μ1,ρ,st1,l1,RK.bind h1 l1 fun μ2 de y u H2 p2 x2 l2 q2 h2=>?_⟩⟩
 exact⟨μ2,de,x,y,l2.sto,q1.mono p2 x2,q2,uC h2 (n _ _ _)⟩
theorem bC{op:Operator}{f:W->W->List au->R W}(ho:xU X (binaryOp op) f)(ha:SE X a fa)(hb:SE X b fb):SE X (.BinOp a op b pos) (e2 f fa fb):=⟨(Ru ho.h ha.h hb.h).imp fun _ _ _ h=>EX ho.n h⟩
theorem sY{f:W->W->List au->R W}(ho:xU X (compareOp op) f)(ha:SE X a fa)(hb:SE X b fb)(hm:behindInMarks op b=false:=by first|exact G8 _|rfl):SE X (.Compare a [op] [b] pos) (e2 f fa fb):=⟨(K2 ho.h ha.h hb.h hm).imp fun _ _ _ h=>EX ho.n h⟩
def eP(fa:FE):FT:=fun ρ st=>(fa ρ st).bind fun x st=>match x with
 |.bl k=>.ok k st
 |_=>.bad
theorem sZ{Q:Bool->Hp->Prop}(h:tT X (eP fa) σ H Q):tE X fa σ H fun x H1=>∃k,x=.bl k/\Q k H1:=by
 walk_at "2"
 walk_at "1"
 cases x with
 |bl k=>exact⟨k,q1.blE,h1 μ1 k H1 (aq _) fF.refl l1.sto rfl⟩
 |_=>exact h1.elim
theorem cw{f:W->W->List au->R W}(ho:xU X (compareOp op) f)(ha:SE X a fa)(hb:SE X b fb)(hm:behindInMarks op b=false:=by first|exact G8 _|rfl):ST X (.Compare a [op] [b] pos) (eP (e2 f fa fb)):=⟨(K4 ho.h ha.h hb.h hm).imp fun σ H Q h=>by
 have h':tE X (e2 f fa fb) σ H fun x H1=>∃k,x=.bl k/\Q k H1:=sZ h
 exact EX ho.n h'⟩
theorem hV(h:SE X e fe)(he:∀whole,isTrue e X.env whole=(do let v <- whole;standAt e.pos;holding [v] (truthy v)):=by intro _;rfl):ST X e (eP fe):=⟨(N1 h.h he).imp fun σ H Q h=>sZ h⟩
def KA(t u:FT):FT:=fun ρ st=>(t ρ st).bind fun k st=>if k then u ρ st else .ok false st
def F_(t u:FT):FT:=fun ρ st=>(t ρ st).bind fun k st=>if k then .ok true st else u ρ st
def A8(t:FT):FT:=fun ρ st=>(t ρ st).bind fun k st=>.ok (!k) st
theorem zL(ha:ST X a ft):SW X (.BoolOp .And [a] pos) ft:=⟨KP ha.h⟩
theorem uD(ha:ST X a ft):SW X (.BoolOp .Or [a] pos) ft:=⟨N2 ha.h⟩
theorem Dz(ha:ST X a ft)(hb:SW X (.BoolOp .And (b::gM) pos) fu):SW X (.BoolOp .And (a::b::gM) pos) (KA ft fu):=⟨(N3 ha.h hb.h).imp fun σ H Q h=>by
 walk_at "2"
 walk_at "1"
 cases q1
 cases x with
 |true=>exact⟨μ1,ρ,st1,l1,h1⟩
 |false=>exact h1 μ1 false H1 (aq _) fF.refl l1.sto rfl⟩
theorem yO(ha:ST X a ft)(hb:SW X (.BoolOp .Or (b::gM) pos) fu):SW X (.BoolOp .Or (a::b::gM) pos) (F_ ft fu):=⟨(Ri ha.h hb.h).imp fun σ H Q h=>by
 walk_at "2"
 walk_at "1"
 cases q1
 cases x with
 |false=>exact⟨μ1,ρ,st1,l1,h1⟩
 |true=>exact h1 μ1 true H1 (aq _) fF.refl l1.sto rfl⟩
theorem zM(h:SW X e ft):ST X e ft:=⟨h.h.pt⟩
theorem kI(ha:ST X a ft):ST X (.UnaryOp .Not a pos) (A8 ft):=⟨(N4 ha.h).imp fun σ H Q h=>by
 walk_at "2"
 walk_at "1"
 cases q1
 exact h1 μ1 _ H1 (aq _) fF.refl l1.sto rfl⟩
def zN(fa fb:FE):FE:=fun ρ st=>(fa ρ st).bind fun x st=>match x with
 |.bl true=>fb ρ st
 |.bl false=>.ok (.bl false) st
 |_=>.bad
def Lr(fa:FE):FE:=fun ρ st=>(fa ρ st).bind fun x st=>match x with
 |.bl k=>.ok (.bl (!k)) st
 |_=>.bad
theorem Bs{op:BoolOp}(h:SE X a fa):SE X (.BoolOp op [a] pos) fa:=⟨N5 h.h⟩
theorem yP(ha:SE X a fa)(hb:SE X (.BoolOp .And (b::gM) pos) fb):SE X (.BoolOp .And (a::b::gM) pos) (zN fa fb):=⟨(N6 ha.h hb.h).imp fun σ H Q h=>by
 walk_at "2"
 walk_at "1"
 cases x with
 |bl k=>
  refine⟨k,q1.blE,?_⟩
  cases k with
  |true=>exact⟨μ1,ρ,st1,l1,h1⟩
  |false=>exact h1 μ1 _ H1 (aq _) fF.refl l1.sto .bl
 |_=>exact h1.elim⟩
theorem R6(ha:SE X a fa):SE X (.UnaryOp .Not a pos) (Lr fa):=⟨(N7 ha.h).imp fun σ H Q h=>by
 walk_at "2"
 walk_at "1"
 cases x with
 |bl k=>exact⟨k,q1.blE,h1 μ1 _ H1 (aq _) fF.refl l1.sto .bl⟩
 |_=>exact h1.elim⟩
def GO(t:FT)(fa fb:FE):FE:=fun ρ st=>(t ρ st).bind fun k st=>if k then fa ρ st else fb ρ st
theorem DA(hc:ST X c ft)(ha:SE X a fa)(hb:SE X b fb):SE X (.IfExp c a b pos) (GO ft fa fb):=⟨(GV hc.h ha.h hb.h).imp fun σ H Q h=>by
 walk_at "2"
 walk_at "1"
 cases q1
 cases x with
 |false=>exact⟨μ1,ρ,st1,l1,h1⟩
 |true=>exact⟨μ1,ρ,st1,l1,h1⟩⟩
noncomputable def W.isNon:W->Bool
 |.non=>true
 |_=>false
def zO(fa:FE):FE:=fun ρ st=>(fa ρ st).bind fun x st=>.ok (.bl x.isNon) st
def iC(fa:FE):FE:=fun ρ st=>(fa ρ st).bind fun x st=>.ok (.bl (!x.isNon)) st
theorem Mx{w:W}{v:V}(r:bN X.K μ H w v):decide (v=.non)=w.isNon:=by
 cases w with
 |non=>rw[r.nonE];rfl
 |bl b=>rw[r.blE];rfl
 |int b=>rw[r.intE];rfl
 |str b=>rw[r.strE];rfl
 |tup b=>obtain⟨p,vs,rfl,_⟩:=r.tupE;rfl
 |loc b=>obtain⟨p,_,rfl⟩:=r.locE;rfl
theorem My{Q:VK}(h:tE X (zO fa) σ H Q):Rh (tE X fa) σ H Q:=by
 walk_at "2"
 walk_at "1"
 show Q (.bl (decide (v=.non))) H1
 rw[Mx q1]
 exact h1 μ1 _ H1 (aq _) fF.refl l1.sto .bl
theorem OQ{Q:VK}(h:tE X (iC fa) σ H Q):Mq (tE X fa) σ H Q:=by
 walk_at "2"
 walk_at "1"
 show Q (.bl (!decide (v=.non))) H1
 rw[Mx q1]
 exact h1 μ1 _ H1 (aq _) fF.refl l1.sto .bl
theorem R7(ha:SE X a fa):SE X (.Compare a [.Is] [.Constant .none j i_] pos) (zO fa):=⟨(N0 (GT ha.h)).imp fun _ _ _ h=>My h⟩
theorem DB(ha:SE X a fa):ST X (.Compare a [.Is] [.Constant .none j i_] pos) (eP (zO fa)):=⟨(GU (GT ha.h)).imp fun _ _ _ h=>My (sZ h)⟩
theorem js(ha:SE X a fa):ST X (.Compare a [.IsNot] [.Constant .none j i_] pos) (eP (iC fa)):=⟨(GU (KO ha.h)).imp fun _ _ _ h=>OQ (sZ h)⟩
def aD:FA:=fun _ st=>.ok [] st
def ah(fa:FE)(fs:FA):FA:=fun ρ st=>(fa ρ st).bind fun x st=>(fs ρ st).bind fun xs st=>.ok (x::xs) st
theorem ar:SA X [] aD:=⟨uv.imp fun σ H Q h=>by
 walk_at "2"
 exact h μ [] H (aq _) fF.refl l.sto .nilI⟩
theorem aa(ha:SE X e fe)(hr:SA X es fs)(hs:starEach (e::es) X.env=(false,eval e X.env)::starEach es X.env:=by rfl):SA X (e::es) (ah fe fs):=⟨(kY ha.h hr.h hs).imp fun σ H Q h=>by
 walk_at "2"
 refine⟨μ,ρ,st,l,RK.bind h l fun μ1 st1 x v H1 p1 x1 l1 q1 h1=>⟨μ1,ρ,st1,l1,RK.bind h1 l1 fun μ2 de xs vs H2 p2 x2 l2 q2 h2=>?_⟩⟩
 exact h2 μ2 _ H2 (aq _) fF.refl l2.sto (.consI (q1.mono p2 x2) q2)⟩
def R8(zs:List (List Nat)):FA:=fun _ st=>.ok (zs.map W.str) st
def rq(ws:List W)(st:List au):R W:=if ws.length<=nQ then .ok (.tup ws) st else .bad
def qc(ws:List W)(st:List au):R W:=if ws.length<=nQ then .ok #[5] (st++[.lst ws])else .bad
def fK(fs:FA):FE:=fun ρ st=>(fs ρ st).bind fun ws st=>rq ws st
def l8(fs:FA):FE:=fun ρ st=>(fs ρ st).bind fun ws st=>qc ws st
theorem jD.newLst(S:jD K mg μ st H){p:Addr}(hp:H p=none)(r:RelWs K μ H ws vs):jD K mg (μ++[p]) (st++[.lst ws]) (fW H p (.lst vs)):=
 S.push hp ⟨vs,ib,r.mono (a_ _ _) (gz.same (cU hp _))⟩
theorem qd(S:jD K mg μ st H){p:Addr}:bN K (μ++[p]) H' #[5] (.ref p):=.locI (by rw[S.len];simp)
theorem HA{Q:VK}(S:jD X.K X.mg μ st H)(q:RelWs X.K μ H ws vs)(h:RK X (uz X) μ σ H Q (rq ws st)):vs.length<=sizeLine/\∀p H2,H p=none->H2=fW H p (.tup vs)->Q (.ref p) H2:=by
 unfold rq at h
 by_cases hz:ws.length<=nQ
 ·rw[aK hz]at h
  refine⟨by rw[<- q.len];exact qa hz,fun p H2 hp e=>?_⟩
  subst e
  have x:=gz.same (K:=X.K) (cU hp (.tup vs))
  exact h μ _ _ (aq _) x (S.same (cU hp _)) (.tupI gz.new (q.mono (aq _) x))
 ·rw[aU hz]at h;exact h.elim
theorem wE{σ:St}{Q:VK}(S:jD X.K X.mg μ st H)(q:RelWs X.K μ H ws vs)(h:RK X (uz X) μ σ H Q (qc ws st)):vs.length<=sizeLine/\∀p H2,H p=none->H2=fW H p (.lst vs)->Q (.ref p) H2:=by
 unfold qc at h
 by_cases hz:ws.length<=nQ
 ·rw[aK hz]at h
  refine⟨by rw[<- q.len];exact qa hz,fun p H2 hp e=>?_⟩
  subst e
  exact h (μ++[p]) _ _ (a_ _ _) (gz.same (cU hp _)) (S.newLst hp q) (qd S)
 ·rw[aU hz]at h;exact h.elim
theorem dY(h:SA X es fs):SE X (.Tuple es k pos) (fK fs):=⟨(ET h.h).imp fun σ H Q h=>by
 walk_at "2"
 exact⟨μ,ρ,st,l,RK.bind h l fun μ1 st1 x v H1 p1 x1 l1 q1 h1=>HA l1.sto q1 h1⟩⟩
theorem jL(h:SA X es fs):SE X (.List es pos) (l8 fs):=⟨(Li h.h).imp fun σ H Q h=>by
 walk_at "2"
 exact⟨μ,ρ,st,l,RK.bind h l fun μ1 st1 x v H1 p1 x1 l1 q1 h1=>wE l1.sto q1 h1⟩⟩
end
end L2
namespace L2
open PySem PySem.Spec PyProof.Rows
section
theorem l9{Q:VK}{i:Int}(S:jD X.K X.mg μ st H)(h:GN X μ H Q (.ok (.int i) st)):Q (.int i) H:=h μ _ H (aq _) fF.refl S .int
theorem qe{Q:VK}{i:Bool}(S:jD X.K X.mg μ st H)(h:GN X μ H Q (.ok (.bl i) st)):Q (.bl i) H:=h μ _ H (aq _) fF.refl S .bl
theorem s9{Q:VK}{i:List Nat}(S:jD X.K X.mg μ st H)(h:GN X μ H Q (.ok (.str i) st)):Q (.str (tx i)) H:=h μ _ H (aq _) fF.refl S .str
theorem OR{Q:VK}{r:R W}(h:GN X μ H Q r):RK X (uz X) μ σ H Q r:=by
 cases r with
 |ok a st=>exact h
 |ex c st=>exact h.elim
 |bad=>exact h
noncomputable def F'(C:Int->Int->Prop)[∀i j,Decidable (C i j)](f:Int->Int->Int):W->W->List au->R W
 |.int i,.int j,st=>if C i j then .ok (.int (f i j)) st else .bad
 |_,_,_=>.bad
theorem Bt{C C':Int->Int->Prop}[∀i j,Decidable (C' i j)]{f:Int->Int->Int}(h:pT X g (rI C fun i j=>.int (f i j)))(hC:∀i j,C' i j->C i j):xU X g (F' C' f):=⟨h.imp fun x y H Q zq=>by
 obtain⟨μ,st,wx,wy,S,rx,ry,q⟩:=zq
 cases wx with
 |int i=>
  cases wy with
  |int j=>
   simp only[F']at q
   by_cases c:C' i j
   ·rw[aK c]at q;exact⟨i,j,rx.intE,ry.intE,hC i j c,l9 S q⟩
   ·rw[aU c]at q;exact q.elim
  |_=>exact q.elim
 |_=>cases wy<;>exact q.elim,fun x y st=>by
 unfold F'
 split
 ·split<;>trivial
 ·trivial⟩
noncomputable def Ga(f:Int->Int->Bool):W->W->List au->R W
 |.int i,.int j,st=>.ok (.bl (f i j)) st
 |_,_,_=>.bad
theorem HB{f:Int->Int->Bool}(h:pT X g (G6 fun i j=>.bl (f i j))):xU X g (Ga f):=⟨h.imp fun x y H Q zq=>by
 obtain⟨μ,st,wx,wy,S,rx,ry,q⟩:=zq
 cases wx with
 |int i=>
  cases wy with
  |int j=>exact⟨i,j,rx.intE,ry.intE,qe S q⟩
  |_=>exact q.elim
 |_=>cases wy<;>exact q.elim,fun x y st=>by
 unfold Ga
 split<;>trivial⟩
abbrev OS(i j:Int):Prop:=(-(2^64)<i/\i<2^64)\/(-(2^64)<j/\j<2^64)
abbrev lF:=F' (fun _ _=>True) fun i j=>i-j
abbrev R9:=F' OS fun i j=>i*j
abbrev iY:=F' (fun _ j=>0<j) fun i j=>i%j
abbrev vk:=F' (fun _ j=>0<j/\j<1073741824) fun i j=>i/j
abbrev R_:=F' (fun i j=>0<=j/\j<=1000000/\i.natAbs<2^64) fun i j=>i^j.toNat
abbrev Bu:=F' (fun i j=>0<=j/\j<=1000000/\i.natAbs<2^64) fun i j=>i*2^j.toNat
abbrev OT:=F' (fun _ j=>0<=j) fun i j=>i/2^j.toNat
abbrev HC:=F' (fun _ _=>True) fun i j=>Builtin.bitAnd i j
theorem HD{f:Int->Int->V}(h:pT X g (G6 f)):pT X g (rI (fun _ _=>True) f):=h.imp fun _ _ _ _ ⟨i,j,a,b,_,q⟩=>⟨i,j,a,b,q⟩
theorem j4:xU X (binaryOp .Sub) lF:=Bt (HD Oj) fun _ _ _=>trivial
theorem R':xU X (binaryOp .Mult) R9:=Bt Ol fun _ _ h=>h
theorem ic:xU X (binaryOp .Mod) iY:=Bt Om fun _ _ h=>h
theorem uE:xU X (binaryOp .FloorDiv) vk:=Bt K1 fun _ _ h=>h
theorem Sa:xU X (binaryOp .Pow) R_:=Bt On fun _ _ h=>h
theorem Mz:xU X (binaryOp .LShift) Bu:=Bt G7 fun _ _ h=>h
theorem Sb:xU X (binaryOp .RShift) OT:=Bt Oo fun _ _ h=>h
theorem OU:xU X (binaryOp .BitAnd) HC:=Bt (HD Op) fun _ _ _=>trivial
def cO:W->W->List au->R W
 |.int i,.int j,st=>.ok (.int (i+j)) st
 |.str a,.str b,st=>if a.length+b.length<=nQ then .ok (.str (a++b)) st else .bad
 |.tup a,.tup b,st=>rq (a++b) st
 |.loc n,.loc m,st=>match st[n]?,st[m]? with
  |some (.lst a),some (.lst b)=>qc (a++b) st
  |_,_=>.bad
 |_,_,_=>.bad
theorem Ls(ws:List W)(st:List au):vE (rq ws st):=by unfold rq;split<;>trivial
theorem Lu(ws:List W)(st:List au):vE (qc ws st):=by unfold qc;split<;>trivial
theorem cF:xU X (binaryOp .Add) cO:=⟨fun ak s σ H x y v u Q I rv ru zq=>by
 obtain⟨μ,st,wx,wy,S,rx,ry,q⟩:=zq
 cases wx with
 |int i=>
  cases wy with
  |int j=>exact Oi ak s σ H x y v u Q I rv ru ⟨i,j,rx.intE,ry.intE,l9 S q⟩
  |_=>exact q.elim
 |str a=>
  cases wy with
  |str b=>
   simp only[cO]at q
   by_cases c:a.length+b.length<=nQ
   ·rw[aK c]at q
    exact C_ ak s σ H x y v u Q I rv ru ⟨_,_,rx.strE,ry.strE,by rw[jC,jC];exact qa c,by rw[Dp];exact s9 S q⟩
   ·rw[aU c]at q;exact q.elim
  |_=>exact q.elim
 |tup a=>
  cases wy with
  |tup b=>
   obtain⟨p1,vs1,rfl,h1,r1⟩:=rx.tupE
   obtain⟨p2,vs2,rfl,h2,r2⟩:=ry.tupE
   have q':GN X μ H Q (rq (a++b) st):=q
   unfold rq at q'
   by_cases c:(a++b).length<=nQ
   ·rw[aK c]at q'
    refine ON.h ak s σ H _ _ v u Q I rv ru ⟨p1,p2,vs1,vs2,rfl,rfl,h1,h2,by rw[<- r1.len,<- r2.len,<- ai];exact qa c,fun p H2 e t=>?_⟩
    exact q' μ _ _ (aq _) (gz.same e) (S.same e) (.tupI t ((r1.app r2).mono (aq _) (gz.same e)))
   ·rw[aU c]at q';exact q'.elim
  |_=>exact q.elim
 |loc n=>
  cases wy with
  |loc m=>
   simp only[cO]at q
   cases e1:st[n]? with
   |none=>rw[e1]at q;exact q.elim
   |some c1=>
    cases e2:st[m]? with
    |none=>rw[e1,e2]at q;cases c1<;>exact q.elim
    |some c2=>
     cases c1 with
     |lst a=>
      cases c2 with
      |lst b=>
       rw[e1,e2]at q
       obtain⟨a1,g1,vs1,k1,r1⟩:=S.get e1
       obtain⟨a2,g2,vs2,k2,r2⟩:=S.get e2
       obtain⟨b1,f1,rfl⟩:=rx.locE
       obtain⟨b2,f2,rfl⟩:=ry.locE
       rw[g1]at f1;cases f1
       rw[g2]at f2;cases f2
       obtain⟨hz,qq⟩:=wE (σ:=σ) S (r1.app r2) (OR q)
       exact Ll ak s σ H _ _ v u Q I rv ru ⟨a1,a2,vs1,vs2,rfl,rfl,k1,k2,by rw[<- ai];exact hz,qq⟩
      |_=>rw[e1,e2]at q;exact q.elim
     |_=>rw[e1,e2]at q;exact q.elim
  |_=>exact q.elim
 |_=>cases wy<;>exact q.elim,fun x y st=>by
 unfold cO
 split
 ·trivial
 ·split<;>trivial
 ·exact Ls _ _
 ·split
  ·exact Lu _ _
  ·trivial
 ·trivial⟩
abbrev Lv:=Ga fun i j=>decide (i<j)
abbrev Gb:=Ga fun i j=>decide (j<i)
abbrev OV:=Ga fun i j=>decide (j<=i)
theorem w_lt:xU X (compareOp .Lt) Lv:=HB Rw
theorem x8:xU X (compareOp .Gt) Gb:=HB Ry
theorem Lw:xU X (compareOp .GtE) OV:=HB Rz
end
end L2
namespace L2
open PySem PySem.Spec PyProof.Rows
mutual
noncomputable def l_:W->W->Option Bool
 |.non,.non=>some true
 |.bl a,.bl b=>some (a==b)
 |.bl a,.int b=>some ((if a then 1 else 0)==b)
 |.int a,.bl b=>some (a==(if b then 1 else 0))
 |.int a,.int b=>some (a==b)
 |.str a,.str b=>some (a==b)
 |.tup a,.tup b=>eqWs a b
 |.loc _,_=>none
 |.non,.loc _=>none
 |.bl _,.loc _=>none
 |.int _,.loc _=>none
 |.str _,.loc _=>none
 |.tup _,.loc _=>none
 |.non,.bl _=>some false
 |.non,.int _=>some false
 |.non,.str _=>some false
 |.non,.tup _=>some false
 |.bl _,.non=>some false
 |.bl _,.str _=>some false
 |.bl _,.tup _=>some false
 |.int _,.non=>some false
 |.int _,.str _=>some false
 |.int _,.tup _=>some false
 |.str _,.non=>some false
 |.str _,.bl _=>some false
 |.str _,.int _=>some false
 |.str _,.tup _=>some false
 |.tup _,.non=>some false
 |.tup _,.bl _=>some false
 |.tup _,.int _=>some false
 |.tup _,.str _=>some false
noncomputable def eqWs:List W->List W->Option Bool
 |[],[]=>some true
 |[],_::_=>some false
 |_::_,[]=>some false
 |x::xs,y::ys=>match l_ x y,eqWs xs ys with
  |some a,some b=>some (a&&b)
  |_,_=>none
end
mutual
noncomputable def W.dep:W->Nat
 |.tup ws=>depWs ws+1
 |_=>0
noncomputable def depWs:List W->Nat
 |[]=>0
 |w::ws=>max w.dep (depWs ws)
end
theorem r9:∀(xs ys:List W) (b:Bool),eqWs xs ys=some b->∃e:Nat->Bool,(∀j (h1:j<xs.length) (h2:j<ys.length),l_ xs[j] ys[j]=some (e j))/\((List.range (min xs.length ys.length)).all e&&xs.length==ys.length)=b
 |[],[],b,h=>by unfold eqWs at h;cases h;exact⟨fun _=>true,fun j h1=>absurd h1 (lV _),rfl⟩
 |[],y::ys,b,h=>by unfold eqWs at h;cases h;exact⟨fun _=>true,fun j h1=>absurd h1 (lV _),by simp⟩
 |x::xs,[],b,h=>by unfold eqWs at h;cases h;exact⟨fun _=>true,fun j _ h1=>absurd h1 (lV _),by simp⟩
 |x::xs,y::ys,b,h=>by
  unfold eqWs at h
  cases e1:l_ x y with
  |none=>rw[e1]at h;simp at h
  |some a=>
   cases e2:eqWs xs ys with
   |none=>rw[e1,e2]at h;simp at h
   |some c=>
    rw[e1,e2]at h
    simp at h
    obtain⟨e,he,hb⟩:=r9 xs ys c e2
    refine⟨fun j=>match j with|0=>a|j+1=>e j,fun j h1 h2=>?_,?_⟩
    ·cases j with
     |zero=>exact e1
     |succ j=>exact he j (ko h1) (ko h2)
    ·have m:min (x::xs).length (y::ys).length=min xs.length ys.length+1:=by simp only[b6];omega
     rw[m,ph,List.all_cons,List.all_map,<- h,<- hb]
     simp[Function.comp_def,Bool.and_assoc]
theorem EY{a b:W}{x:V}{k:Bool}(hn:a.dep<=0)(ra:bN X.K μ H a x)(rb:bN X.K μ H b x)(he:l_ a b=some k):k=true:=by
 cases a with
 |tup i=>unfold W.dep at hn;omega
 |non=>cases ra.nonE;cases b<;>first|(unfold l_ at he;cases he;rfl)|cases rb.blE|cases rb.intE|cases rb.strE|(obtain⟨_,_,z,_⟩:=rb.tupE;cases z)|(unfold l_ at he;cases he)
 |bl i=>cases ra.blE;cases b<;>first|(cases rb.blE;unfold l_ at he;simp at he;exact he)|cases rb.nonE|cases rb.intE|cases rb.strE|(obtain⟨_,_,z,_⟩:=rb.tupE;cases z)|(unfold l_ at he;cases he)
 |int i=>cases ra.intE;cases b<;>first|(cases rb.intE;unfold l_ at he;simp at he;exact he)|cases rb.nonE|cases rb.blE|cases rb.strE|(obtain⟨_,_,z,_⟩:=rb.tupE;cases z)|(unfold l_ at he;cases he)
 |str i=>cases ra.strE;cases b<;>first|(have z:=rb.strE;injection z with z;rw[Dq.mp z]at he;unfold l_ at he;simp at he;exact he)|cases rb.nonE|cases rb.blE|cases rb.intE|(obtain⟨_,_,z,_⟩:=rb.tupE;cases z)|(unfold l_ at he;cases he)
 |loc i=>cases b<;>(unfold l_ at he;cases he)
theorem HE(I:bI X ak σ H s):∀(n:Nat) (a b:W) (x:V) (k:Bool),a.dep<=n->bN X.K μ H a x->bN X.K μ H b x->l_ a b=some k->k=true:=by
 intro n
 induction n with
 |zero=>exact fun a b x k hn ra rb he=>EY hn ra rb he
 |succ n ih=>
  intro a b x k hn ra rb he
  cases a with
  |tup i=>
   obtain⟨p',EF,rfl,hS',r'⟩:=ra.tupE
   cases b with
   |tup z=>
    obtain⟨p,vs,e,hS,r⟩:=rb.tupE
    cases e
    obtain rfl:=I.tuple_inj hS hS'
    have he':eqWs i z=some k:=by unfold l_ at he;exact he
    have dn:depWs i<=n:=by unfold W.dep at hn;omega
    have key:∀(i z:List W) (vs:List V) (k:Bool),depWs i<=n->RelWs X.K μ H i vs->RelWs X.K μ H z vs->eqWs i z=some k->k=true:=by
     intro i
     induction i with
     |nil=>
      intro z vs k _ r' r he
      have e1:=r'.nilE
      subst e1
      cases z with
      |nil=>unfold eqWs at he;cases he;rfl
      |cons _ _=>have e2:=r.len;simp at e2
     |cons w i ih2=>
      intro z vs k dn r' r he
      obtain⟨x,xs,rfl,rx,rxs⟩:=r'.consE
      cases z with
      |nil=>have e2:=r.len;simp at e2
      |cons y z=>
       obtain⟨x2,xs2,e3,ry,rys⟩:=r.consE
       cases e3
       unfold eqWs at he
       cases e1:l_ w y with
       |none=>rw[e1]at he;simp at he
       |some k1=>
        cases e2:eqWs i z with
        |none=>rw[e1,e2]at he;simp at he
        |some k2=>
         rw[e1,e2]at he
         simp at he
         unfold depWs at dn
         have q1:=ih w y x k1 #[0] rx ry e1
         have q2:=ih2 z xs k2 #[0] rxs rys e2
         rw[<- he,q1,q2];rfl
    exact key i z _ k dn r' r he'
   |non=>cases rb.nonE
   |bl z=>cases rb.blE
   |int z=>cases rb.intE
   |str z=>cases rb.strE
   |loc z=>unfold l_ at he;cases he
  |_=>exact EY (aA _) ra rb he
theorem uF:∀{ws:List W} {j:Nat} (h:j<ws.length),ws[j].dep<=depWs ws
 |w::ws,0,_=>by unfold depWs;exact Nat.le_max_left _ _
 |w::ws,j+1,h=>by unfold depWs;exact aN (uF (j:=j) (ko h)) (Nat.le_max_right _ _)
inductive Sh(s:Shared):W->Value->Prop
 |non:Sh s .non .none
 |bl (b:Bool):Sh s (.bl b) (.bool b)
 |int (i:Int) (t:Tok):Sh s (.int i) (.int i t)
 |str (l:List Nat) (t:Tok):Sh s (.str l) (.str (tx l) t)
 |tup (ws:List W) (p:Addr) (bO:List Value) (h:IsTup s.heap p bO.toArray):Sh s (.tup ws) (.ref p)
 |loc (n:Nat) (u:Value):Sh s (.loc n) u
section
theorem vm(I:bI X ak σ H s){a:W}{x:V}(ra:bN X.K μ H a x)(ru:dA s.toks x u):Sh s a u:=by
 cases a with
 |non=>cases ra.nonE;cases ru;exact .non
 |bl i=>cases ra.blE;cases ru;exact .bl _
 |int i=>cases ra.intE;obtain⟨t,rfl⟩:=ru;exact .int _ _
 |str i=>cases ra.strE;obtain⟨t,rfl⟩:=ru;exact .str _ _
 |tup i=>obtain⟨p,vs,rfl,hS,_⟩:=ra.tupE;cases ru;obtain⟨bO,_,ht,_⟩:=I.tuple hS;exact .tup _ _ _ ht
 |loc i=>exact .loc _ _
open SeqAt.EqAt in
theorem EZ{a b:W}{k:Bool}(ha:Sh s a u)(hb:Sh s b v)(hu:A.units<cLine)(ht:b.dep=0\/a.dep=0)(he:l_ a b=some k):SeqAt.EqAt A s u v k:=by
 cases ha<;>cases hb<;>first
  |(unfold l_ at he;cases he;done)
  |(unfold l_ at he;cases he;with_reducible first|exact same _|exact bool_none _|exact bool_bool _ _|exact bool_int _ _ _|exact bool_str _ _ _|exact int_none _ _|exact int_bool _ _ _|exact int_int _ _ _ _|exact int_str _ _ _ _|exact str_none _ _|exact str_bool _ _ _|exact str_int _ _ _ _|exact none_bool _|exact none_int _ _|exact none_str _ _)
  |(unfold l_ at he;cases he;(with_reducible first|refine' bool_tuple _ ?_ hu|refine' int_tuple _ _ ?_ hu|refine' str_tuple _ _ ?_ hu|refine' tuple_none ?_ hu|refine' tuple_bool _ ?_ hu|refine' tuple_int _ _ ?_ hu|refine' tuple_str _ _ ?_ hu|refine' none_tuple ?_ hu);rotate_left;assumption)
  |(unfold W.dep at ht;omega)
  |skip
 rename_i i t z r
 unfold l_ at he;cases he
 have:=str_str (A:=A) (s:=s) (tx i) t (tx z) r
 rw[<- rX]at this
 exact this
open SeqAt.RcAt in
theorem Lx{a b:W}{k:Bool}(ha:Sh s a u)(hb:Sh s b v)(hu:A.units<cLine)(ht:b.dep=0\/a.dep=0)(he:l_ a b=some k):SeqAt.RcAt A s u v k:=by
 cases ha<;>cases hb<;>first
  |(unfold l_ at he;cases he;done)
  |(unfold l_ at he;cases he;with_reducible first|exact none_none|exact bool_none _|exact bool_bool _ _|exact bool_int _ _ _|exact bool_str _ _ _|exact int_none _ _|exact int_bool _ _ _|exact int_int _ _ _ _|exact int_str _ _ _ _|exact str_none _ _|exact str_bool _ _ _|exact str_int _ _ _ _|exact none_bool _|exact none_int _ _|exact none_str _ _)
  |(unfold l_ at he;cases he;(with_reducible first|refine' bool_tuple _ ?_ hu|refine' int_tuple _ _ ?_ hu|refine' str_tuple _ _ ?_ hu|refine' tuple_none ?_ hu|refine' tuple_bool _ ?_ hu|refine' tuple_int _ _ ?_ hu|refine' tuple_str _ _ ?_ hu|refine' none_tuple ?_ hu);rotate_left;assumption)
  |(unfold W.dep at ht;omega)
  |skip
 rename_i i t z r
 unfold l_ at he;cases he
 have:=str_str (A:=A) (s:=s) (tx i) t (tx z) r
 rw[<- rX]at this
 exact this
open SeqAt.RcNeAt in
theorem Gd         {a b:W}  {k:Bool} (ha : Sh s a u) (hb : Sh s b v) (hu : A.units < cLine) (ht : b.dep = 0 \/ a.dep = 0) (he : l_  a b = some k) : SeqAt.RcNeAt A s u v (!k) := by
  cases ha <;> cases hb <;> first
    | (unfold l_  at he; cases he; done)
    | (unfold l_  at he; cases he; try simp only [Bool.not_true, Bool.not_false]
       with_reducible first | exact none_none | exact bool_none _ | exact bool_bool _ _ | exact bool_int _ _ _ | exact bool_str _ _ _ | exact int_none _ _ | exact int_bool _ _ _ | exact int_int _ _ _ _ | exact int_str _ _ _ _ | exact str_none _ _ | exact str_bool _ _ _ | exact str_int _ _ _ _ | exact none_bool _ | exact none_int _ _ | exact none_str _ _)
    | (unfold l_  at he; cases he; try simp only [Bool.not_true, Bool.not_false]
       (with_reducible first | refine' bool_tuple _ ?_ hu | refine' int_tuple _ _ ?_ hu | refine' str_tuple _ _ ?_ hu | refine' tuple_none ?_ hu | refine' tuple_bool _ ?_ hu | refine' tuple_int _ _ ?_ hu | refine' tuple_str _ _ ?_ hu | refine' none_tuple ?_ hu); rotate_left; assumption)
    | (unfold W.dep at ht; omega)
    | skip
  rename_i i t z r
  unfold l_  at he; cases he
  have := str_str (A := A) (s := s) (tx i) t (tx z) r
  rw [<- rX           ] at this
  exact this
theorem Bv{i z:List W}{EF:List V}{its':List Value}{e:Nat->Bool}{A:Around}{m:Nat}(ih:∀(a b:W) (A:Around) (x y:V) (u v:Value) (k:Bool),a.dep<=m->bN X.K μ H a x->bN X.K μ H b y->dA nk x u->dA nk y v->A.units+m<cLine->l_ a b=some k->SeqAt.EqAt A s u v k)
  (r':RelWs X.K μ H i EF) (r:RelWs X.K μ H z vs) (w':cL nk EF its') (w:cL nk vs bO) (hd:depWs i<=m) (hu:A.units+1+m<cLine) (h1:∀j (h1:j<i.length) (h2:j<z.length),l_ i[j] z[j]=some (e j)):∀j (j1:j<its'.toArray.size) (j2:j<bO.toArray.size),SeqAt.EqAt A.in1 s its'.toArray[j] bO.toArray[j] (e j):=fun j j1 j2=>by
 have j1':j<i.length:=by rw[r'.len,w'.length];simpa using j1
 have j2':j<z.length:=by rw[r.len,w.length];simpa using j2
 obtain⟨x1,g1,q1⟩:=r'.get (aj j1')
 obtain⟨x2,g2,q2⟩:=r.get (aj j2')
 obtain⟨u1,f1,v1⟩:=w'.get g1
 obtain⟨u2,f2,v2⟩:=w.get g2
 have E:=ih i[j] z[j] A.in1 x1 x2 u1 u2 (e j) (aN (uF j1') hd) q1 q2 v1 v2 hu (h1 j j1' j2')
 have t1:its'.toArray[j]=u1:=by simpa using (ax.mp f1).2
 have t2:bO.toArray[j]=u2:=by simpa using (ax.mp f2).2
 rw[t1,t2];exact E
theorem HF(I:bI X ak σ H s):∀(n:Nat) (a b:W) (A:Around) (x y:V) (u v:Value) (k:Bool),a.dep<=n->bN X.K μ H a x->bN X.K μ H b y->dA s.toks x u->dA s.toks y v->A.units+n<cLine->l_ a b=some k->SeqAt.EqAt A s u v k:=by
 intro n
 induction n with
 |zero=>exact fun a b A x y u v k hn ra rb ru rv hu he=>EZ (vm I ra ru) (vm I rb rv) hu (.inr (by omega)) he
 |succ m ih=>
  intro a b A x y u v k hn ra rb ru rv hu he
  by_cases hb:b.dep=0\/a.dep=0
  ·exact EZ (vm I ra ru) (vm I rb rv) #[0] hb he
  ·cases b with
   |tup z=>
    cases a with
    |tup i=>
     obtain⟨p',EF,rfl,hS',r'⟩:=id ra.tupE;cases ru;obtain⟨its',w',ht',_⟩:=I.tuple hS'
     obtain⟨p,vs,rfl,hS,r⟩:=id rb.tupE;cases rv;obtain⟨bO,w,ht,_⟩:=I.tuple hS
     by_cases AO:p'=p
     ·subst AO
      rw[HE I (m+1) (.tup i) (.tup z) (.ref p') k hn ra rb he]
      exact SeqAt.EqAt.same _
     ·obtain⟨e,h1,h2⟩:=r9 i z k (by unfold l_ at he;exact he)
      have R:=SeqAt.RcAt.tuples (A:=A) (e:=e) ht' ht #[0] (Bv ih r' r w' w (by unfold W.dep at hn;omega) #[0] h1)
      rw[show its'.toArray.size=i.length by simp[<- w'.length,<- r'.len],show bO.toArray.size=z.length by simp[<- w.length,<- r.len],h2]at R
      exact SeqAt.EqAt.of_refs AO R
    |_=>exact(hb (.inr rfl)).elim
   |_=>exact(hb (.inl rfl)).elim
theorem HG(I:bI X ak σ H s){a b:W}{x y:V}{k:Bool}(hn:b.dep=0\/a.dep<=n)(ra:bN X.K μ H a x)(rb:bN X.K μ H b y)(ru:dA s.toks x u)(rv:dA s.toks y v)(hu:A.units+n<cLine)(he:l_ a b=some k):SeqAt.RcAt A s u v k/\SeqAt.RcNeAt A s u v (!k):=by
 by_cases hb:b.dep=0\/a.dep=0
 ·exact⟨Lx (vm I ra ru) (vm I rb rv) #[0] hb he,Gd (vm I ra ru) (vm I rb rv) #[0] hb he⟩
 cases b with
 |tup z=>
  cases a with
  |tup i=>
   obtain⟨p',EF,rfl,hS',r'⟩:=ra.tupE;cases ru;obtain⟨its',w',ht',_⟩:=I.tuple hS'
   obtain⟨p,vs,rfl,hS,r⟩:=rb.tupE;cases rv;obtain⟨bO,w,ht,_⟩:=I.tuple hS
   obtain⟨e,h1,h2⟩:=r9 i z k (by unfold l_ at he;exact he)
   have hd:depWs i+1<=n:=hn.elim (fun z=>(hb (.inl z)).elim) id
   obtain⟨m,rfl⟩:∃m,n=m+1:=⟨n-1,by omega⟩
   have T:=Bv (A:=A) (HF I m) r' r w' w #[0] #[0] h1
   have R:=SeqAt.RcAt.tuples (A:=A) (e:=e) ht' ht #[0] T
   have R2:=SeqAt.RcNeAt.tuples (A:=A) (e:=e) ht' ht #[0] T
   rw[show its'.toArray.size=i.length by simp[<- w'.length,<- r'.len],show bO.toArray.size=z.length by simp[<- w.length,<- r.len],h2]at R R2
   exact⟨R,R2⟩
  |_=>exact(hb (.inr rfl)).elim
 |_=>exact(hb (.inl rfl)).elim
end
def kz:W->W->List au->R W:=fun x y st=>match l_ x y with
 |some k=>if y.dep=0\/x.dep<=64 then .ok (.bl k) st else .bad
 |none=>.bad
theorem je(hr:jX k X.A):xU X (compareOp .Eq) kz:=⟨fun ak s σ H x y v u Q I rv ru zq=>by
 obtain⟨μ,st,wx,wy,S,rx,ry,q⟩:=zq
 unfold kz at q
 cases e:l_ wx wy with
 |none=>rw[e]at q;exact q.elim
 |some b=>
  rw[e]at q
  simp only at q
  by_cases c:wy.dep=0\/wx.dep<=64
  ·rw[aK c]at q
   have:=hr.units
   exact(HG I c rx ry rv ru this e).1 X.prog X.w X.xe _ ⟨.bl b,H,I,rfl,qe S q⟩
  ·rw[aU c]at q;exact q.elim,fun x y st=>by
 unfold kz
 split
 ·split<;>trivial
 ·trivial⟩
def KB:W->W->List au->R W:=fun x y st=>match l_ x y with
 |some k=>if y.dep=0\/x.dep<=64 then .ok (.bl (!k)) st else .bad
 |none=>.bad
theorem OW(hr:jX k X.A):xU X (compareOp .NotEq) KB:=⟨fun ak s σ H x y v u Q I rv ru zq=>by
 obtain⟨μ,st,wx,wy,S,rx,ry,q⟩:=zq
 unfold KB at q
 cases e:l_ wx wy with
 |none=>rw[e]at q;exact q.elim
 |some b=>
  rw[e]at q
  simp only at q
  by_cases c:wy.dep=0\/wx.dep<=64
  ·rw[aK c]at q
   have:=hr.units
   exact(HG I c rx ry rv ru this e).2 X.prog X.w X.xe _ ⟨.bl (!b),H,I,rfl,qe S q⟩
  ·rw[aU c]at q;exact q.elim,fun x y st=>by
 unfold KB
 split
 ·split<;>trivial
 ·trivial⟩
def x9(x:W):List W->Option Bool
 |[]=>some false
 |y::ys=>match l_ y x,x9 x ys with
  |some a,some b=>some (a||b)
  |_,_=>none
def GP(T4:Bool)(x y:W)(st:List au):R W:=match y with
 |.str l=>(match x with
  |.str [c]=>.ok (.bl (if T4 then !decide (c∈l)else decide (c∈l))) st
  |_=>.bad)
 |.tup ys=>(match x9 x ys with
  |some k=>if depWs ys<=63 then .ok (.bl (if T4 then !k else k)) st else .bad
  |none=>.bad)
 |.loc n=>(match st[n]? with
  |some (.lst ys)=>(match x9 x ys with
   |some k=>if depWs ys<=63 then .ok (.bl (if T4 then !k else k)) st else .bad
   |none=>.bad)
  |_=>.bad)
 |_=>.bad
theorem Bw{x:W}:∀{ys:List W} {k:Bool},x9 x ys=some k->(∀(j:Nat) w,ys[j]?=some w->∃b,l_ w x=some b)/\(k=true↔∃(j:Nat) (w:W),ys[j]?=some w/\l_ w x=some true)
 |[],k,h=>by
  unfold x9 at h;cases h
  exact⟨fun j w e=>by simp at e,fun z=>(by cases z),fun⟨j,w,e,_⟩=>(by simp at e)⟩
 |y::ys,k,h=>by
  unfold x9 at h
  cases e1:l_ y x with
  |none=>rw[e1]at h;simp at h
  |some a=>
   cases e2:x9 x ys with
   |none=>rw[e1,e2]at h;simp at h
   |some b=>
    rw[e1,e2]at h
    simp at h
    obtain⟨q1,q2⟩:=Bw e2
    refine⟨fun j w e=>?_,fun z=>?_,fun⟨j,w,e,f⟩=>?_⟩
    ·cases j with
     |zero=>simp at e;subst e;exact⟨a,e1⟩
     |succ j=>exact q1 j w (by simpa using e)
    ·rw[<- h]at z
     cases a with
     |true=>exact⟨0,y,rfl,e1⟩
     |false=>
      obtain⟨j,w,p,q⟩:=q2.mp (by simpa using z)
      exact⟨j+1,w,by simpa using p,q⟩
    ·rw[<- h]
     cases j with
     |zero=>simp at e;subst e;rw[e1]at f;cases f;rfl
     |succ j=>rw[q2.mpr ⟨j,w,by simpa using e,f⟩];simp
theorem wF(I:bI X ak σ H s){wx:W}{x:V}(rx:bN X.K μ H wx x)(rv:dA s.toks x v)(n:Nat){A:Around}(hu:A.units+n<cLine)
  {ys:List W} {vs:List V} {us:List Value} {k:Bool} (hd:depWs ys<=n) (rs:RelWs X.K μ H ys vs) (u_:cL s.toks vs us) (ha:x9 wx ys=some k):∃e:Value->Bool,(∀u,u∈us.toArray->SeqAt.EqAt A s u v (e u))/\us.toArray.any e=k:=by
 classical
 obtain⟨q1,q2⟩:=Bw ha
 have at':∀(j:Nat) (u:Value),us[j]?=some u->∃w b,ys[j]?=some w/\l_ w wx=some b/\SeqAt.EqAt A s u v b:=fun j u e=>by
  have hj:j<ys.length:=by
   have h1:=(ax.mp e).1
   rw[rs.len,u_.length];exact h1
  obtain⟨b,hb⟩:=q1 j ys[j] (aj hj)
  obtain⟨y,g1,r1⟩:=rs.get (aj hj)
  obtain⟨u',f1,v1⟩:=u_.get g1
  rw[e]at f1;cases f1
  exact⟨_,b,aj hj,hb,HF I n ys[j] wx A y x u v b (aN (uF hj) hd) r1 rx v1 rv hu hb⟩
 refine⟨fun u=>decide (∃(j:Nat) (w:W),us[j]?=some u/\ys[j]?=some w/\l_ w wx=some true),fun u hu=>?_,?_⟩
 ·by_cases c:∃(j:Nat) (w:W),us[j]?=some u/\ys[j]?=some w/\l_ w wx=some true
  ·show SeqAt.EqAt A s u v (decide _)
   rw[bG c]
   obtain⟨j,w,e1,e2,e3⟩:=c
   obtain⟨w',b,f1,f2,f3⟩:=at' j u e1
   rw[e2]at f1;cases f1
   rw[e3]at f2;cases f2
   exact f3
  ·show SeqAt.EqAt A s u v (decide _)
   rw[a7 c]
   obtain⟨j,hj,e⟩:=List.mem_iff_getElem.mp (show u∈us by simpa using hu)
   have e':us[j]?=some u:=by rw[aj hj,e]
   obtain⟨w',b,f1,f2,f3⟩:=at' j u e'
   cases b with
   |false=>exact f3
   |true=>exact absurd ⟨j,w',e',f1,f2⟩ c
 ·rw[List.any_toArray]
  cases k with
  |true=>
   obtain⟨j,w,e1,e2⟩:=q2.mp rfl
   have hj:j<us.length:=by rw[<- u_.length,<- rs.len];exact(ax.mp e1).1
   exact List.any_eq_true.mpr ⟨us[j],dS hj,bG ⟨j,w,aj hj,e1,e2⟩⟩
  |false=>
   refine List.any_eq_false.mpr fun u _ c=>?_
   obtain⟨j,w,_,e1,e2⟩:=of_decide_eq_true c
   have:=q2.mpr ⟨j,w,e1,e2⟩
   cases this
theorem Ly(hr:jX k X.A):xU X (compareOp .In) (GP false):=⟨fun ak s σ H x y v u Q I rv ru zq=>by
 obtain⟨μ,st,wx,wy,S,rx,ry,q⟩:=zq
 have hu:=hr.units
 cases wy with
 |str l=>
  simp only[GP]at q
  split at q
  ·exact FY ak s σ H x y v u Q I rv ru ⟨_,_,rx.strE,ry.strE,qe S q⟩
  ·exact q.elim
 |tup ys=>
  simp only[GP]at q
  cases hk:x9 wx ys with
  |none=>rw[hk]at q;exact q.elim
  |some kk=>
   rw[hk]at q
   simp only at q
   by_cases c:depWs ys<=63
   ·rw[aK c]at q
    obtain⟨p,vs,rfl,hS,r⟩:=ry.tupE
    cases ru
    obtain⟨bO,w,ht,_⟩:=I.tuple hS
    obtain⟨e,he,ha⟩:=wF (A:=X.A.in1) I rx rv 63 (by show X.A.units+1+63<cLine;omega) c r w hk
    exact SeqAt.in_tupleAt e ht he ⟨.bl _,H,I,rfl,by rw[ha];exact qe S q⟩
   ·rw[aU c]at q;exact q.elim
 |loc n=>
  simp only[GP]at q
  cases e1:st[n]? with
  |none=>rw[e1]at q;exact q.elim
  |some cc=>
   rw[e1]at q
   cases cc with
   |lst ys=>
    simp only at q
    cases hk:x9 wx ys with
    |none=>rw[hk]at q;exact q.elim
    |some kk=>
     rw[hk]at q
     simp only at q
     by_cases c:depWs ys<=63
     ·rw[aK c]at q
      obtain⟨a1,g1,vs,k1,r⟩:=S.get e1
      obtain⟨b1,f1,rfl⟩:=ry.locE
      rw[g1]at f1;cases f1
      cases ru
      obtain⟨bO,w,ht,_⟩:=I.list (uq.of k1)
      obtain⟨e,he,ha⟩:=wF (A:=X.A.in1) I rx rv 63 (by show X.A.units+1+63<cLine;omega) c r w hk
      exact SeqAt.in_listAt e ht.isList he ⟨.bl _,H,I,rfl,by rw[ha];exact qe S q⟩
     ·rw[aU c]at q;exact q.elim
   |_=>exact q.elim
 |_=>exact q.elim,fun x y st=>by
 unfold GP
 repeat' split
 all_goals trivial⟩
end L2
namespace L2
open PySem PySem.Spec PyProof.Rows
section
variable{w:World}
theorem Bx{t sl:Addr}{items:Array Value}{vl vu:Value}{lo hi:Option Int}(ht:IsTup s.heap t items)(hs:s.heap.IsSliceOf sl vl vu .none)(pl:IsPart vl lo)(pu:IsPart vu hi)
  (hw:HT.sIx items.size 0 lo=0/\HT.sIx items.size items.size hi=items.size) (h:Q (.ref t) s):wpAny #[6] A (getItem (.ref t) (.ref sl)) Q E s:=by
 obtain⟨os,hos,hcs,NJ⟩:=id hs
 have hTs:s.TypeIs (.ref sl) "slice":=⟨os,hos,hcs⟩
 unfold getItem
 try with_reducible refine dw ?_
 first|refine af (ay ?_)|skip
 refine af (wpAny_sequenceKey ht.typeIs #[3] ?_)
 refine af (bU (name:=Str.ofString "__getitem__") ht.typeIs eO
  (cn eO ht.typeIs entry_tuple_getitem ?_ (args_tuple_getitem _ _)))
 show wpAny _ _ (Builtin.Tuple.tupleItemsOf (.ref t) >>= _) _ _ s
 refine af (tupleItemsOf_ ht ?_)
 refine af (ja hTs ?_)
 rw[aK #[3]]
 refine af (HT.sliceApplied_gen hs pl pu ?_)
 have hyes:(((HT.sIx items.size 0 lo:Nat):Int)==0&&(1:Int)==1&&(HT.sIx items.size items.size hi-HT.sIx items.size 0 lo)==items.size)=true:=by
  rw[hw.1,hw.2];simp
 show wpAny _ _ (if (((HT.sIx items.size 0 lo:Nat):Int)==0&&(1:Int)==1&&(HT.sIx items.size items.size hi-HT.sIx items.size 0 lo)==items.size)=true then _ else _) _ _ s
 rw[aK hyes]
 unfold Builtin.Tuple.tupleIsExact
 obtain⟨ot,hot,hct,nt,hdt⟩:=id ht
 refine af (af (ja (T:="tuple") ht.typeIs ?_))
 refine ay ?_
 rw[aK #[3]]
 exact af (kX (ay ⟨_,rfl,ay h⟩))
end
section
variable{a b:Expr}{fb fc:FE}{fs:FA}
noncomputable def lstOf(st:List au)(n:Nat):Option (List W):=match st[n]? with
 |some (.lst ws)=>some ws
 |some (.ro ws)=>some ws
 |_=>none
theorem jD.lstOf(S:jD K mg μ st H)(h:lstOf st n=some ws):∃a vs,μ[n]?=some a/\uq K H a vs/\RelWs K μ H ws vs:=by
 unfold L2.lstOf at h
 cases e:st[n]? with
 |none=>rw[e]at h;cases h
 |some cc=>
  rw[e]at h
  cases cc with
  |lst zs=>cases h;obtain⟨a,g,vs,k,r⟩:=S.get e;exact⟨a,vs,g,uq.of k,r⟩
  |ro zs=>cases h;obtain⟨a,g,vs,k,r⟩:=S.get e;exact⟨a,vs,g,k.sq,r⟩
  |exc zs=>cases h
  |dct zs=>cases h
  |rod zs=>cases h
  |dcx zs=>cases h
  |rox zs=>cases h
  |obj _ _=>cases h
  |tab _ _ _=>cases h
  |pin _ _ _ _=>cases h
  |gone=>cases h
noncomputable def uG(o:Option α)(k:α->R W):R W:=match o with
 |some a=>k a
 |none=>.bad
@[simp] theorem eZ{α:Type}(a:α)(k:α->R W):uG (some a) k=k a:=rfl
def bv(x y:W)(st:List au):R W:=match x,y with
 |.tup ws,.int i=>uG (uw ws i) fun w=>.ok w st
 |.str l,.int i=>if l.length<=nQ then uG (uw l i) (fun c=>.ok (.str [c]) st)else .bad
 |.loc n,.int i=>uG (lstOf st n) fun ws=>uG (uw ws i) fun w=>.ok w st
 |_,_=>.bad
theorem E0{i:Int}{w:W}(r:RelWs K μ H ws vs)(h:uw ws i=some w):∃v,uw vs i=some v/\bN K μ H w v:=by
 unfold uw at h ⊢
 rw[<- r.len]
 cases e:EK ws.length i with
 |none=>rw[e]at h;cases h
 |some k=>rw[e]at h;exact r.get h
theorem Vn:Kz X (Vm X bv):=fun value slice ak s σ H x y v u Q I rv ru zq hs=>by
 obtain⟨μ,st,wx,wy,S,rx,ry,q⟩:=zq
 refine OA value slice ak s σ H x y v u Q I rv ru ?_ hs
 cases wy with
 |int i=>
  cases wx with
  |tup ws=>
   simp only[bv]at q
   cases e1:uw ws i with
   |none=>rw[e1]at q;exact q.elim
   |some w=>
    rw[e1]at q
    obtain⟨p,vs,rfl,hS,r⟩:=rx.tupE
    obtain⟨z,f,g⟩:=E0 r e1
    exact .inr (.inl ⟨p,vs,i,z,rfl,ry.intE,hS,f,q μ z H (aq _) fF.refl S g⟩)
  |str l=>
   simp only[bv]at q
   by_cases c:l.length<=nQ
   ·rw[aK c]at q
    cases e1:uw l i with
    |none=>rw[e1]at q;exact q.elim
    |some w=>
     rw[e1]at q
     exact .inr (.inr ⟨_,i,w,rx.strE,ry.intE,by rw[jC];exact qa c,by rw[OD];exact e1,s9 S q⟩)
   ·rw[aU c]at q;exact q.elim
  |loc n=>
   simp only[bv]at q
   cases e0:lstOf st n with
   |none=>rw[e0]at q;exact q.elim
   |some ws=>
    rw[e0]at q
    cases e1:uw ws i with
    |none=>rw[eZ,e1]at q;exact q.elim
    |some w=>
     rw[eZ,e1]at q
     obtain⟨a,vs,g,hS,r⟩:=S.lstOf e0
     obtain⟨b1,f1,rfl⟩:=rx.locE
     rw[g]at f1;cases f1
     obtain⟨z,f,g⟩:=E0 r e1
     exact .inl ⟨_,vs,i,z,rfl,ry.intE,hS,f,q μ z H (aq _) fF.refl S g⟩
  |_=>exact q.elim
 |_=>cases wx<;>exact q.elim
theorem vn{o:Option α}{k:α->R W}(h:∀a,vE (k a)):vE (uG o k):=by
 unfold uG
 split
 ·exact h _
 ·trivial
theorem Sc(x y:W)(st:List au):vE (bv x y st):=by
 unfold bv
 split
 ·exact vn fun _=>trivial
 ·split
  ·exact vn fun _=>trivial
  ·trivial
 ·exact vn fun _=>vn fun _=>trivial
 ·trivial
theorem be(ha:SE X a fa)(hb:SE X b fb)(hs:EM b:=by intro _ _;rfl):SE X (.Subscript a b pos) (e2 bv fa fb):=⟨(RH Vn ha.h hb.h hs).imp fun _ _ _ h=>EX Sc h⟩
abbrev FO:=cW->List au->R (Option Int)
abbrev Vo:List Addr->Hp->Option Int->Option Int->Prop:=fun _ _ a b=>a=b
structure SO(X:Cx)(e:Option Expr)(f:FO):Prop where
 h:PO X e (tG X Vo f)
def gN:FO:=fun _ st=>.ok none st
def eX(fa:FE):FO:=fun ρ st=>(fa ρ st).bind fun x st=>match x with
 |.int i=>.ok (some i) st
 |_=>.bad
theorem PO.imp{e:Option Expr}{t t':TO}(h:PO X e t)(i:∀σ H Q,t' σ H Q->t σ H Q):PO X e t':=fun ak s σ H Q I q=>h ak s σ H Q I (i _ _ _ q)
theorem fg:SO X none gN:=⟨K9.imp fun σ H Q h=>by
 walk_at "2"
 exact h μ none H (aq _) fF.refl l.sto rfl⟩
theorem du(ha:SE X a fa):SO X (some a) (eX fa):=⟨(K_ ha.h).imp fun σ H Q h=>by
 walk_at "2"
 walk_at "1"
 cases x with
 |int k=>exact⟨k,q1.intE,h1 μ1 _ H1 (aq _) fF.refl l1.sto rfl⟩
 |_=>exact h1.elim⟩
noncomputable def j6(xs:List α)(lo hi:Option Int):List α:=(xs.drop (HT.sIx xs.length 0 lo)).take (HT.sIx xs.length xs.length hi-HT.sIx xs.length 0 lo)
def wG(x:W)(lo hi:Option Int)(st:List au):R W:=match x with
 |.tup ws=>.ok (.tup (j6 ws lo hi)) st
 |.str l=>if l.length<=nQ then .ok (.str (j6 l lo hi)) st else .bad
 |.loc n=>uG (lstOf st n) fun ws=>.ok (.loc st.length) (st++[.lst (j6 ws lo hi)])
 |_=>.bad
theorem Sd(x:W)(lo hi:Option Int)(st:List au):vE (wG x lo hi st):=by
 unfold wG uG
 repeat' split
 all_goals trivial
def rC(fa:FE)(fl fh:FO):FE:=fun ρ st=>(fa ρ st).bind fun x st=>(fl ρ st).bind fun l st=>(fh ρ st).bind fun h st=>wG x l h st
theorem Vp:RF X (fun x lo hi H Q=>∃μ st wx,jD X.K X.mg μ st H/\bN X.K μ H wx x/\GN X μ H Q (wG wx lo hi st)):=by
 intro ak s σ H x v vl vu lo hi sl Q I rv hs pl pu ⟨μ,st,wx,S,rx,q⟩
 cases wx with
 |tup ws=>
  obtain⟨p,vs,rfl,hS,r⟩:=rx.tupE
  have hl:=r.len
  by_cases hw:HT.sIx vs.length 0 lo=0/\HT.sIx vs.length vs.length hi=vs.length
  ·cases rv
   obtain⟨bO,w,ht,hz⟩:=I.tuple hS
   have gC:bO.toArray.size=vs.length:=by rw[aT];exact w.length.symm
   refine⟨"tuple",_,eO.lookup,ht.typeIs,Bx ht hs pl pu (by rw[gC];exact hw) ⟨.ref p,H,I,rfl,?_⟩⟩
   have e:j6 ws lo hi=ws:=by
    unfold j6
    rw[hl,hw.1,hw.2,List.drop_zero,Nat.sub_zero,<- hl,cK]
   have q':GN X μ H Q (.ok (.tup (j6 ws lo hi)) st):=q
   rw[e]at q'
   exact q' μ _ H (aq _) fF.refl S rx
  ·refine Ox ak s σ H _ v vl vu lo hi sl Q I rv hs pl pu ⟨p,vs,rfl,hS,hw,fun p2 KI=>?_⟩
   have x:=gz.same (K:=X.K) (cU KI (.tup (wg vs lo hi)))
   have rc:RelWs X.K μ H (j6 ws lo hi) (wg vs lo hi):=by
    unfold j6 wg
    rw[hl]
    exact(r.drop _).take _
   exact q μ _ _ (aq _) x (S.same (cU KI _)) (.tupI gz.new (rc.mono (aq _) x))
 |str l=>
  simp only[wG]at q
  by_cases c:l.length<=nQ
  ·rw[aK c]at q
   exact OG ak s σ H _ v vl vu lo hi sl Q I rv hs pl pu ⟨l,rx.strE,qa c,s9 S q⟩
  ·rw[aU c]at q;exact q.elim
 |loc n=>
  simp only[wG]at q
  cases e0:lstOf st n with
  |none=>rw[e0]at q;exact q.elim
  |some ws=>
   rw[e0]at q
   obtain⟨a,vs,g,hS,r⟩:=S.lstOf e0
   obtain⟨b1,f1,rfl⟩:=rx.locE
   rw[g]at f1;cases f1
   have hl:=r.len
   refine Lb ak s σ H _ v vl vu lo hi sl Q I rv hs pl pu ⟨_,vs,rfl,hS,fun p2 KI=>?_⟩
   have rc:RelWs X.K μ H (j6 ws lo hi) (wg vs lo hi):=by
    unfold j6 wg
    rw[hl]
    exact(r.drop _).take _
   exact q (μ++[p2]) _ _ (a_ _ _) (gz.same (cU KI _)) (S.newLst KI rc) (qd S)
 |_=>exact q.elim
theorem ma{lo hi:Option Expr}{fl fh:FO}(ha:SE X a fa)(hl:SO X lo fl)(hh:SO X hi fh):SE X (.Subscript a (.Slice lo hi none p2) pos) (rC fa fl fh):=⟨(Hb Vp ha.h hl.h hh.h).imp fun σ H Q h=>by
 walk_at "2"
 refine⟨μ,ρ,st,l,RK.bind h l fun μ1 st1 x v H1 p1 x1 l1 q1 h1=>⟨μ1,ρ,st1,l1,RK.bind h1 l1 fun μ2 de y u H2 p2 x2 l2 q2 h2=>⟨μ2,ρ,de,l2,RK.bind h2 l2 fun μ3 nN z t H3 p3 x3 l3 q3 h3=>?_⟩⟩⟩
 cases q2;cases q3
 exact⟨μ3,nN,x,l3.sto,(q1.mono p2 x2).mono p3 x3,uC h3 (Sd _ _ _ _)⟩⟩
def V1(X:Cx)(F:List W->List au->R W):List V->Hp->VK->Prop:=fun vs H Q=>∃μ st ws,jD X.K X.mg μ st H/\RelWs X.K μ H ws vs/\GN X μ H Q (F ws st)
structure qf(X:Cx)(f:Value)(F:List W->List au->R W):Prop where
 h:jc X f (V1 X F)
 n:∀ws st,vE (F ws st)
def bK(F:List W->List au->R W)(fs:FA):FE:=fun ρ st=>(fs ρ st).bind fun ws st=>F ws st
theorem E1{Q:VK}(n:∀ws st,vE (F ws st))(h:tE X (bK F fs) σ H Q):U7 (V1 X F) (R4 X fs) σ H Q:=by
 walk_at "2"
 exact⟨μ,ρ,st,l,RK.bind h l fun μ1 st1 x v H1 p1 x1 l1 q1 h1=>⟨μ1,st1,x,l1.sto,q1,uC h1 (n _ _)⟩⟩
theorem bT{id:String}(hc:qf X (.builtin id) F)(hm:X.mg x=none)(hv:bootBuiltins x=some (.builtin id))(ha:SA X (e::es) fs)(hg:Gl X x:=by rfl)(hn:x ≠ "__name__":=by decide)(Kk:(x==("__debug__":Str))=false:=by decide)
  (he:starEach (e::es) X.env=(false,eval e X.env)::starEach es X.env:=by rfl) (ou:(backTo pos (starEach es X.env)).any (·.1)=false:=by rfl):SE X (.Call (.Name x p) (e::es) [] pos) (bK F fs):=⟨(p_ hc.h hg hm hv ha.h hn Kk he ou).imp fun _ _ _ h=>E1 hc.n h⟩
theorem gj(hc:qf X (.type T) F)(hm:X.mg x=none)(hv:bootBuiltins x=some (.type T))(ha:SA X (e::es) fs)(hg:Gl X x:=by rfl)(hn:x ≠ "__name__":=by decide)(Kk:(x==("__debug__":Str))=false:=by decide)
  (he:starEach (e::es) X.env=(false,eval e X.env)::starEach es X.env:=by rfl) (ou:(backTo pos (starEach es X.env)).any (·.1)=false:=by rfl):SE X (.Call (.Name x p) (e::es) [] pos) (bK F fs):=⟨(FR hc.h hg hm hv ha.h hn Kk he ou).imp fun _ _ _ h=>E1 hc.n h⟩
theorem RelWs.two{a b:W}(r:RelWs K μ H [a,b] vs):∃x y,vs=[x,y]/\bN K μ H a x/\bN K μ H b y:=by
 obtain⟨x,xs,rfl,rx,rn⟩:=r.consE
 obtain⟨y,ys,rfl,ry,rm⟩:=rn.consE
 rw[rm.nilE];exact⟨x,y,rfl,rx,ry⟩
theorem RelWs.one{a:W}(r:RelWs K μ H [a] vs):∃x,vs=[x]/\bN K μ H a x:=by
 obtain⟨x,xs,rfl,rx,rn⟩:=r.consE
 rw[rn.nilE];exact⟨x,rfl,rx⟩
def dH(ws:List W)(st:List au):R W:=match ws with
 |[.tup xs]=>.ok (.int xs.length) st
 |[.str l]=>if l.length<=nQ then .ok (.int l.length) st else .bad
 |[.loc n]=>uG (lstOf st n) fun xs=>.ok (.int xs.length) st
 |_=>.bad
theorem dP:qf X (.builtin "len") dH:=⟨fun ak s σ H vs us Q I rv zq=>by
 obtain⟨μ,st,ws,S,r,q⟩:=zq
 unfold dH at q
 split at q
 ·obtain⟨x,rfl,rx⟩:=r.one
  obtain⟨p,ys,rfl,hS,r'⟩:=rx.tupE
  exact sR ak s σ H _ us Q I rv ⟨p,ys,rfl,.inr hS,by rw[<- r'.len];exact l9 S q⟩
 ·obtain⟨x,rfl,rx⟩:=r.one
  split at q
  ·rename_i c
   exact zC ak s σ H _ us Q I rv ⟨_,by rw[rx.strE],by rw[jC];exact qa c,by rw[jC];exact l9 S q⟩
  ·exact q.elim
 ·obtain⟨x,rfl,rx⟩:=r.one
  unfold uG at q
  split at q
  ·rename_i ys e0
   obtain⟨a,vs,g,hS,r'⟩:=S.lstOf e0
   obtain⟨b1,f1,rfl⟩:=rx.locE
   rw[g]at f1;cases f1
   exact sR ak s σ H _ us Q I rv ⟨_,vs,rfl,.inl hS,by rw[<- r'.len];exact l9 S q⟩
  ·exact q.elim
 ·exact q.elim,fun ws st=>by
 unfold dH uG
 repeat' split
 all_goals trivial⟩
noncomputable def DC(ws:List W)(st:List au):R W:=match ws with
 |[.int i,.int j]=>.ok (.int (if j>i then j else i)) st
 |_=>.bad
noncomputable def Ge(ws:List W)(st:List au):R W:=match ws with
 |[.int i,.int j]=>.ok (.int (if j<i then j else i)) st
 |_=>.bad
theorem Se(hc:X.calm=true:=by rfl):qf X (.builtin "max") DC:=⟨fun ak s σ H vs us Q I rv zq=>by
 obtain⟨μ,st,ws,S,r,q⟩:=zq
 unfold DC at q
 split at q
 ·obtain⟨x,y,rfl,rx,ry⟩:=r.two
  exact FK hc ak s σ H _ us Q I rv ⟨_,_,by rw[rx.intE,ry.intE],l9 S q⟩
 ·exact q.elim,fun ws st=>by unfold DC;split<;>trivial⟩
theorem Sf(hc:X.calm=true:=by rfl):qf X (.builtin "min") Ge:=⟨fun ak s σ H vs us Q I rv zq=>by
 obtain⟨μ,st,ws,S,r,q⟩:=zq
 unfold Ge at q
 split at q
 ·obtain⟨x,y,rfl,rx,ry⟩:=r.two
  exact FL hc ak s σ H _ us Q I rv ⟨_,_,by rw[rx.intE,ry.intE],l9 S q⟩
 ·exact q.elim,fun ws st=>by unfold Ge;split<;>trivial⟩
def jf(ws:List W)(st:List au):R W:=match ws with
 |[.tup xs]=>.ok (.tup xs) st
 |[.loc n]=>uG (lstOf st n) fun xs=>.ok (.tup xs) st
 |_=>.bad
theorem k7:qf X (.type "tuple") jf:=⟨fun ak s σ H vs us Q I rv zq=>by
 obtain⟨μ,st,ws,S,r,q⟩:=zq
 unfold jf at q
 split at q
 ·obtain⟨x,rfl,rx⟩:=r.one
  obtain⟨p,ys,rfl,hS,r'⟩:=id rx.tupE
  exact Ba ak s σ H _ us Q I rv ⟨p,ys,rfl,hS,q μ _ H (aq _) fF.refl S rx⟩
 ·obtain⟨x,rfl,rx⟩:=r.one
  unfold uG at q
  split at q
  ·rename_i ys e0
   obtain⟨a,vs,g,hS,r'⟩:=S.lstOf e0
   obtain⟨b1,f1,rfl⟩:=rx.locE
   rw[g]at f1;cases f1
   refine Be ak s σ H _ us Q I rv ⟨_,vs,rfl,hS,fun l H2 hl e=>?_⟩
   subst e
   have x:=gz.same (K:=X.K) (cU hl (.tup vs))
   exact q μ _ _ (aq _) x (S.same (cU hl _)) (.tupI gz.new (r'.mono (aq _) x))
  ·exact q.elim
 ·exact q.elim,fun ws st=>by
 unfold jf uG
 repeat' split
 all_goals trivial⟩
def yQ(ws:List W)(st:List au):R W:=match ws with
 |[.tup xs]=>.ok (.loc st.length) (st++[.lst xs])
 |[.loc n]=>uG (lstOf st n) fun xs=>.ok (.loc st.length) (st++[.lst xs])
 |_=>.bad
theorem OX:qf X (.type "list") yQ:=⟨fun ak s σ H vs us Q I rv zq=>by
 obtain⟨μ,st,ws,S,r,q⟩:=zq
 unfold yQ at q
 split at q
 ·obtain⟨x,rfl,rx⟩:=r.one
  obtain⟨p,ys,rfl,hS,r'⟩:=id rx.tupE
  refine wq ak s σ H _ us Q I rv ⟨p,ys,rfl,.inr hS,fun l H2 hl e=>?_⟩
  subst e
  exact q (μ++[l]) _ _ (a_ _ _) (gz.same (cU hl _)) (S.newLst hl r') (qd S)
 ·obtain⟨x,rfl,rx⟩:=r.one
  unfold uG at q
  split at q
  ·rename_i ys e0
   obtain⟨a,vs,g,hS,r'⟩:=S.lstOf e0
   obtain⟨b1,f1,rfl⟩:=rx.locE
   rw[g]at f1;cases f1
   refine wq ak s σ H _ us Q I rv ⟨_,vs,rfl,.inl hS,fun l H2 hl e=>?_⟩
   subst e
   exact q (μ++[l]) _ _ (a_ _ _) (gz.same (cU hl _)) (S.newLst hl r') (qd S)
  ·exact q.elim
 ·exact q.elim,fun ws st=>by
 unfold yQ uG
 repeat' split
 all_goals trivial⟩
noncomputable def Gf(ws:List W)(st:List au):R W:=match ws with
 |[.int i]=>.ok (.int i) st
 |[.bl k]=>.ok (.int (if k then 1 else 0)) st
 |_=>.bad
theorem MA:qf X (.type "int") Gf:=⟨fun ak s σ H vs us Q I rv zq=>by
 obtain⟨μ,st,ws,S,r,q⟩:=zq
 unfold Gf at q
 split at q
 ·obtain⟨x,rfl,rx⟩:=r.one
  exact yD ak s σ H _ us Q I rv (.inl ⟨_,by rw[rx.intE],l9 S q⟩)
 ·obtain⟨x,rfl,rx⟩:=r.one
  exact yD ak s σ H _ us Q I rv (.inr ⟨_,by rw[rx.blE],l9 S q⟩)
 ·exact q.elim,fun ws st=>by unfold Gf;split<;>trivial⟩
end
section
variable{a b:Expr}{fb fc:FE}{fs:FA}{ft:FT}{st1:Stmt}{sr sa sb:List Stmt}{g g':FS}
def aM(g g':FS):FS:=fun ρ st=>match g ρ st with
 |.nx ρ' bh=>g' ρ' bh
 |r=>r
def bX:FS:=fun ρ st=>.nx ρ st
theorem bP:SB X [] bX:=⟨KQ.imp fun D σ H h=>by
 walk_at "2"
 exact h μ σ H (aq _) fF.refl l⟩
theorem aH(h1:SS X st1 g):SB X [st1] g:=⟨KR h1.h⟩
theorem av(h1:SS X st1 g)(h2:SB X sr g'):SB X (st1::sr) (aM g g'):=⟨(GW h1.h h2.h).imp fun D σ H h=>by
 walk_at "2"
 refine⟨μ,ρ,st,l,?_⟩
 unfold aM at h
 cases e:g ρ st with
 |nx ρ' bh=>rw[e]at h;exact fun μ' σ' H' p x l'=>⟨μ',ρ',bh,l',SK.mono h p x⟩
 |rt w bh=>rw[e]at h;exact h
 |bk ρ' bh=>rw[e]at h;exact h
 |ct ρ' bh=>rw[e]at h;exact h
 |ex c ρ' bh=>rw[e]at h;exact h
 |bad=>rw[e]at h;exact h⟩
def DD:FS:=fun ρ st=>.bk ρ st
theorem HH:SS X (.Break pos) DD:=⟨GX.imp fun D σ H h=>by
 walk_at "2"
 exact h μ σ H (aq _) fF.refl l⟩
def R.stmt(r:R α)(ρ:cW)(k:α->List au->RS):RS:=match r with
 |.ok a st=>k a st
 |.ex c st=>.ex c ρ st
 |.bad=>.bad
@[simp] theorem R.stmt_ok{α:Type}(a:α)(st:List au)(ρ:cW)(k:α->List au->RS):(R.ok a st).stmt ρ k=k a st:=rfl
theorem RK.stmt{rel:List Addr->Hp->α->β->Prop}{D:zx}{r:R α}{k:α->List au->RS}{T:β->Hp->Prop}
  (h:SK X μ H D (r.stmt ρ k)) (l:Rl X μ ρ st σ H)
  (hk:∀μ' bh x v H',μ <+: μ'->fF X.K H H'->Rl X μ' ρ bh σ H'->rel μ' H' x v->SK X μ' H' D (k x bh)->T v H'):RK X rel μ σ H T r:=by
 cases r with
 |ok a bh=>exact fun μ' b H' p x s q=>hk μ' bh a b H' p x (l.to p x s) q (SK.mono h p x)
 |ex c bh=>exact XS.toE h l
 |bad=>exact h
def dq(fe:FE):FS:=fun ρ st=>(fe ρ st).stmt ρ fun _ st=>.nx ρ st
theorem cJ(he:SE X e fe)(hs:swapsWith e none pos.line X.env=pure false:=by rfl):SS X (.Expr e pos) (dq fe):=⟨(KS he.h hs).imp fun D σ H h=>by
 walk_at "2"
 exact⟨μ,ρ,st,l,RK.stmt h l fun μ1 st1 x v H1 p1 x1 l1 q1 h1=>h1 μ1 σ H1 (aq _) fF.refl l1⟩⟩
def cS(fe:FE):FS:=fun ρ st=>(fe ρ st).stmt ρ fun w st=>.rt w st
theorem bj(he:SE X e fe):SS X (.Return (some e) pos) (cS fe):=⟨(N9 he.h).imp fun D σ H h=>by
 walk_at "2"
 exact⟨μ,ρ,st,l,RK.stmt h l fun μ1 st1 x v H1 p1 x1 l1 q1 h1=>h1 μ1 v H1 (aq _) fF.refl l1.sto q1⟩⟩
def gA(t:FT)(g g':FS):FS:=fun ρ st=>(t ρ st).stmt ρ fun k st=>if k then g ρ st else g' ρ st
theorem cI(hc:ST X c ft)(ha:SB X sa g)(hb:SB X sb g'):SS X (.If c sa sb pos) (gA ft g g'):=⟨(Ro hc.h ha.h hb.h).imp fun D σ H h=>by
 walk_at "2"
 refine⟨μ,ρ,st,l,RK.stmt h l fun μ1 st1 x v H1 p1 x1 l1 q1 h1=>?_⟩
 cases q1
 cases x with
 |true=>exact⟨μ1,ρ,st1,l1,h1⟩
 |false=>exact⟨μ1,ρ,st1,l1,h1⟩⟩
abbrev FG:=W->cW->Option cW
abbrev MB:=List W->cW->Option cW
def Sg(X:Cx)(f:FG):TG:=fun v σ H Q=>∃μ ρ st w ρ',Rl X μ ρ st σ H/\bN X.K μ H w v/\f w ρ=some ρ'/\∀σ',Rl X μ ρ' st σ' H->Q σ' H
def Vq(X:Cx)(f:MB):KT:=fun vs σ H Q=>∃μ ρ st ws ρ',Rl X μ ρ st σ H/\RelWs X.K μ H ws vs/\f ws ρ=some ρ'/\∀σ',Rl X μ ρ' st σ' H->Q σ' H
theorem PG.imp{t t':TG}(h:PG X e t)(i:∀v σ H Q,t' v σ H Q->t v σ H Q):PG X e t':=fun ak s σ H x u Q I r q=>h ak s σ H x u Q I r (i _ _ _ _ q)
theorem Mr.imp{e:List Expr}{t t':KT}(h:Mr X e t)(i:∀v σ H Q,t' v σ H Q->t v σ H Q):Mr X e t':=fun ak s σ H x u Q I r q=>h ak s σ H x u Q I r (i _ _ _ _ q)
structure SG(X:Cx)(e:Expr)(f:FG):Prop where
 h:PG X e (Sg X f)
structure Uu(X:Cx)(e:List Expr)(f:MB):Prop where
 h:Mr X e (Vq X f)
def kJ(i:Nat):FG:=fun w ρ=>some (ρ.set i (some w))
theorem E2(hN:X.N.Nodup)(hi:X.N[i]?=some x)(hx:Ky X.env.scope x)(hf:X.fn x=true\/X.env.scope.names.lookup x=some .local:=by first|exact .inl rfl|exact .inr rfl|assumption):SG X (.Name x pos) (kJ i):=⟨(KW hN hi hx hf).imp fun v σ H Q h=>by
 obtain⟨μ,ρ,st,w,ρ',l,r,e,q⟩:=h
 cases e
 exact q _ ⟨sX r i l.env,l.sto⟩⟩
def rD:MB:=fun ws ρ=>match ws with
 |[]=>some ρ
 |_=>none
def gs(f:FG)(fs:MB):MB:=fun ws ρ=>match ws with
 |w::ws=>(f w ρ).bind fun ρ'=>fs ws ρ'
 |[]=>none
theorem md:Uu X [] rD:=⟨KY.imp fun vs σ H Q h=>by
 obtain⟨μ,ρ,st,ws,ρ',l,r,e,q⟩:=h
 cases ws with
 |nil=>cases e;exact⟨r.nilE,q σ l⟩
 |cons _ _=>cases e⟩
theorem d8{f:FG}{fs:MB}(h1:SG X e f)(h2:Uu X es fs)(hs:(assignEach (e::es) X.env).map (·.2)=assign e X.env::(assignEach es X.env).map (·.2):=by rfl):Uu X (e::es) (gs f fs):=⟨(GZ h1.h h2.h hs).imp fun vs σ H Q h=>by
 obtain⟨μ,ρ,st,ws,ρ',l,r,e,q⟩:=h
 cases ws with
 |nil=>cases e
 |cons w ws=>
  obtain⟨x,xs,rfl,rx,rs⟩:=r.consE
  simp only[gs]at e
  cases e1:f w ρ with
  |none=>rw[e1]at e;cases e
  |some ρ1=>
   rw[e1]at e
   exact⟨x,xs,rfl,μ,ρ,st,w,ρ1,l,rx,e1,fun σ1 l1=>⟨μ,ρ1,st,ws,ρ',l1,rs,e,q⟩⟩⟩
def HI(n:Nat)(fs:MB):FG:=fun w ρ=>match w with
 |.tup ws=>if ws.length=n then fs ws ρ else none
 |_=>none
theorem oE{k:Nat}{fs:MB}(hc:X.calm=true)(h:Uu X es fs)(hn:(assignEach es X.env).length=n:=by rfl)(oZ:(assignEach es X.env).findIdx? (·.1)=none:=by rfl):SG X (.Tuple es k pos) (HI n fs):=⟨(N_ hc h.h hn oZ).imp fun v σ H Q h=>by
 obtain⟨μ,ρ,st,w,ρ',l,r,e,q⟩:=h
 cases w with
 |tup ws=>
  obtain⟨p,vs,rfl,hS,rs⟩:=r.tupE
  simp only[HI]at e
  by_cases c:ws.length=n
  ·rw[aK c]at e
   exact⟨p,vs,rfl,hS,by rw[<- rs.len];exact c,μ,ρ,st,ws,ρ',l,rs,e,q⟩
  ·rw[aU c]at e;cases e
 |_=>cases e⟩
def wH(fe:FE)(f:FG):FS:=fun ρ st=>(fe ρ st).stmt ρ fun w st=>match f w ρ with
 |some ρ'=>.nx ρ' st
 |none=>.bad
theorem Si{f:FG}{D:zx}(h:Ut X (wH fe f) D σ H):G0 (tE X fe) (Sg X f) D σ H:=by
 walk_at "2"
 refine⟨μ,ρ,st,l,RK.stmt h l fun μ1 st1 x v H1 p1 x1 l1 q1 h1=>?_⟩
 cases e1:f x ρ with
 |none=>rw[e1]at h1;exact h1.elim
 |some ρ'=>rw[e1]at h1;exact⟨μ1,ρ,st1,x,ρ',l1,q1,e1,fun σ' l'=>h1 μ1 σ' H1 (aq _) fF.refl l'⟩
theorem DE{f:FG}(he:SE X e fe)(hg:SG X tg f)(hs:swapsWithSole [tg] e pos.line X.env=pure false:=by rfl)(hw:swappedStores [tg] e X.env=pure none:=by rfl)(h1:(assignEach [tg] X.env).map (·.2)=[assign tg X.env]:=by rfl):SS X (.Assign [tg] e pos) (wH fe f):=⟨(G1 he.h hg.h hs hw h1).imp fun D σ H h=>Si h⟩
def bd(i:Nat)(fe:FE):FS:=fun ρ st=>(fe ρ st).stmt ρ fun w st=>.nx (ρ.set i (some w)) st
theorem OY(hN:X.N.Nodup)(hi:X.N[i]?=some x)(hx:Ky X.env.scope x)(he:SE X e fe)(hs:swapsWith e (some (.Name x i_)) pos.line X.env=pure false:=by rfl)(hf:X.fn x=true\/X.env.scope.names.lookup x=some .local:=by first|exact .inl rfl|exact .inr rfl|assumption) :
  SS X (.Assign [.Name x i_] e pos) (bd i fe):=⟨(Ob hN hi hx he.h hs hf).imp fun D σ H h=>by
 walk_at "2"
 exact⟨μ,ρ,st,l,RK.stmt h l fun μ1 st1 x v H1 p1 x1 l1 q1 h1=>h1 μ1 _ H1 (aq _) fF.refl ⟨sX q1 i l1.env,l1.sto⟩⟩⟩
def rE(x i v:W)(st:List au):Option (List au):=match x,i with
 |.loc n,.int k=>(match st[n]? with
  |some (.lst ws)=>(EK ws.length k).map fun j=>st.set n (.lst (ws.set j v))
  |_=>none)
 |_,_=>none
def By(fo fi fe:FE)(f:W->W->W->List au->Option (List au)):FS:=fun ρ st=>(fe ρ st).stmt ρ fun v st=>(fo ρ st).stmt ρ fun x st=>(fi ρ st).stmt ρ fun i st=>match f x i v st with
 |some bh=>.nx ρ bh
 |none=>.bad
def MC(X:Cx)(f:W->W->W->List au->Option (List au)):KU:=fun o i v H Q=>∃μ st wo wi wv bh,jD X.K X.mg μ st H/\bN X.K μ H wo o/\bN X.K μ H wi i/\bN X.K μ H wv v/\f wo wi wv st=some bh/\∀H',fF X.K H H'->jD X.K X.mg μ bh H'->Q H'
theorem DF:GY X (MC X rE):=fun ak s σ H o i v ov iv u Q I r1 r2 r3 zq=>by
 obtain⟨μ,st,wo,wi,wv,bh,S,ro,ri,rv,e,q⟩:=zq
 cases wo with
 |loc n=>
  cases wi with
  |int k=>
   simp only[rE]at e
   cases e1:st[n]? with
   |none=>rw[e1]at e;cases e
   |some cc=>
    rw[e1]at e
    cases cc with
    |lst ws=>
     simp only at e
     cases e2:EK ws.length k with
     |none=>rw[e2]at e;cases e
     |some jj=>
      rw[e2]at e
      cases e
      obtain⟨a1,g1,vs,k1,r⟩:=S.get e1
      obtain⟨b1,f1,rfl⟩:=ro.locE
      rw[g1]at f1;cases f1
      refine F0 ak s σ H _ i v ov iv u Q I r1 r2 r3 ⟨a1,vs,k,jj,rfl,ri.intE,k1,by rw[<- r.len];exact e2,fun H2 eH=>?_⟩
      subst eH
      exact q _ (gz.but mW k1) (S.set e1 g1 k1 (r.setI jj rv))
    |_=>cases e
  |_=>cases e
 |_=>cases wi<;>cases e
theorem DG{f:W->W->W->List au->Option (List au)}{i:Expr}{fi:FE}(Q2:GY X (MC X f))(he:SE X e fe)(ho:SE X o fo)(hi:SE X i fi)
  (ha:∀v,assign (.Subscript o i i_) X.env v=(do
   let ov <- holding [v] (eval o X.env)
   let iv <- holding [v,ov] (eval i X.env)
   standAt i_
   holding [v,ov,iv] (setItem ov iv v)
   release [v,ov,iv] []):=by intro _;rfl)
  (hs:swapsWithSole [.Subscript o i i_] e pos.line X.env=pure false:=by rfl) (hw:swappedStores [.Subscript o i i_] e X.env=pure none:=by rfl) (h1:(assignEach [.Subscript o i i_] X.env).map (·.2)=[assign (.Subscript o i i_) X.env]:=by rfl) :
  SS X (.Assign [.Subscript o i i_] e pos) (By fo fi fe f):=⟨(G1 he.h (Oa ho.h hi.h Q2 ha) hs hw h1).imp fun D σ H h=>by
 walk_at "2"
 refine⟨μ,ρ,st,l,RK.stmt h l fun μ1 st1 v vv H1 p1 x1 l1 q1 h1=>⟨μ1,ρ,st1,l1,RK.stmt h1 l1 fun μ2 de x xv H2 p2 x2 l2 q2 h2=>⟨μ2,ρ,de,l2,RK.stmt h2 l2 fun μ3 nN i iv H3 p3 x3 l3 q3 h3=>?_⟩⟩⟩
 cases e1:f x i v nN with
 |none=>rw[e1]at h3;exact h3.elim
 |some bh=>
  rw[e1]at h3
  exact⟨μ3,nN,x,i,v,bh,l3.sto,q2.mono p3 x3,q3,(q1.mono p2 x2).mono p3 x3,e1,fun H' xx S'=>h3 μ3 σ H' (aq _) xx (l3.to (aq _) xx S')⟩⟩
end
def m6(st:List au):Option (Nat×List W)->Prop
 |none=>True
 |some (n,ws)=>lstOf st n=some ws
noncomputable abbrev HJ:=List W×Option (Nat×List W)
abbrev FI:=cW->List au->R HJ
def DH(X:Cx)(J:It)(k:HJ)(μ:List Addr)(H:Hp):Prop:=
 ∀(i:Nat) μ' bh H',μ <+: μ'->fF X.K H H'->jD X.K X.mg μ' bh H'->m6 bh k.2 ->
  (∀w,k.1[i]?=some w->J.go i H'/\∀x H'',J.yld i H' x H''->fF X.K H' H''/\jD X.K X.mg μ' bh H''/\bN X.K μ' H'' w x)/\(k.1.length<=i->J.stop i H')
abbrev Sj(X:Cx):List Addr->Hp->HJ->It->Prop:=fun μ H k J=>DH X J k μ H
structure SI(X:Cx)(tg it:Expr)(f:FI):Prop where
 h:PI X tg it (fun σ H R=>tG X (Sj X) f σ H R)
theorem PI.imp{it:Expr}{t t':TI}(h:PI X tg it t)(i:∀σ H Q,t' σ H Q->t σ H Q):PI X tg it t':=fun ak s σ H Q I q=>h ak s σ H Q I (i _ _ _ q)
open Classical in
def wI(f:FG)(body:FS)(ck:Option (Nat×List W)):List W->FS
 |[],ρ,st=>if m6 st ck then .nx ρ st else .bad
 |w::ws,ρ,st=>if m6 st ck then(match f w ρ with
  |none=>.bad
  |some ρ'=>(match body ρ' st with
   |.nx ρ2 de=>wI f body ck ws ρ2 de
   |.ct ρ2 de=>wI f body ck ws ρ2 de
   |.bk ρ2 de=>.nx ρ2 de
   |.rt w de=>.rt w de
   |.ex c ρ2 de=>.ex c ρ2 de
   |.bad=>.bad))else .bad
def mU(fi:FI)(f:FG)(body:FS):FS:=fun ρ st=>(fi ρ st).stmt ρ fun k st=>wI f body k.2 k.1 ρ st
section
variable{a b:Expr}{fb:FE}{fs:FA}{ft:FT}{g:FS}{f:FG}{fi:FI}
theorem iL(hi:SI X tg et fi)(hg:SG X tg f)(hb:SB X body g)(hc:X.calm=true:=by rfl)(hp:PassesOwn #[4] X.A X.env X.xe:=by passes_own)(hs:∀x,foldedSetIterable et X.env x=pure x:=by intro _;rfl):SS X (.For tg et body [] pos) (mU fi f g):=⟨(Od hp hc hi.h hg.h hb.h hs).imp fun D σ H h=>by
 walk_at "2"
 refine⟨μ,ρ,st,l,RK.stmt h l fun μ1 st1 k J H1 p1 x1 l1 wk h1=>?_⟩
 refine⟨fun i m σ' H'=>i<=k.1.length/\m=k.1.length-i/\∃μ' ρ' bh,μ1 <+: μ'/\fF X.K H1 H'/\Rl X μ' ρ' bh σ' H'/\SK X μ' H' D (wI f g k.2 (k.1.drop i) ρ' bh),
  ⟨_,bZ _,rfl,μ1,ρ,st1,aq _,fF.refl,l1,h1⟩,?_⟩
 rintro i m σ' H' ⟨hi,rfl,μ',ρ',bh,pm,xm,lm,hm⟩
 by_cases hlt:i<k.1.length
 ·rw[dE hlt]at hm
  unfold wI at hm
  by_cases ck:m6 bh k.2
  ·rw[aK ck]at hm
   obtain⟨go,yld⟩:=(wk i μ' bh H' pm xm lm.sto ck).1 _ (aj hlt)
   cases hf:f k.1[i] ρ' with
   |none=>rw[hf]at hm;exact hm.elim
   |some ρ2=>
    rw[hf]at hm
    simp only at hm
    refine .inr ⟨go,fun σ2 H2=>∃μ2 ρ3 de,μ' <+: μ2/\fF X.K H' H2/\Rl X μ2 ρ3 de σ2 H2/\SK X μ2 H2 D (wI f g k.2 (k.1.drop (i+1)) ρ3 de),fun σ2 H2 ⟨μ2,ρ3,de,q1,q2,q3,q4⟩=>
     ⟨_,by omega,hlt,rfl,μ2,ρ3,de,pm.trans q1,xm.trans q2,q3,q4⟩,fun x H2 hy=>?_⟩
    obtain⟨y1,y2,y3⟩:=yld x H2 hy
    refine⟨μ',ρ',bh,k.1[i],ρ2,lm.to (aq _) y1 y2,y3,hf,fun σ2 l2=>⟨μ',ρ2,bh,l2,?_⟩⟩
    cases e:g ρ2 bh with
    |nx ρ3 nN=>rw[e]at hm;exact fun μ4 σ4 H4 p4 x4 l4=>⟨μ4,ρ3,nN,p4,y1.trans x4,l4,SK.mono hm p4 (y1.trans x4)⟩
    |ct ρ3 nN=>rw[e]at hm;exact fun μ4 σ4 H4 p4 x4 l4=>⟨μ4,ρ3,nN,p4,y1.trans x4,l4,SK.mono hm p4 (y1.trans x4)⟩
    |bk ρ3 nN=>rw[e]at hm;exact fun μ4 σ4 H4 p4 x4 l4=>hm μ4 σ4 H4 p4 (y1.trans x4) l4
    |rt w nN=>rw[e]at hm;exact fun μ4 v4 H4 p4 x4=>hm μ4 v4 H4 p4 (y1.trans x4)
    |ex c ρ3 nN=>rw[e]at hm;exact XS.mono hm (aq _) y1
    |bad=>rw[e]at hm;exact hm
  ·rw[aU ck]at hm;exact hm.elim
 ·have hi':i=k.1.length:=by omega
  subst hi'
  rw[pz (aA _)]at hm
  unfold wI at hm
  by_cases ck:m6 bh k.2
  ·rw[aK ck]at hm
   exact .inl ⟨(wk _ μ' bh H' pm xm lm.sto ck).2 (aA _),hm μ' σ' H' (aq _) fF.refl lm⟩
  ·rw[aU ck]at hm;exact hm.elim⟩
def eM(t:FT)(body:FS):Nat->FS
 |0,_,_=>.bad
 |n+1,ρ,st=>(t ρ st).stmt ρ fun k st=>if k then(match body ρ st with
   |.nx ρ2 de=>eM t body n ρ2 de
   |.ct ρ2 de=>eM t body n ρ2 de
   |.bk ρ2 de=>.nx ρ2 de
   |.rt w de=>.rt w de
   |.ex c ρ2 de=>.ex c ρ2 de
   |.bad=>.bad)else .nx ρ st
open Classical in
def oF(t:FT)(body:FS):FS:=fun ρ st=>if h:∃n,eM t body n ρ st≠.bad then eM t body h.choose ρ st else .bad
theorem qg(t:FT)(g:FS):∀(n:Nat) (ρ:cW) (st:List au),eM t g n ρ st≠.bad->eM t g (n+1) ρ st=eM t g n ρ st
 |0,_,_,h=>absurd rfl h
 |n+1,ρ,st,h=>by
  unfold eM at h ⊢
  cases e:t ρ st with
  |ex c st1=>rfl
  |bad=>rfl
  |ok k st1=>
   rw[e]at h
   simp only[R.stmt_ok]at h ⊢
   cases k with
   |false=>rfl
   |true=>
    simp only[gG]at h ⊢
    cases e2:g ρ st1 with
    |nx ρ2 de=>rw[e2]at h;exact qg t g n ρ2 de h
    |ct ρ2 de=>rw[e2]at h;exact qg t g n ρ2 de h
    |_=>rfl
theorem yR{n m:Nat}(h:eM t g n ρ st≠.bad)(hm:n<=m):eM t g m ρ st=eM t g n ρ st:=by
 induction hm with
 |refl=>rfl
 |@step m _ ih=>rw[qg t g m ρ st (by rw[ih];exact h),ih]
theorem yS{r:RS}(h:eM t g n ρ st=r)(hr:r≠.bad):oF t g ρ st=r:=by
 have hx:∃n,eM t g n ρ st≠.bad:=⟨n,by rw[h];exact hr⟩
 unfold oF
 rw[dif_pos hx]
 have c:=hx.choose_spec
 have a:=yR c (Nat.le_max_left hx.choose n)
 have b:=yR (n:=n) (m:=max hx.choose n) (by rw[h];exact hr) (Nat.le_max_right _ _)
 rw[<- a,b,h]
theorem Bz{D:zx}:∀(n:Nat) (σ:St) (H:Hp) (μ:List Addr) (ρ:cW) (st:List au),Rl X μ ρ st σ H->SK X μ H D (eM t g n ρ st)->G3 (tT X t) (Ut X g) D σ H:=by
 intro n σ H μ ρ st l h
 refine⟨fun m σ' H'=>∃μ' ρ' bh,Rl X μ' ρ' bh σ' H'/\SK X μ' H' D (eM t g m ρ' bh),⟨n,μ,ρ,st,l,h⟩,?_⟩
 rintro m σ' H' ⟨μ',ρ',bh,l',h'⟩
 cases m with
 |zero=>exact h'.elim
 |succ m=>
  refine⟨μ',ρ',bh,l',RK.stmt h' l' fun μ1 st1 k v H1 p1 x1 l1 q1 h1=>?_⟩
  cases q1
  cases k with
  |false=>exact h1 μ1 σ' H1 (aq _) fF.refl l1
  |true=>
   refine⟨fun σ2 H2=>∃μ2 ρ2 de,Rl X μ2 ρ2 de σ2 H2/\SK X μ2 H2 D (eM t g m ρ2 de),fun σ2 H2 z=>⟨m,ce m,z⟩,μ1,ρ',st1,l1,?_⟩
   simp only[gG]at h1
   cases e:g ρ' st1 with
   |nx ρ3 nN=>rw[e]at h1;exact fun μ4 σ4 H4 p4 x4 l4=>⟨μ4,ρ3,nN,l4,SK.mono h1 p4 x4⟩
   |ct ρ3 nN=>rw[e]at h1;exact fun μ4 σ4 H4 p4 x4 l4=>⟨μ4,ρ3,nN,l4,SK.mono h1 p4 x4⟩
   |bk ρ3 nN=>rw[e]at h1;exact h1
   |rt w nN=>rw[e]at h1;exact h1
   |ex c ρ3 nN=>rw[e]at h1;exact h1
   |bad=>rw[e]at h1;exact h1
theorem wJ(hc:ST X c t)(hb:SB X body g)(hp:PassesOwn #[4] X.A X.env X.xe:=by passes_own):SS X (.While c body [] pos) (oF t g):=⟨(G4 hp hc.h hb.h).imp fun D σ H h=>by
 walk_at "2"
 unfold oF at h
 by_cases hx:∃n,eM t g n ρ st≠.bad
 ·rw[dif_pos hx]at h;exact Bz _ σ H μ ρ st l h
 ·rw[dif_neg hx]at h;exact h.elim⟩
def HK(fe:FE):FI:=fun ρ st=>(fe ρ st).bind fun x st=>match x with
 |.tup ws=>.ok (ws,none) st
 |_=>.bad
theorem HL(he:SE X e fe):SI X tg e (HK fe):=⟨(Oc he.h).imp fun σ H R h=>by
 walk_at "2"
 walk_at "1"
 cases x with
 |tup ws=>
  obtain⟨p,vs,rfl,hS,r⟩:=q1.tupE
  refine⟨p,rfl,⟨vs,hS⟩,h1 μ1 _ H1 (aq _) fF.refl l1.sto fun i μ' bh H' pp xx S _=>⟨fun w hw=>?_,fun hl=>⟨vs,xx _ _ hS,by rw[<- r.len];exact hl⟩⟩⟩
  have r':=r.mono pp xx
  obtain⟨v,g1,g2⟩:=r'.get hw
  refine⟨⟨vs,v,xx _ _ hS,g1⟩,fun y H'' hy=>?_⟩
  obtain⟨rfl,hy⟩:=hy
  have:=hy vs (xx _ _ hS)
  rw[g1]at this;cases this
  exact⟨fF.refl,S,g2⟩
 |_=>exact h1.elim⟩
def MD(fe:FE):FI:=fun ρ st=>(fe ρ st).bind fun x st=>match x with
 |.loc n=>(match lstOf st n with
  |some ws=>.ok (ws,some (n,ws)) st
  |none=>.bad)
 |_=>.bad
theorem OZ(he:SE X e fe):SI X tg e (MD fe):=⟨(KZ he.h).imp fun σ H R h=>by
 walk_at "2"
 walk_at "1"
 cases x with
 |loc n=>
  obtain⟨a,ha,rfl⟩:=q1.locE
  simp only at h1
  cases e1:lstOf st1 n with
  |none=>rw[e1]at h1;exact h1.elim
  |some ws=>
   rw[e1]at h1
   obtain⟨a',vs0,g0,hS0,r0⟩:=l1.sto.lstOf e1
   rw[ha]at g0;cases g0
   refine⟨a,rfl,⟨vs0,hS0⟩,h1 μ1 _ H1 (aq _) fF.refl l1.sto fun i μ' bh H' pp xx S ck=>?_⟩
   obtain⟨a2,vs,g2,hS,r⟩:=S.lstOf (show lstOf bh n=some ws from ck)
   have:μ'[n]?=some a:=pre_get pp ha
   rw[g2]at this;cases this
   refine⟨fun w hw=>?_,fun hl=>⟨vs,hS,by rw[<- r.len];exact hl⟩⟩
   obtain⟨v,g1,g3⟩:=r.get hw
   refine⟨⟨vs,v,hS,g1⟩,fun y H'' hy=>?_⟩
   obtain⟨rfl,hy⟩:=hy
   have:=hy vs hS
   rw[g1]at this;cases this
   exact⟨fF.refl,S,g3⟩
 |_=>exact h1.elim⟩
noncomputable def gO(lo:Int)(n:Nat):List W:=(List.range n).map fun(i:Nat)=>W.int (lo+i)
theorem fL(lo:Int)(n:Nat):(gO lo n).length=n:=by simp[gO]
theorem DI{lo:Int}:DH X (Uq lo n) (gO lo n,none) μ H:=fun i μ' bh H' pp xx S _=>by
 refine⟨fun w hw=>?_,fun hl=>by rw[fL]at hl;exact hl⟩
 have hi:i<n:=by
  have:=(ax.mp hw).1
  rw[fL]at this;exact this
 refine⟨hi,fun y H'' hy=>?_⟩
 obtain⟨rfl,rfl⟩:=hy
 have e:w=.int (lo+i):=by
  unfold gO at hw
  rw[aG,gI hi]at hw
  exact(bg hw).symm
 subst e
 exact⟨fF.refl,S,.int⟩
def dQ(fs:FA):FI:=fun ρ st=>(fs ρ st).bind fun ws st=>match ws with
 |[.int j]=>if -(2^62)<=j/\j<2^62 then .ok (gO 0 j.toNat,none) st else .bad
 |_=>.bad
theorem ip(hm:X.mg "range"=none)(ha:SA X [a] fs)(hg:Gl X "range":=by rfl)(hs:starEach [a] X.env=[(false,eval a X.env)]:=by rfl):SI X tg (.Call (.Name "range" p) [a] [] pos) (dQ fs):=⟨(FF hg hm ha.h hs).imp fun σ H R h=>by
 walk_at "2"
 walk_at "1"
 split at h1
 ·obtain⟨y,rfl,ry⟩:=q1.one
  split at h1
  ·rename_i c
   exact⟨_,by rw[ry.intE],c.1,c.2,h1 μ1 _ H1 (aq _) fF.refl l1.sto DI⟩
  ·exact h1.elim
 ·exact h1.elim⟩
end
end L2
variable{fi:L2.FI}
namespace L2
open PySem PySem.Spec PyProof.Rows
mutual
noncomputable def W.und(n:Nat):W->Bool
 |.loc m=>decide (m<n)
 |.tup ws=>undWs n ws
 |_=>true
noncomputable def undWs(n:Nat):List W->Bool
 |[]=>true
 |w::ws=>w.und n&&undWs n ws
end
def au.und(n:Nat):au->Bool
 |.lst ws=>undWs n ws
 |.ro ws=>undWs n ws
 |.exc _=>true
 |.dct hG=>undWs n (hG.map fun p=>p.2)
 |.rod hG=>undWs n (hG.map fun p=>p.2)
 |.dcx hG=>undWs n (hG.map fun p=>p.2)
 |.rox hG=>undWs n (hG.map fun p=>p.2)
 |.obj _ fs=>undWs n (fs.map fun p=>p.2)
 |.tab _ _ _=>true
 |.pin _ _ _ w=>w.und n
 |.gone=>true
section
mutual
theorem bN.und:∀{w:W} {v:V},bN K μ H w v->w.und μ.length=true
 |.non,_,_=>by simp[W.und]
 |.bl _,_,_=>by simp[W.und]
 |.int _,_,_=>by simp[W.und]
 |.str _,_,_=>by simp[W.und]
 |.tup _,_,r=>by obtain⟨p,vs,_,_,c⟩:=r.tupE;unfold W.und;exact RelWs.und c
 |.loc _,_,r=>by obtain⟨a,e,_⟩:=r.locE;unfold W.und;exact bG (ax.mp e).1
theorem RelWs.und:∀{ws:List W} {vs:List V},RelWs K μ H ws vs->undWs μ.length ws=true
 |[],_,_=>by unfold undWs;rfl
 |_::_,_,r=>by obtain⟨x,xs,_,b,c⟩:=r.consE;unfold undWs;rw[bN.und b,RelWs.und c];rfl
end
mutual
theorem bN.take:∀{w:W} {v:V},bN K μ H w v->w.und n=true->bN K (μ.take n) H w v
 |.non,_,r,_=>by rw[r.nonE];exact .non
 |.bl _,_,r,_=>by rw[r.blE];exact .bl
 |.int _,_,r,_=>by rw[r.intE];exact .int
 |.str _,_,r,_=>by rw[r.strE];exact .str
 |.tup _,_,r,b=>by obtain⟨p,vs,rfl,h,c⟩:=r.tupE;unfold W.und at b;exact .tupI h (RelWs.takeN c b)
 |.loc _,_,r,b=>by obtain⟨a,e,rfl⟩:=r.locE;unfold W.und at b;exact .locI (by rw[cy (of_decide_eq_true b)];exact e)
theorem RelWs.takeN:∀{ws:List W} {vs:List V},RelWs K μ H ws vs->undWs n ws=true->RelWs K (μ.take n) H ws vs
 |[],_,r,_=>by rw[r.nilE];exact .nilI
 |_::_,_,r,b=>by
  obtain⟨x,xs,rfl,b1,c1⟩:=r.consE
  unfold undWs at b
  rw[dD]at b
  exact .consI (bN.take b1 b.1) (RelWs.takeN c1 b.2)
end
theorem KX.und_w(k:KX)(n:Nat):k.w.und n=true:=by
 have hi:∀ks:List Int,undWs n (ks.map W.int)=true:=fun ks=>by
  induction ks with
  |nil=>rfl
  |cons a l ih=>show(true&&undWs n (l.map W.int))=true;rw[ih];rfl
 cases k with
 |bo b=>rfl
 |fl ks=>unfold KX.w W.und;exact hi ks
 |pr i ks=>unfold KX.w W.und undWs;rw[show(W.int i).und n=true from rfl];unfold undWs;rw[show(W.tup (ks.map W.int)).und n=true by unfold W.und;exact hi ks];rfl
theorem wK:∀{hG:List (KX×W)} {es:List DictEntry},Paired (Br K μ H) hG es->undWs μ.length (hG.map fun p=>p.2)=true
 |_,_,.nil=>rfl
 |_,_,.cons r t=>by
  obtain⟨_,_,v,h,_⟩:=r
  show(_&&undWs _ _)=true
  rw[h.und,wK t];rfl
theorem uH:∀{hG:List (KX×W)} {es:List DictEntry},Paired (Br K μ H) hG es->undWs n (hG.map fun p=>p.2)=true->Paired (Br K (μ.take n) H) hG es
 |_,_,.nil,_=>.nil
 |_,_,.cons r t,b=>by
  obtain⟨a,⟨u,c,d⟩,v,h,g⟩:=r
  have b:(_&&undWs n _)=true:=b
  rw[dD]at b
  exact .cons ⟨a,⟨u,bN.take c (KX.und_w _ n),d⟩,v,bN.take h b.1,g⟩ (uH t b.2)
theorem m5.und{c:au}{a:Addr}(r:m5 K mg μ H c a):c.und μ.length=true:=by
 cases c with
 |lst ws=>obtain⟨vs,_,y⟩:=r;exact y.und
 |ro ws=>obtain⟨vs,_,y⟩:=r;exact y.und
 |exc c=>rfl
 |dct hG=>obtain⟨vs,_,y⟩:=r;exact y.und
 |rod hG=>obtain⟨vs,_,_,y⟩:=r;exact y.und
 |dcx hG=>obtain⟨es,_,_,y,_⟩:=r;exact wK y
 |rox hG=>obtain⟨es,_,_,_,y,_⟩:=r;exact wK y
 |obj _ fs=>obtain⟨_,_,vs,_,_,y⟩:=r;exact y.und
 |tab _ _ _=>rfl
 |pin _ _ _ _=>obtain⟨_,_,_,v,y,_⟩:=r;exact y.und
 |gone=>rfl
theorem m5.take{c:au}{a:Addr}(r:m5 K mg μ H c a)(b:c.und n=true):m5 K mg (μ.take n) H c a:=by
 cases c with
 |lst ws=>obtain⟨vs,x,y⟩:=r;exact⟨vs,x,y.takeN b⟩
 |ro ws=>obtain⟨vs,x,y⟩:=r;exact⟨vs,x,y.takeN b⟩
 |exc c=>exact r
 |dct hG=>obtain⟨vs,x,y⟩:=r;exact⟨vs,x,y.takeN b⟩
 |rod hG=>obtain⟨vs,o,x,y⟩:=r;exact⟨vs,o,x,y.takeN b⟩
 |dcx hG=>obtain⟨es,x,d,y,z⟩:=r;exact⟨es,x,d,uH y b,z⟩
 |rox hG=>obtain⟨es,o,x,d,y,z⟩:=r;exact⟨es,o,x,d,uH y b,z⟩
 |obj _ fs=>obtain⟨C,dx,vs,m,x,y⟩:=r;exact⟨C,dx,vs,m,x,y.takeN b⟩
 |tab _ _ _=>exact r
 |pin _ _ _ _=>obtain⟨ea,p,g,v,y,z⟩:=r;exact⟨ea,p,g,v,y.take b,z⟩
 |gone=>trivial
end
theorem g9.ex{w:World}{a:Addr}{o:HO}(x:g9 P w nk H h a o):∃ob,h.get? a=some ob:=by
 cases o with
 |lst xs=>obtain⟨_,_,_,_,e⟩:=x;exact⟨_,e⟩
 |tup xs=>obtain⟨_,_,_,o,e,_⟩:=x;exact⟨_,e⟩
 |dK hG=>obtain⟨_,_,_,_,o,_,_,e,_⟩:=x;exact⟨_,e⟩
 |dT hG=>obtain⟨_,_,_,_,o,_,_,e,_⟩:=x;exact⟨_,e⟩
 |set S n=>obtain⟨o,_,_,_,e,_⟩:=x;exact⟨_,e⟩
 |ins C dx fs=>obtain⟨_,_,_,e,_⟩:=x;exact⟨_,e⟩
 |own y=>obtain⟨_,e⟩:=x;exact⟨_,e⟩
 |xd fs=>obtain⟨_,⟨_,_,_,e,_⟩,_⟩:=x;exact⟨_,e⟩
 |rng lo hi=>obtain⟨_,_,_,e⟩:=x;exact⟨_,e⟩
 |frz ob u=>obtain⟨e,_⟩:=x;exact⟨_,e⟩
 |tbl ps=>exact⟨_,(show h.get? a=some _ from x)⟩
 |met f y=>exact⟨_,(show h.get? a=some _ from x)⟩
 |ext φ=>obtain⟨_,⟨_,e⟩,_⟩:=x;exact⟨_,e⟩
def ME(st bh:List au)(ws:List W):Prop:=undWs st.length ws=true/\st.length<=bh.length/\∀(i:Nat),i<st.length->bh[i]?=st[i]?\/∃c,bh[i]?=some c/\c.und st.length=true
open Classical in
noncomputable def iM(st bh:List au)(ws:List W):List au:=if ME st bh ws then bh.take st.length else bh
theorem wL{ws:List W}{vs:List V}(S:jD K mg μ st H)(S':jD K mg μ' bh H')(p:μ <+: μ')(r:RelWs K μ' H' ws vs) :
  ∃μ2,μ <+: μ2/\jD K mg μ2 (iM st bh ws) H'/\RelWs K μ2 H' ws vs:=by
 unfold iM
 by_cases k:ME st bh ws
 ·rw[aK k]
  obtain⟨k1,k2,k3⟩:=k
  have e:μ'.take st.length=μ:=by
   obtain⟨t,rfl⟩:=p
   rw[S.len,gZ]
  refine⟨μ'.take st.length,by rw[e];exact aq _,⟨fun i j a ci cj h1 h2 r1 r2 m1 m2=>?_,by rw[aF,aF,S'.len],fun i c a h1 h2=>?_⟩,r.takeN k1⟩
  ·have hi:i<st.length:=by have:=(ax.mp h1).1;rw[aF]at this;omega
   have hj:j<st.length:=by have:=(ax.mp h2).1;rw[aF]at this;omega
   rw[cy hi]at h1 m1
   rw[cy hj]at h2 m2
   exact S'.nd i j a ci cj h1 h2 r1 r2 m1 m2
  ·have hi:i<st.length:=by have:=(ax.mp h1).1;rw[aF]at this;omega
   rw[cy hi]at h1 h2
   refine(S'.at' i c a h1 h2).take ?_
   rcases k3 i hi with q|⟨c',q,b⟩
   ·rw[h1]at q
    obtain⟨a0,g0,r0⟩:=S.get q.symm
    have:=r0.und
    rw[S.len];exact this
   ·rw[h1]at q;cases q;exact b
 ·rw[aU k]
  exact⟨μ',p,S',r⟩
def c9(N:Nat)(body:FS)(ws:List W)(st:List au):R W:=match body #[12] st with
 |.rt w bh=>.ok w (iM st bh [w])
 |.nx _ bh=>.ok .non (iM st bh [])
 |.ex c _ bh=>.ex c (iM st bh [])
 |_=>.bad
def iK(P:Program)(w:World):FP:=fun outer H s E e s'=>∃x C t B H',e=.ref x/\E C none H'/\s'.os=s.os/\AllBare s'.gens/\Un (sP outer) [] H H' s.heap s'.heap/\ul P w s'.toks H' s'.heap/\H' x=none/\Heap.FlyingW B outer x C (.ref t) s'.heap /\
 ∀b o,s'.heap.get? b=some o->(H' b≠none\/((∃o0,s.heap.get? b=some o0)/\b∉sP outer))->B.get? b=some o
def iZ(K:Frag)(mg:Str->Option Value)(n:Nat)(F:List W->List au->R W):Sp:=fun vs H Q E=>vs.length=n/\∃μ ws st,jD K mg μ st H/\RelWs K μ H ws vs/\(match F ws st with
 |.ok w bh=>∀μ' v H',μ <+: μ'->fF K H H'->jD K mg μ' bh H'->bN K μ' H' w v->Q v H'
 |.ex c bh=>∀C μ' H',mg c=some C->μ <+: μ'->fF K H H'->jD K mg μ' bh H'->E C none H'
 |.bad=>False)
theorem vj.noted{c:Str}{e:Value}{Q:Unit->Shared->Prop}{E:Value->Shared->Prop}{M:Model}(f:vj X ak σ c H e s)(oZ:X.stack=X.env::outer)(yx:X.env.frame=some X.env.locals)(hA:X.A.frames=some X.stack)
  (h:∀x C t B h',e=.ref x->X.mg c=some C->H x=none->Heap.FlyingW B X.stack x C (.ref t) h'->s.heap.UpToSlots h' ->
   (∀b o,s.heap.get? b=some o->(H b≠none\/((∃o0,X.s₀.heap.get? b=some o0)/\b∉X.fs/\b∉X.ex)\/((∃y,X.env.cells.lookup y=some b)/\b∉sP X.stack)\/∃p∈X.pn++ak,p.1=b)->B.get? b=some o)->Q () { s with heap:=h' }) :
  wpAny M X.A (leaving X.env e) Q E s:=by
 obtain⟨x,C,t,B,rfl,hC,hx,st,nx,ff,tr,xV⟩:=f.ex
 rw[oZ]at ff hA
 rcases tr with tr|⟨oe,vs,he,rfl,_,hd,h1,h0⟩|⟨L,hL,tr⟩
 ·refine wpAny_leaving_nextW hA ff yx tr st nx fun h' hL=>?_
  obtain⟨k1,k2,k3,k4⟩:=hL
  exact h x C t B h' rfl hC hx ⟨k1,nx,by rw[oZ];exact k2,k3⟩ k4 xV
 ·refine wpAny_leaving_firstW hA ff yx he st nx hd h1 h0 fun h' hL=>?_
  obtain⟨k1,k2,k3,k4⟩:=hL
  exact h x _ t B h' rfl hC hx ⟨k1,nx,by rw[oZ];exact k2,k3⟩ k4 xV
 ·unfold leaving
  refine af (pD hL tr (uh ⟨st,nx,ff,tr⟩ fun h' fl up=>?_))
  exact h x C t B h' rfl hC hx (by rw[oZ];exact fl) up xV
theorem vj.leaves{c:Str}{e:Value}{E:XK}{E':Value->Shared->Prop}(f:vj X ak σ c H e s)(oZ:X.stack=X.env::X.outer)(yx:X.env.frame=some X.env.locals)(hA:X.A.frames=some X.stack)(zo:X.ex=[])
  (hE:∀C,X.mg c=some C->E C none H):wpAny M X.A (leaving X.env e) (fun _ s''=>iK X.prog X.w X.outer X.H₀ X.s₀ E e s'') E' s:=by
 refine f.noted oZ yx hA fun x C t B h' he hC hx fl up xV=>?_
 have I:=f.inv
 have un:=I.base
 rw[zo]at un
 have fsE:X.fs=sP X.outer:=rfl
 obtain⟨f1,f2,f3,f4⟩:=fl
 rw[oZ]at f3
 obtain⟨_,_,f3'⟩:=f3
 have frames:∀b∈sP X.outer,∀o,s.heap.get? b=some o->∃sl,h'.get? b=some { o with slots:=sl }:=fun b hb o ho=>by
  obtain⟨_,o',ho',hd⟩:=I.funs.mem hb
  rw[ho]at ho';cases ho'
  exact up b o ho hd
 have kept:∀b o,s.heap.get? b=some o->(∃o0,X.s₀.heap.get? b=some o0)->b∉sP X.outer->h'.get? b=some o:=fun b o ho h0 hb=>f1 b o (xV b o ho (.inr (.inl ⟨h0,hb,by rw[zo];simp⟩)))
 have keptH:∀b o,s.heap.get? b=some o->H b≠none->h'.get? b=some o:=fun b o ho h0=>f1 b o (xV b o ho (.inl h0))
 refine⟨x,C,t,B,H,he,hE C hC,I.os,I.bare,⟨fun b o q n hb hx=>?_,fun b o q n hb hx=>?_,fun b o q n hx=>un.free b o q n hx,fun b o q hx=>?_,un.tups,un.frzs,un.tbls⟩,fun b u hb=>?_,hx,⟨f1,f2,f3',f4⟩,fun b o ho hr=>?_⟩
 ·exact kept b o (un.keep b o q n hb hx) ⟨o,q⟩ hb
 ·obtain⟨sl,q1⟩:=un.slot b o q n hb hx
  obtain⟨sl2,q2⟩:=frames b hb _ q1
  exact⟨sl2,q2⟩
 ·obtain⟨o',q1⟩:=un.there b o q hx
  by_cases hb:b∈sP X.outer
  ·obtain⟨sl2,q2⟩:=frames b hb _ q1;exact⟨_,q2⟩
  ·exact⟨o',kept b o' q1 ⟨o,q⟩ hb⟩
 ·refine(I.hok b u hb).stay (fun c v hc q=>?_) (fun _ q=>q) fun _ _ q=>q
  refine keptH c v q ?_
  rcases hc with rfl|hc
  ·rw[hb];simp
  ·rw[hc];simp
 ·rcases hr with hr|⟨⟨o0,h0⟩,hb⟩
  ·cases hu:H b with
   |none=>exact absurd hu hr
   |some u=>
    have lt:=I.hok.lt hu
    obtain⟨ob,hob⟩:∃ob,s.heap.get? b=some ob:=by
     exact(I.hok b u hu).ex
    have:=keptH b ob hob hr
    rw[ho]at this;cases this
    exact xV b o hob (.inl hr)
  ·obtain⟨o',q1⟩:=un.there b o0 h0 #[15]
   have:=kept b o' q1 ⟨o0,h0⟩ hb
   rw[ho]at this;cases this
   exact xV b o q1 (.inr (.inl ⟨⟨o0,h0⟩,hb,by rw[zo];simp⟩))
structure bR(P:Program)(w:World)(K:Frag)(mg:Str->Option Value)(base:Heap)(k:Nat)(x:Str)(n:Nat)(F:List W->List au->R W):Prop where
 ex:∃(f:Addr) (fd:FuncData) (ps:List Str),mg x=some (.ref f)/\keepIn K (.ref f)=true/\ps.length=n/\rh K fd ps []/\c7 P w K mg base (iK P w) k f fd ps (iZ K mg n F)
theorem bR.mono{w:World}(h:bR P w K mg base j x n F)(hj:j<=k):bR P w K mg base k x n F:=by
 obtain⟨f,fd,ps,a,b,c,d,e⟩:=h.ex
 exact⟨f,fd,ps,a,b,c,d,e.mono hj⟩
def b8(n:Nat)(F:List W->List au->R W)(fs:FA):FE:=fun ρ st=>(fs ρ st).bind fun ws st=>if ws.length=n then F ws st else .bad
section
theorem HM{f:Addr}{Q:VK}{us:List Value}{vs:List V}
  (Fn:c7 X.prog X.w X.K X.mg X.base (iK X.prog X.w) k f fd ps (iZ X.K X.mg n F)) (hn:ps.length=n) (hr:jX k X.A) (hb:rh X.K fd ps []) (I:bI X ak σ H s) (S:jD X.K X.mg μ st H) (r:RelWs X.K μ H ws vs) (rv:cL s.toks vs us) (hl:ws.length=n)
  (h:RK X (uz X) μ σ H Q (F ws st)):wpAny #[4] X.A (call (.ref f) us) (EP X ak σ Q) X.xe s:=by
 have hl':(us++([]:List Value)).length=ps.length:=by rw[a8,<- rv.length,<- r.len,hl,hn]
 cases e:F ws st with
 |bad=>rw[e]at h;exact h.elim
 |ok w bh=>
  rw[e]at h
  refine up (sN (i' (Fn.run X.A X.stack s H ⟨us,[]⟩ us vs Q (fun _ _ _=>False) hr I.env0 (.inl I.pos) (by have:=hb s us I.kIn hl';rwa[a8]at this) rv ⟨by rw[<- r.len];exact hl,μ,ws,st,S,r,by rw[e];exact h⟩) fun r s' hq=>?_))
  cases r with
  |error e=>obtain⟨_,_,_,_,_,_,z,_⟩:=hq;exact z.elim
  |ok fl=>
   cases fl with
   |ret u=>exact fun kt=>I.after hq kt
   |next=>exact False.elim hq
   |brk=>exact False.elim hq
   |cont=>exact False.elim hq
 |ex c bh=>
  rw[e]at h
  refine up (sN (i' (Fn.run X.A X.stack s H ⟨us,[]⟩ us vs (fun _ _=>False) (fun C _ H'=>X.mg c=some C/\∃μ',μ <+: μ'/\fF X.K H H'/\jD X.K X.mg μ' bh H') hr I.env0 (.inl I.pos) (by have:=hb s us I.kIn hl';rwa[a8]at this) rv
   ⟨by rw[<- r.len];exact hl,μ,ws,st,S,r,by rw[e];exact fun C μ' H' hC p x S'=>⟨hC,μ',p,x,S'⟩⟩) fun r s' hq=>?_))
  cases r with
  |ok fl=>
   cases fl with
   |ret u=>obtain⟨_,_,_,_,_,_,_,z⟩:=hq;exact z.elim
   |next=>exact False.elim hq
   |brk=>exact False.elim hq
   |cont=>exact False.elim hq
  |error ev=>
   obtain⟨x,C,t,B,H',rfl,⟨hC,μ',p,xx,S'⟩,os,bare,un,hok,hx,fl,xV⟩:=hq
   intro kt
   have I':bI X ak σ H' s':=I.call' os un hok bare (fun b hb=>absurd hb #[15]) kt
   refine h ak μ' H' (.ref x) s' p xx S' ⟨I',x,C,t,B,rfl,hC,hx,fl.1,fl.2.1,fl.2.2.1,.inl fl.2.2.2,fun b o ho hrel=>?_⟩
   refine xV b o ho ?_
   rcases hrel with q|⟨⟨o0,h0⟩,hb,hbx⟩|⟨⟨y,hy⟩,hb⟩|⟨pp,hp,rfl⟩
   ·exact .inl q
   ·refine .inr ⟨?_,fun z=>?_⟩
    ·obtain⟨o',q1⟩:=I.base.there b o0 h0 hbx
     exact⟨o',q1⟩
    ·rcases aX.mp (I.stkSub b z)with z|z
     ·rw[z]at h0
      exact absurd (aL (aJ h0) I.ok.above) (dL _)
     ·exact hb z
   ·obtain⟨v,ov,hov,_⟩:=I.cell y b hy
    exact .inr ⟨⟨_,hov⟩,hb⟩
   ·obtain⟨g1,g2,g3,g4,_⟩:=I.pin pp hp
    refine .inr ⟨⟨_,g1⟩,fun z=>?_⟩
    rcases aX.mp (I.stkSub _ z)with z|z
    ·exact g3 z
    ·exact g4 z
variable{fs:FA}
theorem bz{k':Nat}(Fn:bR X.prog X.w X.K X.mg X.base k x n F)(hr:jX k' X.A)(hk:k<=k')(ha:SA X (e::es) fs)(hg:Gl X x:=by rfl)(Kk:(x==("__debug__":Str))=false:=by decide)
  (he:starEach (e::es) X.env=(false,eval e X.env)::starEach es X.env:=by rfl) (ou:(backTo pos (starEach es X.env)).any (·.1)=false:=by rfl):SE X (.Call (.Name x p) (e::es) [] pos) (b8 n F fs):=⟨by
 intro ak s σ H Q I h
 obtain⟨f,fd,ps,hm,hkp,hn,hb,Fo⟩:=(Fn.mono hk).ex
 refine fR (sQ I hg hm ?_ Kk)
 walk_at "2"
 have h':R4 X fs σ H fun vs H1=>∃μ1 st1 ws,Rl X μ1 ρ st1 σ H1/\RelWs X.K μ1 H1 ws vs/\RK X (uz X) μ1 σ H1 Q (if ws.length=n then F ws st1 else .bad):=
  ⟨μ,ρ,st,l,RK.bind h l fun μ1 st1 x v H1 p1 x1 l1 q1 h1=>⟨μ1,st1,x,l1,q1,h1⟩⟩
 refine PySem.W.callWith_K (h₀:=X.base) I.ok.mod.kin hkp (ky (ha.h pos ak s σ H _ I h') fun us s1 kt1 ⟨vs,H1,I1,r,μ1,st1,ws,l1,r1,q⟩=>⟨I1.kIn,?_⟩) he ou
 by_cases c:ws.length=n
 ·rw[aK c]at q
  exact HM Fo hn hr hb I1 l1.sto r1 r c q
 ·rw[aU c]at q;exact q.elim⟩
end
theorem Lz{w:World}{st:Stmt}{f:Addr}{N:List Str}{g:FS}(F:iX K x fN st f fd)(S:ba N ps (aO st))(hn:ps.length=n)
  (CP:∀(fD:Value) (A:Around) (outer:List Env) (s:Shared) (H:Hp) (E:XK),fd.code=fD->jX k (A.deeper (envOfC fN (aO st) s.heap.objs.size f fD)) ->
   SB (Dh (iK P w) P w K mg base N fN (aO st) f fD A outer s H E) (hU st) g):c7 P w K mg base (iK P w) (k+1) f fd ps (iZ K mg n (c9 N.length g)):=by
 obtain⟨oc,od,kV,um,pm,an,fD,ct,NR,rfl,lk,C4⟩:=F.ex
 refine RD lk C4 S (fun vs H Q E h=>by rw[hn];exact h.1) fun A outer s H vs Q E hr NL=>?_
 obtain⟨hl,μ,ws,UL,Sr,r,h⟩:=NL
 refine⟨_,(CP fD A outer s H E rfl hr).h,μ,ws.map some++List.replicate (N.length-ws.length) none,UL,⟨?_,Sr⟩,?_⟩
 ·unfold vf
  rw[<- r.len]
  have base:∀(ws:List W) (vs:List V) (m:Nat),RelWs K μ H ws vs->Paired (fun(o:Option W) (s:Option V)=>∀w,o=some w->∃v,s=some v/\bN K μ H w v) (ws.map some++List.replicate m none) (vs.map some++List.replicate m none):=by
   intro ws
   induction ws with
   |nil=>
    intro vs m r
    rw[r.nilE]
    induction m with
    |zero=>exact .nil
    |succ m ih=>exact .cons (fun w z=>nomatch z) ih
   |cons w ws ih=>
    intro vs m r
    obtain⟨y,ys,rfl,ry,rys⟩:=r.consE
    exact .cons (fun w' z=>⟨y,rfl,by cases z;exact ry⟩) (ih ys m rys)
  exact base ws vs _ r
 ·unfold c9 at h
  cases e:g (ws.map some++List.replicate (N.length-ws.length) none) UL with
  |rt w bh=>
   rw[e]at h
   intro μ' v H' p x S' u_
   obtain⟨μ2,p2,S2,r2⟩:=wL Sr S' p (.consI u_ .nilI)
   obtain⟨_,e2,r3⟩:=r2.one
   cases e2
   exact h μ2 v H' p2 x S2 r3
  |nx ρ' bh=>
   rw[e]at h
   intro μ' σ' H' p x l'
   obtain⟨μ2,p2,S2,_⟩:=wL (ws:=[]) (vs:=[]) Sr l'.sto p .nilI
   exact h μ2 .non H' p2 x S2 .non
  |ex c ρ' bh=>
   rw[e]at h
   intro ak μ' σ' H' ev s' p x l' fl
   obtain⟨μ2,p2,S2,_⟩:=wL (ws:=[]) (vs:=[]) Sr l'.sto p .nilI
   exact fl.leaves rfl rfl fl.inv.ok.frames rfl fun C hC=>h C μ2 H' hC p2 x S2
  |bk ρ' bh=>rw[e]at h;exact h.elim
  |ct ρ' bh=>rw[e]at h;exact h.elim
  |bad=>rw[e]at h;exact h.elim
theorem bS{w:World}{st:Stmt}{f:Addr}{N:List Str}{k:Nat}{g:FS}(F:iX K x fN st f fd)(S:ba N ps (aO st))(hn:ps.length=n)
  (CP:∀(fD:Value) (A:Around) (outer:List Env) (s:Shared) (H:Hp) (E:XK),jX k (A.deeper (envOfC fN (aO st) s.heap.objs.size f fD)) ->
   SB (Dh (iK P w) P w K mg base N fN (aO st) f fD A outer s H E) (hU st) g):c7 P w K mg base (iK P w) (k+1) f fd ps (iZ K mg n (c9 N.length g)):=Lz F S hn fun fD A outer s H E _ hr=>CP fD A outer s H E hr
theorem zP{w:World}{st:Stmt}{f:Addr}{ps:List Str}
  (F:iX K x x st f fd) (hm:mg x=some (.ref f)) (hn:ps.length=n)
  (hb:∀(kV um pm:Value) (an:Option Addr) (fD ct:Value) (us:List Value),us.length=ps.length->bindArgs (fnOf x x (iW st) (hU st) (aO st) .none kV um pm an fD ct) ⟨us,[]⟩=pure (ps.zip us))
  (ok:c7 P w K mg base (iK P w) k f fd ps (iZ K mg n G)):bR P w K mg base k x n G:=⟨f,fd,ps,hm,F.kp,hn,F.binds hb,ok⟩
end L2
namespace L2
open PySem PySem.Spec PyProof.Rows
theorem RelWs.split:∀{as bs:List W} {vs:List V},RelWs K μ H (as++bs) vs->∃xs ys,vs=xs++ys/\RelWs K μ H as xs/\RelWs K μ H bs ys
 |[],_,vs,r=>⟨[],vs,rfl,.nilI,r⟩
 |w::as,bs,vs,r=>by
  obtain⟨x,xs,rfl,rx,rs⟩:=r.consE
  obtain⟨ys,zs,rfl,r1,r2⟩:=RelWs.split rs
  exact⟨x::ys,zs,rfl,.consI rx r1,r2⟩
section
variable{a b:Expr}{fb:FE}{fs:FA}{id:String}
structure Q5(X:Cx)(id:String)(F:W->List W->List au->R W):Prop where
 h:FU X id (fun x vs H Q=>∃μ st wx ws,jD X.K X.mg μ st H/\bN X.K μ H wx x/\RelWs X.K μ H ws vs/\GN X μ H Q (F wx ws st))
 n:∀x ws st,vE (F x ws st)
noncomputable def mw(st:List au):W->Bool
 |.loc n=>(match st[n]? with|some (.lst _)=>true|_=>false)
 |_=>false
noncomputable def yT:W->Bool
 |.str _=>true
 |_=>false
theorem BA{w:W}{v:V}(S:jD X.K X.mg μ st H)(r:bN X.K μ H w v)(h:mw st w=true):∃l ys,v=.ref l/\H l=some (.lst ys):=by
 cases w with
 |loc n=>
  obtain⟨a,ha,rfl⟩:=r.locE
  simp only[mw]at h
  cases e1:st[n]? with
  |none=>rw[e1]at h;cases h
  |some cc=>
   rw[e1]at h
   cases cc with
   |lst ws=>obtain⟨a1,g1,vs,k1,_⟩:=S.get e1;rw[ha]at g1;cases g1;exact⟨_,vs,rfl,k1⟩
   |_=>cases h
 |_=>cases h
def oG(F:W->List W->List au->R W)(fo:FE)(fs:FA):FE:=fun ρ st=>(fo ρ st).bind fun x st=>if mw st x then(fs ρ st).bind fun ws st=>F x ws st else .bad
def KC(F:W->List W->List au->R W)(fo:FE)(fs:FA):FE:=fun ρ st=>(fo ρ st).bind fun x st=>if yT x then(fs ρ st).bind fun ws st=>F x ws st else .bad
theorem nR{F:W->List W->List au->R W}(slot:Slot "list" name id)(Ew:typeOf (.builtin id)=pure (.type "method_descriptor"))(hm:Q5 X id F)(ho:SE X o fo)(ha:SA X (e::es) fs)
  (ki:attributeBase o name X.env (eval o X.env)=eval o X.env:=by rfl)
  (sJ:((backTo eN (starEach (e::es) X.env)).all (fun x=>!x.1)&&(backToKw eN (keywordEach [] X.env)).all (fun x=>x.1.isSome)
   && decide #[18])=true:=by rfl)
  (lq:(gT.endLine==eN.line)=true:=by rfl) (hs:starEach (e::es) X.env=(false,eval e X.env)::starEach es X.env:=by rfl) (pc:(backTo eN (starEach es X.env)).any (·.1)=false:=by rfl) :
  SE X (.Call (.Attribute o name gT) (e::es) [] eN) (oG F fo fs):=⟨(RR slot Ew hm.h ho.h ha.h ki sJ lq hs pc).imp fun σ H Q h=>by
 walk_at "2"
 walk_at "1"
 by_cases c:mw st1 x=true
 ·rw[aK c]at h1
  refine⟨BA l1.sto q1 c,μ1,ρ,st1,l1,RK.bind h1 l1 fun μ2 de ws vs H2 p2 x2 l2 q2 h2=>?_⟩
  exact⟨μ2,de,x,ws,l2.sto,q1.mono p2 x2,q2,uC h2 (hm.n _ _ _)⟩
 ·rw[aU c]at h1;exact h1.elim⟩
theorem vo{F:W->List W->List au->R W}(slot:Slot "list" name id)(Ew:typeOf (.builtin id)=pure (.type "method_descriptor"))(hm:Q5 X id F)(ho:SE X o fo)
  (ki:attributeBase o name X.env (eval o X.env)=eval o X.env:=by rfl) (lq:(gT.endLine==eN.line)=true:=by rfl):SE X (.Call (.Attribute o name gT) [] [] eN) (oG F fo aD):=⟨(OI slot Ew hm.h ho.h ki lq).imp fun σ H Q h=>by
 walk_at "2"
 walk_at "1"
 by_cases c:mw st1 x=true
 ·rw[aK c]at h1
  exact⟨BA l1.sto q1 c,μ1,st1,x,[],l1.sto,q1,.nilI,uC h1 (hm.n _ _ _)⟩
 ·rw[aU c]at h1;exact h1.elim⟩
theorem LA{F:W->List W->List au->R W}(slot:Slot "str" name id)(Ew:typeOf (.builtin id)=pure (.type "method_descriptor"))(hm:Q5 X id F)(ho:SE X o fo)(ha:SA X (e::es) fs)
  (ki:attributeBase o name X.env (eval o X.env)=eval o X.env:=by rfl)
  (sJ:((backTo eN (starEach (e::es) X.env)).all (fun x=>!x.1)&&(backToKw eN (keywordEach [] X.env)).all (fun x=>x.1.isSome)
   && decide #[18])=true:=by rfl)
  (lq:(gT.endLine==eN.line)=true:=by rfl) (hs:starEach (e::es) X.env=(false,eval e X.env)::starEach es X.env:=by rfl) (pc:(backTo eN (starEach es X.env)).any (·.1)=false:=by rfl) :
  SE X (.Call (.Attribute o name gT) (e::es) [] eN) (KC F fo fs):=⟨(RT slot Ew hm.h ho.h ha.h ki sJ lq hs pc).imp fun σ H Q h=>by
 walk_at "2"
 walk_at "1"
 cases x with
 |str z=>
  rw[aK (show yT (W.str z)=true from rfl)]at h1
  refine⟨⟨z,q1.strE⟩,μ1,ρ,st1,l1,RK.bind h1 l1 fun μ2 de ws vs H2 p2 x2 l2 q2 h2=>?_⟩
  exact⟨μ2,de,_,ws,l2.sto,q1.mono p2 x2,q2,uC h2 (hm.n _ _ _)⟩
 |_=>exact h1.elim⟩
def cv(x:W)(ws:List W)(st:List au):R W:=match x,ws with
 |.loc n,[y]=>(match st[n]? with
  |some (.lst zs)=>if zs.length<nQ then .ok .non (st.set n (.lst (zs++[y])))else .bad
  |_=>.bad)
 |_,_=>.bad
theorem dr:Q5 X "list.append" cv:=⟨fun ak s σ H x vs v us Q I rv rus zq=>by
 obtain⟨μ,st,wx,ws,S,rx,rs,q⟩:=zq
 unfold cv at q
 split at q
 ·rename_i n y
  obtain⟨y1,rfl,ry⟩:=rs.one
  split at q
  ·rename_i zs e1
   split at q
   ·rename_i c
    obtain⟨a1,g1,vs,k1,r⟩:=S.get e1
    obtain⟨b1,f1,rfl⟩:=rx.locE
    rw[g1]at f1;cases f1
    refine Dt ak s σ H _ _ v us Q I rv rus ⟨a1,vs,y1,rfl,rfl,k1,by rw[<- r.len];exact OO (gp c),fun H2 e=>?_⟩
    subst e
    exact q μ _ _ (aq _) (gz.but mW k1) (S.set e1 g1 k1 (r.app (.consI ry .nilI))) .non
   ·exact q.elim
  ·exact q.elim
 ·exact q.elim,fun x ws st=>by
 unfold cv
 repeat' split
 all_goals trivial⟩
def q9(x:W)(ws:List W)(st:List au):R W:=match x,ws with
 |.loc n,[]=>(match st[n]? with
  |some (.lst zs)=>uG zs.getLast? fun w=>.ok w (st.set n (.lst zs.dropLast))
  |_=>.bad)
 |_,_=>.bad
theorem qh:Q5 X "list.pop" q9:=⟨fun ak s σ H x vs v us Q I rv rus zq=>by
 obtain⟨μ,st,wx,ws,S,rx,rs,q⟩:=zq
 unfold q9 at q
 split at q
 ·rename_i n
  have e0:=rs.nilE
  subst e0
  split at q
  ·rename_i zs e1
   obtain⟨a1,g1,vs,k1,r⟩:=S.get e1
   obtain⟨b1,f1,rfl⟩:=rx.locE
   rw[g1]at f1;cases f1
   cases hl:zs.getLast? with
   |none=>rw[hl]at q;exact q.elim
   |some w=>
    rw[hl]at q
    have hz:zs=zs.dropLast++[w]:=by
     obtain⟨ys,rfl⟩:=List.getLast?_eq_some_iff.mp hl
     simp
    rw[hz]at r
    obtain⟨xs',Q_,hx,r1,r3⟩:=r.split
    obtain⟨y',rfl,r2⟩:=r3.one
    refine Lj ak s σ H _ _ v us Q I rv rus ⟨a1,xs',y',rfl,rfl,by rw[<- hx];exact k1,fun H2 e=>?_⟩
    subst e
    have xx:fF X.K H (fW H a1 (.lst xs')):=gz.but mW k1
    exact q μ _ _ (aq _) xx (S.set e1 g1 k1 r1) (r2.mono (aq _) xx)
  ·exact q.elim
 ·exact q.elim,fun x ws st=>by
 unfold q9 uG
 repeat' split
 all_goals trivial⟩
noncomputable def pG:List W->Option (List (List Nat))
 |[]=>some []
 |.str l::ws=>(pG ws).map (l :: ·)
 |_=>none
theorem wM:∀{ws:List W} {ls:List (List Nat)} {vs:List V},pG ws=some ls->RelWs K μ H ws vs->vs=ls.map fun l=>V.str (tx l)
 |[],ls,vs,h,r=>by simp only[pG]at h;cases h;exact r.nilE
 |w::ws,ls,vs,h,r=>by
  obtain⟨x,xs,rfl,rx,rs⟩:=r.consE
  cases w with
  |str l=>
   simp only[pG]at h
   cases e:pG ws with
   |none=>rw[e]at h;cases h
   |some ls'=>rw[e]at h;cases h;rw[rx.strE,wM e rs];rfl
  |_=>simp only[pG]at h;cases h
theorem yU(ls:List (List Nat)):pG (ls.map W.str)=some ls:=by
 induction ls with
 |nil=>rfl
 |cons a r ih=>show(pG (r.map W.str)).map (a :: ·)=_;rw[ih];rfl
def pH(x:W)(ws:List W)(st:List au):R W:=match x,ws with
 |.str sep,[.loc n]=>uG (lstOf st n) fun zs=>uG (pG zs) fun ls=>if (ls.map List.length).sum+ls.length*sep.length<=nQ then .ok (.str (mv sep ls)) st else .bad
 |_,_=>.bad
theorem vT:Q5 X "str.join" pH:=⟨fun ak s σ H x vs v us Q I rv rus zq=>by
 obtain⟨μ,st,wx,ws,S,rx,rs,q⟩:=zq
 unfold pH at q
 split at q
 ·rename_i sep n
  obtain⟨y1,rfl,ry⟩:=rs.one
  cases e1:lstOf st n with
  |none=>rw[e1]at q;exact q.elim
  |some zs=>
   rw[e1,eZ]at q
   cases e2:pG zs with
   |none=>rw[e2]at q;exact q.elim
   |some ls=>
    rw[e2,eZ]at q
    split at q
    ·rename_i c
     obtain⟨a,vs,g,hS,r⟩:=S.lstOf e1
     obtain⟨b1,f1,rfl⟩:=ry.locE
     rw[g]at f1;cases f1
     have:=wM e2 r
     subst this
     exact Lh ak s σ H _ _ v us Q I rv rus ⟨sep,_,ls,rx.strE,rfl,hS,aN c #[3],s9 S q⟩
    ·exact q.elim
 ·exact q.elim,fun x ws st=>by
 unfold pH
 split
 ·exact vn fun _=>vn fun _=>by split<;>trivial
 ·trivial⟩
end
def uI(cap:List (Option Nat))(ρ:cW):cW:=cap.map fun o=>o.bind fun j=>(ρ[j]?).join
theorem Sk(r:Paired (fun(o:Option W) (s:Option V)=>∀w,o=some w->∃v,s=some v/\bN X.K μ H w v) ρ σ):∀cap:List (Option Nat),
  Paired (fun(o:Option W) (s:Option V)=>∀w,o=some w->∃v,s=some v/\bN X.K μ H w v) (uI cap ρ) (rj cap σ)
 |[]=>.nil
 |o::cap=>by
  refine .cons (fun w e=>?_) (Sk r cap)
  cases o with
  |none=>cases e
  |some j=>
   have e':(ρ[j]?).join=some w:=e
   have e2:ρ[j]?=some (some w):=by
    cases h:ρ[j]? with
    |none=>rw[h]at e';cases e'
    |some ow=>rw[h]at e';simp at e';rw[e']
   obtain⟨v,g1,g2⟩:=wD r e2
   exact⟨v,by show(σ[j]?).join=some v;rw[g1];rfl,g2⟩
open Classical in
def s_(f:FG)(t:FT)(el:FE)(ck:Option (Nat×List W))(ρ0:cW):List W->List W->List au->R (List W)
 |[],ju,st=>if m6 st ck then .ok ju st else .bad
 |w::ws,ju,st=>if m6 st ck then(match f w ρ0 with
  |none=>.bad
  |some ρ'=>(match t ρ' st with
   |.ok true st1=>(match el ρ' st1 with
    |.ok y de=>s_ f t el ck ρ0 ws (ju++[y]) de
    |_=>.bad)
   |.ok false st1=>s_ f t el ck ρ0 ws ju st1
   |_=>.bad))else .bad
def lg(cap:List (Option Nat))(fi:FI)(f:FG)(t:FT)(el:FE):FE:=fun ρ st=>(fi ρ st).bind fun k st=>if k.1.length<=nQ then(s_ f t el k.2 (uI cap ρ) k.1 [] st).bind fun ys st=>qc ys st else .bad
def Uv(X:Cx)(rel:List Addr->Hp->α->β->Prop)(f:cW->List au->R α)(σ:St)(H:Hp)(Q:β->Hp->Prop):Prop:=
 ∃μ ρ st a bh,Rl X μ ρ st σ H/\f ρ st=.ok a bh/\∀μ' b H',μ <+: μ'->fF X.K H H'->jD X.K X.mg μ' bh H'->rel μ' H' a b->Q b H'
def x_:FT:=fun _ st=>.ok true st
structure Sl(X:Cx)(es:List Expr)(f:FT):Prop where
 h:He X es (tT X f)
theorem He.imp{e:List Expr}{t t':TT}(h:He X e t)(i:∀σ H Q,t' σ H Q->t σ H Q):He X e t':=fun ak s σ H Q I q=>h ak s σ H Q I (i _ _ _ q)
theorem vU:Sl X [] x_:=⟨Ld.imp fun σ H Q h=>by
 walk_at "2"
 exact h μ true H (aq _) fF.refl l.sto rfl⟩
theorem E3(hc:ST X c t):Sl X [c] t:=⟨Le hc.h⟩
theorem HN{f:FG}{Q:VK}(h:tE X (lg cap fi f t el) σ H Q) :
  wj cap (fun σ H R=>tG X (Sj X) fi σ H R) (Sg X f) (Uv X OP t) (Uv X (uz X) el) σ H Q:=by
 walk_at "2"
 refine⟨μ,ρ,st,l,RK.bind h l fun μ1 st1 k J H1 p1 x1 l1 wk h1=>?_⟩
 by_cases hz:k.1.length<=nQ
 ·rw[aK hz]at h1
  refine⟨fun i m ys H'=>i<=k.1.length/\m=k.1.length-i/\ys.length<=i/\∃μ' ju bh,μ1 <+: μ'/\fF X.K H1 H'/\Rl X μ' ρ bh σ H'/\RelWs X.K μ' H' ju ys/\RK X (uz X) μ' σ H' Q ((s_ f t el k.2 (uI cap ρ) (k.1.drop i) ju bh).bind fun ys st=>qc ys st),
   ⟨_,bZ _,rfl,aA _,μ1,[],st1,aq _,fF.refl,l1,.nilI,h1⟩,?_⟩
  rintro i m ys H' ⟨hi,rfl,hy,μ',ju,bh,pm,xm,lm,ra,hm⟩
  by_cases hlt:i<k.1.length
  ·rw[dE hlt]at hm
   unfold s_ at hm
   by_cases ck:m6 bh k.2
   ·rw[aK ck]at hm
    obtain⟨go,yld⟩:=(wk i μ' bh H' pm xm lm.sto ck).1 _ (aj hlt)
    refine .inr ⟨go,fun x H2 hy2=>?_⟩
    obtain⟨y1,y2,y3⟩:=yld x H2 hy2
    cases hf:f k.1[i] (uI cap ρ)with
    |none=>rw[hf]at hm;exact hm.elim
    |some ρ2=>
     rw[hf]at hm
     simp only at hm
     have lb:Rl X μ' (uI cap ρ) bh (rj cap σ) H2:=⟨Sk (lm.to (aq _) y1 y2).env cap,y2⟩
     refine⟨μ',uI cap ρ,bh,k.1[i],ρ2,lb,y3,hf,fun σ2 l2=>?_⟩
     cases ht:t ρ2 bh with
     |bad=>rw[ht]at hm;exact hm.elim
     |ex c s=>rw[ht]at hm;exact hm.elim
     |ok kk de=>
      rw[ht]at hm
      refine⟨μ',ρ2,bh,kk,de,l2,ht,fun μ3 b3 H3 p3 x3 S3 q3=>?_⟩
      cases q3
      cases kk with
      |false=>
       exact⟨_,by omega,hlt,rfl,by omega,μ3,ju,de,pm.trans p3,xm.trans (y1.trans x3),lm.to p3 (y1.trans x3) S3,ra.mono p3 (y1.trans x3),RK.mono hm p3 (y1.trans x3)⟩
      |true=>
       rw[aK rfl]
       simp only at hm
       cases he:el ρ2 de with
       |bad=>rw[he]at hm;exact hm.elim
       |ex c s=>rw[he]at hm;exact hm.elim
       |ok w nN=>
        rw[he]at hm
        refine⟨μ3,ρ2,de,w,nN,l2.to p3 x3 S3,he,fun μ4 b4 H4 p4 x4 S4 q4=>?_⟩
        have pp:=p3.trans p4
        have xx:=y1.trans (x3.trans x4)
        exact⟨jH hy (aL hlt (qa hz)),_,by omega,hlt,rfl,by simp;omega,μ4,ju++[w],nN,pm.trans pp,xm.trans xx,lm.to pp xx S4,(ra.mono pp xx).app (.consI q4 .nilI),RK.mono hm pp xx⟩
   ·rw[aU ck]at hm;exact hm.elim
  ·have hi':i=k.1.length:=by omega
   subst hi'
   rw[pz (aA _)]at hm
   unfold s_ at hm
   by_cases ck:m6 bh k.2
   ·rw[aK ck]at hm
    obtain⟨z1,z2⟩:=wE lm.sto ra hm
    exact .inl ⟨(wk _ μ' bh H' pm xm lm.sto ck).2 (aA _),z1,fun p hp=>z2 p _ hp rfl⟩
   ·rw[aU ck]at hm;exact hm.elim
 ·rw[aU hz]at h1;exact h1.elim
section
variable{f:FG}{m:Nat}
theorem V2{X X':Cx}{f:FE}(hK:X'.K=X.K)(hm:X'.mg=X.mg)(h:SE X' e f):QE X' e (Uv X (uz X) f):=⟨h.h.imp fun σ H Q ⟨μ,ρ,st,a,bh,l,e,q⟩=>⟨μ,ρ,st,⟨by rw[hK];exact l.env,by rw[hK,hm];exact l.sto⟩,by rw[e];exact fun μ' b H' p x S r=>q μ' b H' p (by rw[<- hK];exact x) (by rw[<- hK,<- hm];exact S) (by show bN X.K μ' H' a b;rw[<- hK];exact r)⟩⟩
theorem V3{X X':Cx}{e:List Expr}{f:FT}(hK:X'.K=X.K)(hm:X'.mg=X.mg)(h:Sl X' e f):Vg X' e (Uv X OP f):=⟨h.h.imp fun σ H Q ⟨μ,ρ,st,a,bh,l,e,q⟩=>⟨μ,ρ,st,⟨by rw[hK];exact l.env,by rw[hK,hm];exact l.sto⟩,by rw[e];exact fun μ' b H' p x S r=>q μ' b H' p (by rw[<- hK];exact x) (by rw[<- hK,<- hm];exact S) r⟩⟩
theorem V4{X X':Cx}(hK:X'.K=X.K)(hm:X'.mg=X.mg)(h:SG X' e f):QG X' e (Sg X f):=⟨h.h.imp fun v σ H Q ⟨μ,ρ,st,w,ρ',l,r,e,q⟩=>⟨μ,ρ,st,w,ρ',⟨by rw[hK];exact l.env,by rw[hK,hm];exact l.sto⟩,by rw[hK];exact r,e,fun σ' l'=>q σ' ⟨by rw[<- hK];exact l'.env,by rw[<- hK,<- hm];exact l'.sto⟩⟩⟩
theorem DJ(hB:F1 X.env.scope.names scope.names nm cap X.N=true)(sK:X.env.cells=cellsFrom m X.env.scope.names [])(hi:SI X tg et fi)(hg:∀cl C s0 H0 fp,SG #[10] tg f)(ht:∀cl C s0 H0 fp,Sl #[10] oq t)
  (he:∀cl C s0 H0 fp,SE #[10] sI el) (kC:X.calm=true:=by rfl) (kD:scope.kind=.function:=by rfl) (hs:∀x,foldedSetIterable et X.env x=pure x:=by intro _;rfl) :
  SE X #[11] (lg cap fi f t el):=
 ⟨(OK kC sK kD hB ⟨hi.h⟩ (fun cl C s0 H0 fp=>V4 (X:=X) rfl rfl (hg cl C s0 H0 fp)) (fun cl C s0 H0 fp=>V3 (X:=X) rfl rfl (ht cl C s0 H0 fp)) (fun cl C s0 H0 fp=>V2 (X:=X) rfl rfl (he cl C s0 H0 fp)) hs).h.imp fun _ _ _ h=>HN h⟩
theorem r_{x0:Str}{p0 p1:Pos}(NQ:SG X (.Name x0 p0) (kJ i))(hB:F1 X.env.scope.names scope.names nm cap X.N=true)(sK:X.env.cells=cellsFrom m X.env.scope.names [])(hi:SI X tg et fi)(hg:∀cl C s0 H0 fp,SG #[10] tg f)(ht:∀cl C s0 H0 fp,Sl #[10] oq t)
  (he:∀cl C s0 H0 fp,SE #[10] sI el) (kC:X.calm=true:=by rfl) (kD:scope.kind=.function:=by rfl) (hs:∀x,foldedSetIterable et X.env x=pure x:=by intro _;rfl)
  (T6:swapsWith #[11] (some (.Name x0 p0)) p1.line X.env=pure true:=by first|rfl|kernel_rfl) :
  SS X (.Assign [.Name x0 p0] #[11] p1) (wH (lg cap fi f t el) (kJ i)):=
 ⟨(Dy ⟨NQ.h⟩ kC sK kD hB ⟨hi.h⟩ (fun cl C s0 H0 fp=>V4 (X:=X) rfl rfl (hg cl C s0 H0 fp)) (fun cl C s0 H0 fp=>V3 (X:=X) rfl rfl (ht cl C s0 H0 fp)) (fun cl C s0 H0 fp=>V2 (X:=X) rfl rfl (he cl C s0 H0 fp)) hs T6).h.imp fun D σ H h=>by
  walk_at "2"
  have h':tE X (lg cap fi f t el) σ H fun x H1=>Sg X (kJ i) x σ H1 D.nx:=⟨μ,ρ,st,l,RK.stmt h l fun μ1 st1 x v H1 p1 x1 l1 q1 h1=>⟨μ1,ρ,st1,x,ρ.set i (some x),l1,q1,rfl,fun σ' l'=>h1 μ1 σ' H1 (aq _) fF.refl l'⟩⟩
  exact HN h'⟩
end
section
variable{a b:Expr}{fb fc:FE}{fs:FA}
theorem Gh{vN:List V}(hr:∀μ H,RelWs X.K μ H ws vN):DH X (Va vN) (ws,none) μ H:=fun i μ' bh H' pp xx S _=>by
 have hl:ws.length=vN.length:=(hr μ H).len
 refine⟨fun w hw=>?_,fun h=>by show vN.length<=i;rw[<- hl];exact h⟩
 obtain⟨v,g1,g2⟩:=(hr μ' H').get hw
 refine⟨(ax.mp g1).1,fun y H'' hy=>?_⟩
 obtain⟨rfl,hy⟩:=hy
 rw[g1]at hy;cases hy
 exact⟨fF.refl,S,g2⟩
noncomputable def jg(l:List Nat):List W:=l.map fun c=>.str [c]
theorem yV(l:List Nat)(μ:List Addr)(H:Hp):RelWs X.K μ H (jg l) (jY l):=by
 induction l with
 |nil=>exact .nilI
 |cons a r ih=>exact .consI .str ih
def MF(fe:FE):FI:=fun ρ st=>(fe ρ st).bind fun x st=>match x with
 |.str l=>.ok (jg l,none) st
 |_=>.bad
theorem O0(he:SE X e fe):SI X tg e (MF fe):=⟨(OE he.h).imp fun σ H R h=>by
 walk_at "2"
 walk_at "1"
 cases x with
 |str z=>exact⟨z,q1.strE,h1 μ1 _ H1 (aq _) fF.refl l1.sto (Gh (yV z))⟩
 |_=>exact h1.elim⟩
def ie(fe:FE):FI:=fun ρ st=>(fe ρ st).bind fun x st=>match x with
 |.tup ws=>.ok (ws,none) st
 |.loc n=>(match lstOf st n with
  |some ws=>.ok (ws,some (n,ws)) st
  |none=>.bad)
 |.str l=>.ok (jg l,none) st
 |_=>.bad
theorem nv(he:SE X e fe):SI X tg e (ie fe):=⟨fun ak s σ H Rr I h=>by
 walk_at "2"
 cases e1:fe ρ st with
 |bad=>simp only[ie,e1,R.bind_bad]at h;exact h.elim
 |ex c st1=>
  refine(HL (tg:=tg) he).h ak s σ H Rr I ⟨μ,ρ,st,l,?_⟩
  simp only[ie,HK,e1,R.bind_ex]at h ⊢;exact h
 |ok w st1=>
  cases w with
  |tup ws=>
   refine(HL (tg:=tg) he).h ak s σ H Rr I ⟨μ,ρ,st,l,?_⟩
   simp only[ie,HK,e1,R.bind_ok]at h ⊢;exact h
  |loc n=>
   refine(OZ (tg:=tg) he).h ak s σ H Rr I ⟨μ,ρ,st,l,?_⟩
   simp only[ie,MD,e1,R.bind_ok]at h ⊢;exact h
  |str z=>
   refine(O0 (tg:=tg) he).h ak s σ H Rr I ⟨μ,ρ,st,l,?_⟩
   simp only[ie,MF,e1,R.bind_ok]at h ⊢;exact h
  |_=>simp only[ie,e1,R.bind_ok]at h;exact h.elim⟩
noncomputable def m7(ws:List W):List W:=(List.range ws.length).map fun(i:Nat)=>W.tup [.int i,ws.getD i .non]
theorem uJ{w:W}(h:(m7 ws)[i]?=some w):∃y,ws[i]?=some y/\w=.tup [.int i,y]:=by
 unfold m7 at h
 rw[aG]at h
 by_cases hi:i<ws.length
 ·rw[gI hi]at h
  refine⟨ws[i],aj hi,?_⟩
  have:=(bg h).symm
  rw[this]
  show W.tup [W.int i,ws.getD i W.non]=_
  rw[aI,aj hi];rfl
 ·rw[bE (by simpa using hi)]at h;cases h
theorem yW(ws:List W):(m7 ws).length=ws.length:=by simp[m7]
def se(fs:FA):FI:=fun ρ st=>(fs ρ st).bind fun ws st=>match ws with
 |[.tup zs]=>.ok (m7 zs,none) st
 |_=>.bad
theorem E4{xL:List Expr}{kk:Nat}{tp:Pos}(hm:X.mg "enumerate"=none)(ha:SA X [a] fs)(hg:Gl X "enumerate":=by rfl)(hs:starEach [a] X.env=[(false,eval a X.env)]:=by rfl) :
  SI X (.Tuple xL kk tp) (.Call (.Name "enumerate" p) [a] [] pos) (se fs):=⟨(Ho hm ⟨ha.h⟩ hg hs).h.imp fun σ H R h=>by
 walk_at "2"
 walk_at "1"
 split at h1
 ·rename_i zs
  obtain⟨y,rfl,ry⟩:=q1.one
  obtain⟨p,vs,rfl,hS,r⟩:=ry.tupE
  refine⟨p,rfl,⟨vs,hS⟩,h1 μ1 _ H1 (aq _) fF.refl l1.sto fun i μ' bh H' pp xx S _=>⟨fun w hw=>?_,fun hl=>⟨vs,xx _ _ hS,by rw[yW]at hl;rw[<- r.len];exact hl⟩⟩⟩
  obtain⟨y,hy,rfl⟩:=uJ hw
  have r':=r.mono pp xx
  obtain⟨v,g1,g2⟩:=r'.get hy
  refine⟨⟨vs,v,xx _ _ hS,g1⟩,fun z H'' hz=>?_⟩
  obtain⟨q,hq,rfl,hH⟩:=hz
  have e:=hH vs v (xx _ _ hS) g1
  subst e
  have ex:=gz.same (K:=X.K) (cU hq (.tup [.int i,v]))
  exact⟨ex,S.same (cU hq _),.tupI gz.new (.consI .int (.consI (g2.mono (aq _) ex) .nilI))⟩
 ·exact h1.elim⟩
def sf(fa:FE):FE:=fun ρ st=>(fa ρ st).bind fun x st=>match x with
 |.int i=>.ok (.int (-i)) st
 |_=>.bad
theorem wN(ha:SE X a fa):SE X (.UnaryOp .USub a pos) (sf fa):=⟨(Rv Oq ha.h).imp fun σ H Q h=>by
 walk_at "2"
 walk_at "1"
 cases x with
 |int k=>exact⟨k,q1.intE,h1 μ1 _ H1 (aq _) fF.refl l1.sto .int⟩
 |_=>exact h1.elim⟩
noncomputable def Gi(x y:W)(st:List au):R W:=match x,y with
 |.int i,.int j=>.ok (.bl (decide (i<=j))) st
 |.str [c],.str [d]=>.ok (.bl (decide (c<=d))) st
 |_,_=>.bad
theorem Sn:xU X (compareOp .LtE) Gi:=⟨fun ak s σ H x y v u Q I rv ru zq=>by
 obtain⟨μ,st,wx,wy,S,rx,ry,q⟩:=zq
 unfold Gi at q
 split at q
 ·exact Rx ak s σ H x y v u Q I rv ru ⟨_,_,rx.intE,ry.intE,qe S q⟩
 ·exact FZ ak s σ H x y v u Q I rv ru ⟨_,_,rx.strE,ry.strE,qe S q⟩
 ·exact q.elim,fun x y st=>by unfold Gi;split<;>trivial⟩
end
noncomputable def zQ(c:Nat):List Nat->List Nat
 |[]=>[c]
 |d::r=>if c<d then c::d::r else if c=d then d::r else d::zQ c r
def g_(l:List Nat):List Nat:=l.foldr zQ []
theorem wO{c x:Nat}:∀{l:List Nat},x∈zQ c l↔x=c\/x∈l
 |[]=>by simp[zQ]
 |d::r=>by
  unfold zQ
  split
  ·simp
  ·split
   ·rename_i h;subst h;simp
   ·simp only[aX,wO]
    constructor
    ·rintro(h|h|h)<;>simp[h]
    ·rintro(h|h|h)<;>simp[h]
theorem E5{c:Nat}:∀{l:List Nat},l.Pairwise (· < ·)->(zQ c l).Pairwise (· < ·)
 |[],_=>by simp[zQ]
 |d::r,h=>by
  obtain⟨h1,h2⟩:=b7.mp h
  unfold zQ
  split
  ·rename_i hc
   refine b7.mpr ⟨fun x hx=>?_,h⟩
   rcases aX.mp hx with rfl|hx
   ·exact hc
   ·exact ui hc (h1 x hx)
  ·split
   ·exact h
   ·rename_i hc hd
    refine b7.mpr ⟨fun x hx=>?_,E5 h2⟩
    rcases wO.mp hx with rfl|hx
    ·omega
    ·exact h1 x hx
theorem jM{x:Nat}:x∈g_ l↔x∈l:=by
 induction l with
 |nil=>simp[g_]
 |cons a r ih=>show x∈zQ a (g_ r)↔_;rw[wO,ih];simp
theorem j7(l:List Nat):(g_ l).Pairwise (· < ·):=by
 induction l with
 |nil=>exact List.Pairwise.nil
 |cons a r ih=>exact E5 ih
theorem zR:∀{l m:List Nat},l.Pairwise (· < ·)->m.Pairwise (· < ·)->(∀x,x∈l↔x∈m)->l=m
 |[],[],_,_,_=>rfl
 |[],b::m,_,_,h=>by have:=(h b).mpr (by simp);simp at this
 |a::l,[],_,_,h=>by have:=(h a).mp (by simp);simp at this
 |a::l,b::m,h1,h2,h=>by
  obtain⟨p1,p2⟩:=b7.mp h1
  obtain⟨q1,q2⟩:=b7.mp h2
  have e:a=b:=by
   rcases aX.mp ((h a).mp #[15])with z|z
   ·exact z
   ·rcases aX.mp ((h b).mpr #[15])with y|y
    ·exact y.symm
    ·have:=p1 b y;have:=q1 a z;omega
  subst e
  rw[zR p2 q2 fun x=>?_]
  constructor
  ·intro hx
   rcases aX.mp ((h x).mp (aW _ hx))with z|z
   ·subst z;exact absurd (p1 x hx) (dL _)
   ·exact z
  ·intro hx
   rcases aX.mp ((h x).mpr (aW _ hx))with z|z
   ·subst z;exact absurd (q1 x hx) (dL _)
   ·exact z
noncomputable def DL(c:List Nat):List (List Nat)->List (List Nat)
 |[]=>[c]
 |d::r=>if c<d then c::d::r else d::DL c r
def jN(l:List (List Nat)):List (List Nat):=l.foldr DL []
theorem uK(c:List Nat):∀l:List (List Nat),(DL c l).Perm (c::l)
 |[]=>iT _
 |d::r=>by
  unfold DL
  split
  ·exact iT _
  ·exact((uK c r).cons d).trans (List.Perm.swap c d r)
theorem hW(l:List (List Nat)):(jN l).Perm l:=by
 induction l with
 |nil=>exact iT _
 |cons a r ih=>exact(uK a _).trans (ih.cons a)
def LB:List (List Nat)->Prop:=List.Pairwise fun a b=>¬ b<a
theorem E6(c:List Nat):∀{l:List (List Nat)},LB l->LB (DL c l)
 |[],_=>by simp[DL,LB]
 |d::r,h=>by
  obtain⟨h1,h2⟩:=b7.mp h
  unfold DL
  split
  ·rename_i hc
   refine b7.mpr ⟨fun x hx=>?_,h⟩
   rcases aX.mp hx with rfl|hx
   ·exact fun z=>List.lt_irrefl _ (List.lt_trans z hc)
   ·exact fun z=>h1 x hx (List.lt_trans z hc)
  ·rename_i hc
   refine b7.mpr ⟨fun x hx=>?_,E6 c h2⟩
   rcases aX.mp ((uK c r).mem_iff.mp hx)with rfl|hx
   ·exact hc
   ·exact h1 x hx
theorem wP(l:List (List Nat)):LB (jN l):=by
 induction l with
 |nil=>exact List.Pairwise.nil
 |cons a r ih=>exact E6 a ih
theorem vV:∀{l m:List (List Nat)},LB l->LB m->l.Perm m->l=m
 |[],m,_,_,h=>(List.Perm.nil_eq h)
 |a::l,[],_,_,h=>(by have:=h.length_eq;simp at this)
 |a::l,b::m,h1,h2,h=>by
  obtain⟨p1,p2⟩:=b7.mp h1
  obtain⟨q1,q2⟩:=b7.mp h2
  have e:a=b:=by
   rcases aX.mp (h.mem_iff.mp (by simp:a∈a::l))with z|z
   ·exact z
   ·rcases aX.mp (h.mem_iff.mpr (by simp:b∈b::m))with y|y
    ·exact y.symm
    ·exact List.le_antisymm (show a<=b from p1 b y) (show b<=a from q1 a z)
  subst e
  rw[vV p2 q2 (List.perm_cons a |>.mp h)]
theorem wQ:∀{zs:List (List Nat)},sortedS (zs.map tx)=true->LB zs:=by
 have key:∀(zs:List (List Nat)) (p:List Nat),risingS (tx p) (zs.map tx)=true->LB (p::zs):=by
  intro zs
  induction zs with
  |nil=>intro p _;simp[LB]
  |cons a r ih=>
   intro p h
   have h':(!ltCps a p&&risingS (tx a) (r.map tx))=true:=h
   rw[dD,fm,ltCps_eq,decide_eq_false_iff_not]at h'
   have u:=ih a h'.2
   refine b7.mpr ⟨fun x hx=>?_,u⟩
   rcases aX.mp hx with rfl|hx
   ·exact h'.1
   ·have:=(b7.mp u).1 x hx
    exact List.not_lt.mpr (List.le_trans (List.not_lt.mp h'.1) (List.not_lt.mp this))
 intro zs h
 cases zs with
 |nil=>exact List.Pairwise.nil
 |cons a r=>exact key r a h
section
variable{a b:Expr}{fb fc:FE}{fs:FA}
def qS(ws:List W)(st:List au):R W:=match ws with
 |[.loc n]=>uG (lstOf st n) fun zs=>uG (pG zs) fun ls=>if ls.length<64 then .ok (.loc st.length) (st++[.lst ((jN ls).map W.str)])else .bad
 |_=>.bad
theorem BB(ls:List (List Nat)):RelWs K μ H (ls.map W.str) (ls.map fun l=>V.str (tx l)):=by
 induction ls with
 |nil=>exact .nilI
 |cons a r ih=>exact .consI .str ih
theorem BC:qf X (.builtin "sorted") qS:=⟨fun ak s σ H vs us Q I rv zq=>by
 obtain⟨μ,st,ws,S,r,q⟩:=zq
 unfold qS at q
 split at q
 ·rename_i n
  obtain⟨y,rfl,ry⟩:=r.one
  cases e1:lstOf st n with
  |none=>rw[e1]at q;exact q.elim
  |some zs=>
   rw[e1,eZ]at q
   cases e2:pG zs with
   |none=>rw[e2]at q;exact q.elim
   |some ls=>
    rw[e2,eZ]at q
    split at q
    ·rename_i c
     obtain⟨a,vs,g,hS,rz⟩:=S.lstOf e1
     obtain⟨b1,f1,rfl⟩:=ry.locE
     rw[g]at f1;cases f1
     have:=wM e2 rz
     subst this
     refine xY.h ak s σ H _ us Q I rv ⟨_,ls,rfl,hS,c,fun zs hp hs l H2 hl eH=>?_⟩
     subst eH
     have ez:zs=jN ls:=vV (wQ hs) (wP ls) (hp.trans (hW ls).symm)
     subst ez
     exact q (μ++[l]) _ _ (a_ _ _) (gz.same (cU hl _)) (S.newLst hl (BB _)) (qd S)
    ·exact q.elim
 ·exact q.elim,fun ws st=>by
 unfold qS
 split
 ·exact vn fun _=>vn fun _=>by split<;>trivial
 ·trivial⟩
noncomputable def mj:List W->Option (List Nat)
 |[]=>some []
 |.str [c]::ws=>(mj ws).map (c :: ·)
 |_=>none
theorem tf:∀{ws:List W} {l:List Nat} {vs:List V},mj ws=some l->RelWs K μ H ws vs->vs=jY l
 |[],l,vs,h,r=>by simp only[mj]at h;cases h;exact r.nilE
 |w::ws,l,vs,h,r=>by
  obtain⟨x,xs,rfl,rx,rs⟩:=r.consE
  unfold mj at h
  split at h
  ·rename_i e;cases e
  ·rename_i c TY e
   cases e
   cases e2:mj ws with
   |none=>rw[e2]at h;cases h
   |some l'=>rw[e2]at h;cases h;rw[rx.strE,tf e2 rs];rfl
  ·cases h
def wR:W->Option (List Nat)
 |.str l=>some l
 |.tup ws=>mj ws
 |_=>none
def tj(fe:FE):FE:=fun ρ st=>(fe ρ st).bind fun x st=>uG (wR x) fun l=>if l.length<4000/\(g_ l).length<64 then .ok #[5] (st++[.lst (jg (g_ l))])else .bad
theorem ny(hm:m.Nodup)(h:∀c∈m,c∈l):m.length<=l.length:=by
 induction m generalizing l with
 |nil=>exact bZ _
 |cons a r ih=>
  obtain⟨h1,h2⟩:=jy.mp hm
  have ha:a∈l:=h a #[15]
  have:=ih h2 (l:=l.erase a) fun c hc=>by
   have:c≠a:=fun z=>h1 (z▸hc)
   exact(List.mem_erase_of_ne this).mpr (h c (aW _ hc))
  rw[List.length_erase_of_mem ha]at this
  have:0<l.length:=List.length_pos_of_mem ha
  simp;omega
theorem Gj{p1 p2 QX Mm:Pos}(h1:X.mg "sorted"=none)(h3:X.mg "set"=none)(he:SE X e fe)(hc:X.calm=true:=by rfl)
  (VN:Gl X "sorted":=by rfl) (VJ:Gl X "set":=by rfl) (UI:starEach [e] X.env=(false,eval e X.env)::starEach [] X.env:=by rfl):SE X (.Call (.Name "sorted" p1) [.Call (.Name "set" p2) [e] [] Mm] [] QX) (tj fe):=⟨(F9 h1 h3 ⟨he.h⟩ hc VN VJ UI).h.imp fun σ H Q h=>by
 walk_at "2"
 walk_at "1"
 cases e1:wR x with
 |none=>rw[e1]at h1;exact h1.elim
 |some ll=>
  rw[e1,eZ]at h1
  split at h1
  ·rename_i c
   refine⟨ll,?_,c.1,fun m hm hsub=>?_,fun m VM hup hmem a H2 ha eH=>?_⟩
   ·cases x with
    |str z=>cases e1;exact .inl q1.strE
    |tup ws=>obtain⟨p,vs,rfl,hS,r⟩:=q1.tupE;have:=tf e1 r;subst this;exact .inr ⟨p,rfl,hS⟩
    |_=>cases e1
   ·exact jH (ny hm fun c hc=>jM.mpr (hsub c hc)) c.2
   ·subst eH
    have em:m=g_ ll:=by
     refine zR ((List.Pairwise.and hup VM).imp fun z=>Nat.lt_of_le_of_ne z.1 z.2) (j7 ll) fun x=>?_
     rw[hmem,jM]
    subst em
    exact h1 (μ1++[a]) _ _ (a_ _ _) (gz.same (cU ha _)) (l1.sto.newLst ha (yV (X:=X) _ _ _)) (qd l1.sto)
  ·exact h1.elim⟩
end
noncomputable def W.ty:W->Option String
 |.non=>some "NoneType" | .bl _=>some "bool" | .int _=>some "int" | .str _=>some "str" | .tup _=>some "tuple" | .loc _=>none
noncomputable def LC(t T:String):Bool:=(t==T)||(t == "bool" && T == "int")
theorem So{K:Frag}(h:Hk T){w:W}{t:String}(hw:w.ty=some t):kitOne K (.type t) (.type T)=some (LC t T):=by
 cases w<;>simp only[W.ty]at hw<;>cases hw<;>(rcases h with rfl|rfl|rfl|rfl<;>rfl)
def wS(T:String)(fa:FE):FE:=fun ρ st=>(fa ρ st).bind fun x st=>match x.ty with
 |some t=>.ok (.bl (LC t T)) st
 |none=>.bad
section
variable{a b:Expr}{fb fc:FE}{fs:FA}
theorem vp{xT:Str}(hm:X.mg "isinstance"=none)(hT:X.mg xT=none)(hv:bootBuiltins xT=some (.type T))(ha:SE X a fa)(hk:Hk T:=by first|exact .inl rfl|exact .inr (.inl rfl)|exact .inr (.inr (.inl rfl))|exact .inr (.inr (.inr rfl)))
  (hg:Gl X "isinstance":=by rfl) (Uk:Gl X xT:=by rfl) (hn:xT ≠ "__name__":=by decide) (hd:(xT==("__debug__":Str))=false:=by decide)
  (he:starEach [a,.Name xT p2] X.env=(false,eval a X.env)::starEach [.Name xT p2] X.env:=by rfl) (Mo:starEach [.Name xT p2] X.env=(false,eval (.Name xT p2) X.env)::starEach [] X.env:=by rfl) (ou:(backTo pos (starEach [.Name xT p2] X.env)).any (·.1)=false:=by rfl) :
  SE X (.Call (.Name "isinstance" p) [a,.Name xT p2] [] pos) (wS T fa):=by
 have C:jc X (.builtin "isinstance") (fun xs H Q=>∃x μ st w t,xs=[x,.ty T]/\jD X.K X.mg μ st H/\bN X.K μ H w x/\w.ty=some t/\Q (.bl (LC t T)) H):=by
  intro ak s σ H xs us Q I r h
  obtain⟨x,μ,st,w,t,rfl,S,rx,ht,q⟩:=h
  obtain⟨u,u2,rfl,r1,r2⟩:=cL.two r
  obtain rfl:u2=.type T:=r2
  have e:=So (K:=X.K) hk ht
  cases w with
  |tup ws=>
   cases ht
   obtain⟨p,vs,rfl,hS,_⟩:=rx.tupE
   cases(show u=Value.ref p from r1)
   obtain⟨bO,_,hp,_⟩:=I.tuple hS
   obtain⟨o,h1,h2,_⟩:=hp
   exact up (kia_one PySem.W.kitx_tuple I.kIn ⟨o,h1,h2⟩ e (fun z=>nomatch z) fun tk hk=>⟨.bl _,H,I.tok tk,rfl,q⟩)
  |non=>cases ht;cases rx.nonE;exact up (qQ I r1 .non e fun tk hk=>⟨.bl _,H,I.tok tk,rfl,q⟩)
  |bl b=>cases ht;cases rx.blE;exact up (qQ I r1 (.bl _) e fun tk hk=>⟨.bl _,H,I.tok tk,rfl,q⟩)
  |int b=>cases ht;cases rx.intE;exact up (qQ I r1 (.int _) e fun tk hk=>⟨.bl _,H,I.tok tk,rfl,q⟩)
  |str b=>cases ht;cases rx.strE;exact up (qQ I r1 (.str _) e fun tk hk=>⟨.bl _,H,I.tok tk,rfl,q⟩)
  |loc b=>cases ht
 refine⟨(p_ C hg hm jz (kY ha.h (kY (EH Uk hT hv (v:=.ty T) rfl hn hd) uv Mo) he) #[3] #[3] he ou).imp fun σ H Q h=>?_⟩
 walk_at "2"
 walk_at "1"
 cases ht:x.ty with
 |none=>rw[ht]at h1;exact h1.elim
 |some t=>
  rw[ht]at h1
  exact⟨v,μ1,st1,x,t,rfl,l1.sto,q1,ht,h1 μ1 _ H1 (aq _) fF.refl l1.sto .bl⟩
theorem HP{w:World}{st:Stmt}{f:Addr}{ps:List Str}
  (F:iX K x x st f fd) (hm:mg x=some (.ref f)) (hn:ps.length=n)
  (hb:∀(kV um pm:Value) (an:Option Addr) (fD ct:Value) (us:List Value),us.length=ps.length->bindArgs (fnOf x x (iW st) (hU st) (aO st) .none kV um pm an fD ct) ⟨us,[]⟩=pure (ps.zip us)) :
  bR P w K mg base k x n (fun _ _=>.bad):=zP F hm hn hb ⟨fun vs H Q E h=>by rw[hn];exact h.1,fun _ _ _ _ _ _ _ _ _ _ _ _ _ _ h=>by obtain⟨_,_,_,_,_,_,z⟩:=h;exact z.elim⟩
end
def MG(F:List W->List au->R W):Prop:=∀ns:List Int,ns.length<=63->∃bh,F [.loc 0] [.ro (ns.map W.int)]=.ok (.bl true) bh
theorem walkW{l:PySem.W.OpenLaw}{q:Program}{zt:List Str}{d:DefRec}{K:Params->Frag}(hn:l.most=some 63)(Uf:d.params.defaults=[])(hr:jX k callerA)
  (hY:∀(w:World) (h:Heap),YP w h->(K w.params).In h)
  (F:∀(w:World) (mg:Str->Option Value) (fa:Addr) (h:Heap),(K w.params).In h->h.Ns mainGlobals mg->mg d.name=some (.ref fa) ->
   ∃fd:FuncData,fd.scope.names.lookup x=some .local/\(∀(s:Shared) (u:Value),BindsTo s fd ⟨[u],[]⟩ [(x,u)])/\∀base:Heap,(K w.params).In base->base.Ns mainGlobals mg->c7 l.prog w (K w.params) mg base (iK l.prog w) k fa fd [x] (iZ (K w.params) mg 1 G))
  (ok:MG G):PySem.W.WalkO q zt XP YP l.row.toRowW d [] (fun f vs=>PySem.call f vs):=by
 refine L2.walk_of (n:=63) (k:=k) (x:=x) (CX:=fun w=>iK l.prog w)
  (sp:=fun w=>fun vs H Q E=>∃(a:Addr) (ns:List Int),vs=[.ref a]/\uq (K w.params) H a (ns.map V.int)/\Lc H/\ns.length<=63/\∀H',Q (.bl true) H') hn #[3] Uf hr hY (fun w mg fa h h1 h2 h3=>?_)
  (fun w H a ns hl hO hS=>⟨a,ns,rfl,hS,hO,hl,fun _=>rfl⟩) fun w H s e s' z=>?_
 ·obtain⟨fd,hlo,hb,ho⟩:=F w mg fa h h1 h2 h3
  refine⟨fd,hlo,hb,fun base kb nb=>(ho base kb nb).imp fun vs H Q E hh=>?_⟩
  obtain⟨a,ns,rfl,hS,hO,hl,q⟩:=hh
  obtain⟨bh,e⟩:=ok ns hl
  have CW:Us (K w.params) H a (ns.map V.int):=by
   rcases hS with(z|⟨o,z⟩)|z
   ·rcases hO a with y|⟨o,xs,y⟩
    ·rw[z]at y;cases y
    ·rw[z]at y;cases y
   ·exact .inl ⟨o,z⟩
   ·exact .inr z
  have hr:RelWs (K w.params) [a] H (ns.map W.int) (ns.map V.int):=by
   clear hS CW e hl
   induction ns with
   |nil=>exact .nilI
   |cons n r ih=>exact .consI .int ih
  refine⟨rfl,[a],[.loc 0],[.ro (ns.map W.int)],⟨fun i j b ci cj c1 c2 r1 r2 m1 m2=>?_,rfl,fun i c b c1 c2=>?_⟩,.consI (.locI rfl) .nilI,?_⟩
  ·cases i with
   |zero=>cases c1;cases r1
   |succ i=>simp at c1
  ·cases i with
   |zero=>cases c1;cases c2;exact⟨_,CW,hr⟩
   |succ i=>simp at c1
  ·rw[e]
   intro μ' v H' _ _ _ rv
   rw[rv.blE];exact q H'
 ·obtain⟨_,_,_,_,_,_,z,_⟩:=z
  exact z
abbrev q_:List Value:=[.type "ValueError",.type "Exception",.type "BaseException",.type "object"]
abbrev rF:String:="ValueError.__new__"
def BD(K:Frag)(C:Addr):List Value:=match K.lookup C with
 |some ⟨_,_,.cls cd,_⟩=>cd.mro
 |_=>[]
theorem qT{Wa:List Value}{qF:String}(X:K.In h)(q:excIn K C Wa qF=true) :
  ∃bm N nm qn bs hdct sn sub ab col dd k0 k1 k2 k3 k5 mN,h.get? C=some (excClassObj nm qn C N bs bm hdct sn sub ab col dd k0 k1 k2 k3 k5 qF)/\h.Ns N mN/\mN "__init__"=none/\OwnTail h Wa bm/\BD K C=.ref C::bm:=by
 have q0:=q
 unfold excIn at q
 split at q
 ·rename_i dd cd sl ho
  split at q
  ·rename_i C' bm k0 k1 k2 k3 n k5 hm hs
   simp only[dD,dv,fm]at q
   obtain⟨⟨⟨⟨⟨rfl,rfl⟩,hdel⟩,ht⟩,hok⟩,hni⟩:=q
   have hmro:BD K C'=cd.mro:=by unfold BD;rw[ho]
   obtain⟨nm,bs,mro,ns,qn,hd,sn,sub,ab,col,del⟩:=cd
   dsimp only at hm hdel hok hni hmro
   subst hm hdel
   have hsl:sl=#[k0,k1,k2,k3,some (.builtin n),k5]:=by
    obtain⟨l⟩:=sl
    simp only at hs
    rw[hs]
   subst hsl
   exact⟨bm,ns,nm,qn,bs,hd,sn,sub,ab,col,dd,k0,k1,k2,k3,k5,_,X _ _ ho,.of_isNs (PySem.W.isNs_of_in X hok),PySem.W.nsMap_none_of_in X hok hni,PySem.W.tail_of_in X ht,hmro⟩
  ·cases q
 ·cases q
structure HQ(K:Frag)(mg:Str->Option Value)(x:Str):Prop where
 ex:∃C,mg x=some (.ref C)/\excIn K C q_ rF=true
def uL(c:Str):FS:=fun ρ st=>.ex c ρ st
theorem tm{np eN pos p':Pos}{z:Str}{j:Nat}(hC:HQ X.K X.mg x)(kC:X.calm=true:=by rfl)(hg:Gl X x:=by rfl)(hd:(x==("__debug__":Str))=false:=by decide)
  (he:starEach [.Constant (.str z) j p'] X.env=(false,eval (.Constant (.str z) j p') X.env)::starEach [] X.env:=by rfl):SS X (.Raise (some (.Call (.Name x np) [.Constant (.str z) j p'] [] eN)) none pos) (uL x):=⟨by
 intro ak s σ H D I h
 walk_at "2"
 obtain⟨C,hm,q⟩:=hC.ex
 have hh:X.A.handled=none:=I.ok.hd kC
 obtain⟨bm,N,nm,qn,bs,hdct,sn,sub,ab,col,dd,k0,k1,k2,k3,k5,mN,g1,g2,g3,g4,g5⟩:=qT I.kIn q
 refine wpAny_Raise_call_subT (C:=C) (nm:=nm) (q:=qn) (N:=N) (bs:=bs) (bm:=bm) (hdct:=hdct) (sn:=sn) (sub:=sub) (ab:=ab) (col:=col) (dd:=dd) (k0:=k0) (k1:=k1) (k2:=k2) (k3:=k3) (k5:=k5)
  F.excBase_ValueError (mN:=mN) (g4.hasType F.excBase_ValueError.hasBase) hh (by rw[he];rfl) g3 (sQ I hg hm ⟨rfl,?_⟩ hd)
 rw[he]
 refine ly ?_
 show wpAny _ _ (spliced ((false,eval (.Constant (.str z) j p') X.env)::[])) _ _ s
 refine fP (wpAny_Constant_str (iI ?_))
 refine⟨rfl,(by show 1<=sizeLine;decide),g1,g2,g4,fun h' e hx=>?_⟩
 have I2:bI X ak σ H { s with heap:=h',toks:=s.toks+1 }:=I.kept hx.keeps
 have en:H e=none:=by
  cases hu:H e with
  |none=>rfl
  |some u=>
   obtain⟨ob,hob⟩:=(I.hok e u hu).ex
   have:=hx.new
   rw[show({ s with toks:=s.toks+1 }:Shared).heap=s.heap from rfl]at this
   rw[hob]at this;cases this
 obtain⟨t,Rb,ht2,ht3⟩:=hx.there
 have hin:∀env∈X.stack,∀b,env.frame=some b->b∈sP X.stack:=fun env he b hb=>mH.mpr ⟨env,he,hb⟩
 refine h ak μ σ H (.ref e) _ (aq _) fF.refl l ⟨I2,e,.ref C,t,hideAll s.heap (sP X.stack),rfl,hm,en,fun b o hb=>hx.keeps b o (PySem.W.of_hideAll _ hb),?_,?_,.inr (.inl ⟨_,_,Rb,rfl,rfl,rfl,rfl,rfl⟩),fun b o hb hr=>?_⟩
 ·cases hq:(hideAll s.heap (sP X.stack)).get? e with
  |none=>rfl
  |some o=>have z:=PySem.W.of_hideAll _ hq;have y:=hx.new;rw[show({ s with toks:=s.toks+1 }:Shared).heap=s.heap from rfl,z]at y;cases y
 ·exact(PySem.W.funFrames_hide I.stack hin).of_keeps fun b o hb _=>⟨o,hx.keeps b o hb,rfl⟩
 ·have old:∀o0,s.heap.get? b=some o0->s.heap.get? b=some o:=fun o0 h0=>by
   have h1:h'.get? b=some o0:=hx.keeps b o0 h0
   have h2:h'.get? b=some o:=hb
   rw[h1]at h2;rw[<- h2];exact h0
  have kT:∀o0,s.heap.get? b=some o0->b∉sP X.stack->(hideAll s.heap (sP X.stack)).get? b=some o:=fun o0 h0 hn=>PySem.W.hideAll_get _ (old o0 h0) hn
  rcases hr with hr|⟨⟨o0,h0⟩,hf,hbx⟩|⟨⟨y,hy⟩,hf⟩|⟨pp,hp,rfl⟩
  ·cases hu:H b with
   |none=>exact absurd hu hr
   |some u=>
    obtain⟨ob,hob⟩:=(I.hok b u hu).ex
    exact kT ob hob fun z=>by have:=I.stkFree b z;rw[hu]at this;cases this
  ·obtain⟨o1,h1⟩:=I.base.there b o0 h0 hbx
   refine kT o1 h1 fun z=>?_
   rcases aX.mp (I.stkSub b z)with z|z
   ·rw[z]at h0;exact absurd (aL (aJ h0) I.ok.above) (dL _)
   ·exact hf z
  ·obtain⟨v,ov,hov,_⟩:=I.cell y b hy
   exact kT ov hov hf
  ·obtain⟨p1,p2,p3,p4,_⟩:=I.pin pp hp
   refine kT _ p1 fun z=>?_
   rcases aX.mp (I.stkSub _ z)with z|z
   ·exact p3 z
   ·exact p4 z⟩
theorem bI.unbound{v:Option Value}{m:Str->Option Value}(I:bI X ak σ H s)(hN:X.N.Nodup)(hi:X.N[i]?=some x)(hn:s.heap.Ns X.env.locals m)
  (TX:h'.Ns X.env.locals (fun y=>if y=x then v else m y)) (hs:Heap.SameBut X.env.locals s.heap h') (KL:s.toks<=t':=by first|exact aA _|exact bp _|assumption|omega):bI X ak (σ.set i none) H { s with heap:=h',toks:=t' }:=by
 obtain⟨m0,hn0,hl⟩:=id I.loc
 have em:m0=m:=by
  obtain⟨o,es,ep,a1,a2,a3,a4⟩:=hn0
  obtain⟨o',es',ep',b1,b2,b3,b4⟩:=hn
  rw[a1]at b1;cases b1
  rw[a2]at b2;cases b2
  funext y;rw[<- a4,<- b4]
 subst em
 obtain⟨oL,_,_,hoL,_⟩:=id hn0
 have cne:=I.cne
 refine⟨I.ok,I.os,I.bare,⟨fun b o e n hb hx=>?_,fun b o e n hb hx=>?_,I.base.free,fun b o e hx=>?_,I.base.tups,I.base.frzs,I.base.tbls⟩,⟨_,TX,fun j y w e1 e2 e3=>?_⟩,fun y c e=>?_,I.free,I.freeC,fun p hp=>?_,fun b ob e=>?_,by simpa using I.len,aL I.pos KL,aN I.tk KL⟩
 ·exact(hs.2 b (a9 (aL (aJ e) I.ok.above))).trans (I.base.keep b o e n hb hx)
 ·obtain⟨sl,e1⟩:=I.base.slot b o e n hb hx
  exact⟨sl,(hs.2 b (a9 (aL (aJ e) I.ok.above))).trans e1⟩
 ·obtain⟨o',e1⟩:=I.base.there b o e hx
  exact⟨o',(hs.2 b (a9 (aL (aJ e) I.ok.above))).trans e1⟩
 ·by_cases hj:j=i
  ·subst hj
   by_cases hlt:j<σ.length
   ·rw[b9 hlt]at e2;cases e2
   ·rw[bE (by simpa using hlt)]at e2;cases e2
  ·rw[cM (Ne.symm hj)]at e2
   obtain⟨u',r',q⟩:=hl j y w e1 e2 e3
   refine⟨u',r'.up KL,?_⟩
   rcases q with⟨k,e⟩|⟨k,c,e,z⟩
   ·refine .inl ⟨k,?_⟩
    have:y≠x:=fun e=>hj (wb hN e1 (e▸hi))
    simp[this,e]
   ·exact .inr ⟨k,c,e,z.sameBut hs (cne y c e)⟩
 ·obtain⟨w',z⟩:=I.cell y c e
  exact⟨w',z.sameBut hs (cne y c e)⟩
 ·obtain⟨e,n,ne,nf,d⟩:=I.pin p hp
  exact⟨(hs.2 p.1 ne).trans e,n,ne,nf,d⟩
 ·refine((I.hok b ob e).up KL).stay (fun c w' hc q=>(hs.2 c ?_).trans q) (fun _ q=>q) fun _ _ q=>q
  rintro rfl
  rcases hc with rfl|hc
  ·rw[I.free]at e;cases e
  ·rw[I.free]at hc;cases hc
theorem vj.lands{c:Str}{e:Value}{Q:Unit->Shared->Prop}{E:Value->Shared->Prop}{M:Model}(f:vj X ak σ c H e s)(oZ:X.stack=X.env::outer)(yx:X.env.frame=some X.env.locals)(hA:X.A.frames=some X.stack)
  (h:∀x C t B h',e=.ref x->X.mg c=some C->H x=none->Heap.FlyingW B X.stack x C (.ref t) h'->s.heap.UpToSlots h' ->
   (∀b o,s.heap.get? b=some o->(H b≠none\/((∃o0,X.s₀.heap.get? b=some o0)/\b∉X.fs/\b∉X.ex)\/((∃y,X.env.cells.lookup y=some b)/\b∉sP X.stack)\/∃p∈X.pn++ak,p.1=b)->B.get? b=some o)->Q () { s with heap:=h' }) :
  wpAny M X.A (noteFrame e X.env) (fun _ s₂=>wpAny M X.A (setFlight e none) Q E s₂) E s:=by
 obtain⟨x,C,t,B,rfl,hC,hx,st,nx,ff,tr,xV⟩:=f.ex
 rw[oZ]at ff hA
 rcases tr with tr|⟨oe,vs,he,rfl,_,hd,h1,h0⟩|⟨L,hL,tr⟩
 ·refine wpAny_looks_onW hA yx ⟨st,nx,ff,tr⟩ fun h1 hh u1=>uh hh fun h2 fl u2=>?_
  exact h x C t B h2 rfl hC hx (by rw[oZ];exact fl) (u1.trans u2) xV
 ·unfold noteFrame
  simp only[yx]
  refine af (df he hd h1 ?_)
  rw[aU #[3]]
  refine wpAny_newEntryW hA ff yx he st nx hd (Array.getElem?_eq_some_iff.mp h1).1 h0 fun h' hL=>?_
  obtain⟨k1,k2,k3,k4⟩:=hL
  exact h x _ t B h' rfl hC hx ⟨k1,nx,by rw[oZ];exact k2,k3⟩ k4 xV
 ·refine pD hL tr (uh ⟨st,nx,ff,tr⟩ fun h' fl up=>?_)
  exact h x C t B h' rfl hC hx (by rw[oZ];exact fl) up xV
theorem bI.landed{B:Heap}{x:Addr}{C:Value}{t:Addr}(I:bI X ak σ H s)(fl:Heap.FlyingW B X.stack x C (.ref t) h')(up:s.heap.UpToSlots h')(oZ:X.stack=X.env::X.outer)
  (xV:∀b o,s.heap.get? b=some o->(H b≠none\/((∃o0,X.s₀.heap.get? b=some o0)/\b∉X.fs/\b∉X.ex)\/((∃y,X.env.cells.lookup y=some b)/\b∉sP X.stack)\/∃p∈X.pn++ak,p.1=b)->B.get? b=some o) :
  bI X ak σ H { s with heap:=h' }:=by
 obtain⟨f1,f2,f3,f4⟩:=fl
 obtain⟨m,hn,hl⟩:=id I.loc
 have cellK:∀y c,X.env.cells.lookup y=some c->∀v,s.heap.IsCell c v->h'.IsCell c v:=fun y c e v zq=>by
  obtain⟨o,ho,hd⟩:=zq
  by_cases hc:c∈sP X.stack
  ·obtain⟨sl,q⟩:=up c o ho fun vs z=>by rw[hd]at z;cases z
   exact⟨_,q,hd⟩
  ·exact⟨o,f1 c o (xV c o ho (.inr (.inr (.inl ⟨⟨y,e⟩,hc⟩)))),hd⟩
 have frames:∀b∈X.fs,∀o,s.heap.get? b=some o->∃sl,h'.get? b=some { o with slots:=sl }:=fun b hb o ho=>by
  obtain⟨_,o',ho',hd⟩:=I.funs.mem hb
  rw[ho]at ho';cases ho'
  exact up b o ho hd
 have kept:∀b o,s.heap.get? b=some o->(∃o0,X.s₀.heap.get? b=some o0)->b∉X.fs->b∉X.ex->h'.get? b=some o:=fun b o ho h0 hb hx=>f1 b o (xV b o ho (.inr (.inl ⟨h0,hb,hx⟩)))
 refine⟨I.ok,I.os,I.bare,⟨fun b o q n hb hx=>kept b o (I.base.keep b o q n hb hx) ⟨o,q⟩ hb hx,fun b o q n hb hx=>?_,I.base.free,fun b o q hx=>?_,I.base.tups,I.base.frzs,I.base.tbls⟩,⟨m,up.ns hn,fun i y v e1 e2 e3=>?_⟩,fun y c e=>?_,I.free,I.freeC,fun p hp=>?_,fun b u hb=>?_,I.len,I.pos,I.tk⟩
 ·obtain⟨sl,q1⟩:=I.base.slot b o q n hb hx
  obtain⟨sl2,q2⟩:=frames b hb _ q1
  exact⟨sl2,q2⟩
 ·obtain⟨o',q1⟩:=I.base.there b o q hx
  by_cases hb:b∈X.fs
  ·obtain⟨sl2,q2⟩:=frames b hb _ q1;exact⟨_,q2⟩
  ·exact⟨o',kept b o' q1 ⟨o,q⟩ hb hx⟩
 ·obtain⟨u,r,lk⟩:=hl i y v e1 e2 e3
  refine⟨u,r,?_⟩
  rcases lk with lk|⟨k,c,e,z⟩
  ·exact .inl lk
  ·exact .inr ⟨k,c,e,cellK y c e _ z⟩
 ·obtain⟨v,z⟩:=I.cell y c e
  exact⟨v,cellK y c e v z⟩
 ·obtain⟨e,n,ne,nf,d⟩:=I.pin p hp
  exact⟨f1 _ _ (xV _ _ e (.inr (.inr (.inr ⟨p,hp,rfl⟩)))),n,ne,nf,d⟩
 ·refine(I.hok b u hb).stay (fun c v hc q=>f1 c v (xV c v q (.inl ?_))) (fun _ q=>q) fun _ _ q=>q
  rcases hc with rfl|hc
  ·rw[hb];simp
  ·rw[hc];simp
noncomputable abbrev Cx.trying(X:Cx)(pn:List (Addr×Obj))(E:Value->Shared->Prop):Cx:={ X with pn:=pn,xe:=E }
noncomputable abbrev Cx.within(X:Cx)(v:Value):Cx:={ X with A:=X.A.mark (some v),calm:=false,xe:=fun _ _=>False }
theorem Cx.Ok.trying(k:X.Ok)(pn:List (Addr×Obj))(E:Value->Shared->Prop):(X.trying pn E).Ok:=⟨k.mod,k.kind,k.glob,k.blt,k.above,k.inj,k.has,k.cab,k.hd,k.frames,k.stk,k.exf,k.bs,k.bsz,k.noex,k.exfs,k.funs,k.frf⟩
theorem Cx.Ok.within(k:X.Ok)(v:Value):(X.within v).Ok:=⟨k.mod,k.kind,k.glob,k.blt,k.above,k.inj,k.has,k.cab,(fun z=>by cases z),k.frames,k.stk,k.exf,k.bs,k.bsz,k.noex,k.exfs,k.funs,k.frf⟩
section
theorem bI.trying(I:bI X ak σ H s)(E:Value->Shared->Prop):bI (X.trying (X.pn++ak) E) [] σ H s:=⟨I.ok.trying _ _,I.os,I.bare,I.base,I.loc,I.cell,I.free,I.freeC,fun p hp=>I.pin p (by simpa using hp),I.hok,I.len,I.pos,I.tk⟩
theorem bI.tried(ok:X.Ok)(I:bI (X.trying (X.pn++ak) E) pins' σ H s):bI X ak σ H s:=⟨ok,I.os,I.bare,I.base,I.loc,I.cell,I.free,I.freeC,fun p hp=>I.pin p (bB _ hp),I.hok,I.len,I.pos,I.tk⟩
theorem bI.within(I:bI X ak σ H s)(v:Value):bI (X.within v) ak σ H s:=⟨I.ok.within v,I.os,I.bare,I.base,I.loc,I.cell,I.free,I.freeC,I.pin,I.hok,I.len,I.pos,I.tk⟩
theorem bI.out(ok:X.Ok)(I:bI (X.within v) ak σ H s):bI X ak σ H s:=⟨ok,I.os,I.bare,I.base,I.loc,I.cell,I.free,I.freeC,I.pin,I.hok,I.len,I.pos,I.tk⟩
theorem bI.adopt{x:Addr}{ob:HO}(I:bI X ak σ H s)(hx:H x=none)(h0:X.s₀.heap.get? x=none)(hL:x≠X.env.locals)(hc:∀y c,X.env.cells.lookup y=some c->c≠x)(hp:∀p∈X.pn++ak,p.1≠x)(ok:g9 X.prog X.w s.toks (fW H x ob) s.heap x ob):bI X ak σ (fW H x ob) s:=by
 have hs:vC H (fW H x ob):=cU hx ob
 refine⟨I.ok,I.os,I.bare,⟨I.base.keep,I.base.slot,fun b o q n hb=>?_,I.base.there,fun b xs q=>hs _ _ (I.base.tups b xs q),fun b o u q=>hs _ _ (I.base.frzs b o u q),fun b ps q=>?_⟩,I.loc,I.cell,?_,fun y c e=>?_,fun p h=>?_,fun b u hb=>?_,I.len,I.pos,I.tk⟩
 ·rw[cY (fun z=>by rw[z,h0]at q;cases q)];exact I.base.free b o q n hb
 ·obtain⟨m,e⟩:=I.base.tbls b ps q;exact⟨m,hs _ _ e⟩
 ·rw[cY (Ne.symm hL)];exact I.free
 ·rw[cY (hc y c e)];exact I.freeC y c e
 ·obtain⟨a,b,c,d,e⟩:=I.pin p h;exact⟨a,by rw[cY (hp p h)];exact b,c,d,e⟩
 ·by_cases e:b=x
  ·subst e;rw[ib]at hb;cases hb;exact ok
  ·rw[cY e]at hb
   exact(I.hok b u hb).stay (fun _ _ _ q=>q) (fun c q=>hs _ _ q) fun c xs q=>hs _ _ q
end
theorem wT{g:Array GenState}{d:Drawn}{t:Nat}{os:OsState}{e:Addr}{oe:Obj}{Q:Bool->Shared->Prop}{nm qn nm' V9:Str}{N D N':Addr}{bs bm Wh UN:List Value}{hdct NN:Bool}{sn We:List Str}{sub Ui:List Value}{ab Wb:Bool}{col Ub:Option Bool}{dd VF:Option Addr}{k0 k1 k2 k3 k5 j0 j1 j2 j3 j5:Option Value}{qF Q0:String}
  (hC:h.get? C=some (excClassObj nm qn C N bs bm hdct sn sub ab col dd k0 k1 k2 k3 k5 qF)) (hD:h.get? D=some (excClassObj nm' V9 D N' Wh UN NN We Ui Wb Ub VF j0 j1 j2 j3 j5 Q0)) (he:h.get? e=some oe) (Kh:oe.cls=.ref C) (ki:UN.contains (.type "BaseException")=true)
  {b:Bool} (hb:(Value.ref C::bm).contains (.ref D)=b) (hq:Q b ⟨h,g,d,t,os⟩):wpAny M A (excMatches (.ref e) (.ref D)) Q E ⟨h,g,d,t,os⟩:=by
 have hcB:(Value.ref D::UN).contains (.type "BaseException")=true:=by rw[mP,ki,Bool.or_true]
 have f:=tc_notTuple
 unfold excMatches
 repeat(first|(with_reducible refine fq he ?_;rw[Kh])|with_reducible refine fq hD ?_|(with_reducible refine jl hD ?_;rw[hcB])|(with_reducible refine jl hC ?_;rw[hb])|wp_step)
 cases b<;>(wp_walk;exact hq)
open AutoSeq1 (wpAny_loadPart')
section
end
section
variable{a b:Expr}{fb:FE}{fs:FA}
end
noncomputable def O1(i:Nat):RS->RS
 |.nx ρ st=>.nx (ρ.set i none) st
 |.bk ρ st=>.bk (ρ.set i none) st
 |.ct ρ st=>.ct (ρ.set i none) st
 |.rt w st=>.rt w st
 |_=>.bad
def HR(g:FS)(cs:List Str)(i:Nat)(gh:FS):FS:=fun ρ st=>match g ρ st with
 |.ex c ρ' bh=>if c∈cs then O1 i (gh (ρ'.set i (some (.loc bh.length))) (bh++[.exc c]))else .bad
 |r=>r
structure HS(K:Frag)(mg:Str->Option Value)(T:Str)(cs:List Str):Prop where
 h:∀c∈cs,∃C Ta,mg c=some (.ref C)/\mg T=some (.ref Ta)/\excIn K C q_ rF=true/\excIn K Ta q_ rF=true/\(BD K C).contains (.ref Ta)=true
theorem oH:∀{ρ:cW} {σ:St} (i:Nat),Paired (fun(o:Option W) (s:Option V)=>∀w,o=some w->∃v,s=some v/\bN K μ H w v) ρ σ ->
  Paired (fun(o:Option W) (s:Option V)=>∀w,o=some w->∃v,s=some v/\bN K μ H w v) (ρ.set i none) (σ.set i none)
 |_,_,_,.nil=>.nil
 |_,_,0,.cons a t=>.cons (fun w e=>by cases e) t
 |_,_,i+1,.cons a t=>.cons a (oH i t)
theorem jD.pushE(S:jD K mg μ st H){x:Addr}{c:Str}{C:Value}(hx:H x=none)(hc:mg c=some C):jD K mg (μ++[x]) (st++[.exc c]) (fW H x (wC x C)):=
 S.push (c:=.exc c) hx ⟨C,hc,ib⟩
theorem O6{NP:List Stmt}{b₀:Stmt}{T n:Str}{i:Nat}{g gh:FS}{cs:List Str}{pos yw np:Pos}(hC:HS X.K X.mg T cs)(hN:X.N.Nodup)(hi:X.N[i]?=some n)(hx:Ky X.env.scope n)
  (hb:∀pn E,SB (X.trying pn E) body g) (hs:∀v,SB (X.within v) (b₀::NP) gh) (zo:X.ex=[]:=by rfl) (oZ:X.stack=X.env::X.outer:=by rfl) (yx:X.env.frame=some X.env.locals:=by rfl) (hk:X.env.kindOf n=some .local:=by rfl) (hg:Gl X T:=by rfl) (hd:(T==("__debug__":Str))=false:=by decide)
  (hf:X.fn n=true\/X.env.scope.names.lookup n=some .local:=by first|exact .inl rfl|exact .inr rfl) :
  SS X (.Try body [.ExceptHandler (some (.Name T np)) (some n) (b₀::NP) yw] [] [] pos) (HR g cs i gh):=⟨by
 intro ak s σ H D I h
 walk_at "2"
 refine wpAny_Try_except ?_
 refine jG ((hb (X.pn++ak) _).h [] s σ H D (I.trying _) ⟨μ,ρ,st,⟨l.env,l.sto⟩,?_⟩) (fun f s1 q=>?_) (fun _ _ q=>q)
 ·unfold HR at h
  cases e:g ρ st with
  |nx ρ' bh=>rw[e]at h;exact fun μ' σ' H' p x r=>h μ' σ' H' p x ⟨r.env,r.sto⟩
  |bk ρ' bh=>rw[e]at h;exact fun μ' σ' H' p x r=>h μ' σ' H' p x ⟨r.env,r.sto⟩
  |ct ρ' bh=>rw[e]at h;exact fun μ' σ' H' p x r=>h μ' σ' H' p x ⟨r.env,r.sto⟩
  |rt w bh=>rw[e]at h;exact h
  |bad=>rw[e]at h;exact h
  |ex c ρ' bh=>
   rw[e]at h
   intro pins' μ' σ' H' ev s' pp xx r f
   dsimp only at h
   split at h
   ·rename_i hc
    obtain⟨Ca,Ta,m1,m2,q1,q2,hsub⟩:=hC.h c hc
    have I0:=f.inv
    refine f.lands oZ yx I.ok.frames fun ex C t B h' he hCc hxn fl up xV=>?_
    subst he
    obtain rfl:C=.ref Ca:=by have:=hCc.symm.trans m1;exact bg this
    have I1:=I0.landed fl up oZ xV
    have I2:bI X ak σ' H' { s' with heap:=h' }:=bI.tried I.ok I1
    obtain⟨oe,vs,_,_,_,KH,⟨Kh,_⟩,hdat,_⟩:=fl.2.2.2
    have cov2:∀b o,h'.get? b=some o->(H' b≠none\/((∃o0,X.s₀.heap.get? b=some o0)/\b∉X.fs/\b∉X.ex)\/((∃y,X.env.cells.lookup y=some b)/\b∉sP X.stack)\/∃p∈X.pn++ak,p.1=b)->B.get? b=some o:=by
     intro b o hbo hr
     have kT:∀o1,s'.heap.get? b=some o1->(H' b≠none\/((∃o0,X.s₀.heap.get? b=some o0)/\b∉X.fs/\b∉X.ex)\/((∃y,X.env.cells.lookup y=some b)/\b∉sP X.stack)\/∃p∈(X.pn++ak)++pins',p.1=b)->B.get? b=some o:=fun o1 h1 hr=>by
      have h2:=xV b o1 h1 hr
      have h3:=fl.1 b o1 h2
      rw[h3]at hbo;cases hbo;exact h2
     rcases hr with hr|⟨⟨o0,h0⟩,hbf,hbx⟩|⟨⟨y,hy⟩,hbf⟩|⟨p,hp,rfl⟩
     ·cases hu:H' b with
      |none=>exact absurd hu hr
      |some u=>obtain⟨ob,hob⟩:=(I0.hok b u hu).ex;exact kT ob hob (.inl hr)
     ·obtain⟨o1,h1⟩:=I0.base.there b o0 h0 hbx
      exact kT o1 h1 (.inr (.inl ⟨⟨o0,h0⟩,hbf,hbx⟩))
     ·obtain⟨v,ov,hov,_⟩:=I0.cell y b hy
      exact kT ov hov (.inr (.inr (.inl ⟨⟨y,hy⟩,hbf⟩)))
     ·obtain⟨p1,_⟩:=I0.pin p (bB _ hp)
      exact kT _ p1 (.inr (.inr (.inr ⟨p,bB _ hp,rfl⟩)))
    have noB:∀o,B.get? ex=some o->False:=fun o z=>by have:=fl.2.1;rw[z]at this;cases this
    obtain⟨bm,N,nm,qn,bs,hdct,sn,sub,ab,col,dd,k0,k1,k2,k3,k5,mN,g1,g2,g3,g4,g5⟩:=qT I2.kIn q1
    obtain⟨UN,N',nm',V9,Wh,NN,We,Ui,Wb,Ub,VF,j0,j1,j2,j3,j5,mN',g1',g2',g3',g4',g5'⟩:=qT I2.kIn q2
    refine wpAny_handleBy_cons (codeAny_handlers_test ?_) (by intro z;cases z)
    refine sQ (X:=X.within (.ref ex)) (I2.within _) hg m2 ?_ hd
    refine wT g1 g1' KH Kh (g4'.hasType F.excBase_ValueError.hasBase) (b:=true) (by rw[<- g5];exact hsub) ?_
    refine codeAny_handlers_suite_as ?_
    refine lands_againW fl fun h2 fl2 up2=>?_
    have I3:bI X ak σ' H' { s' with heap:=h2 }:=I2.landed fl2 up2 oZ cov2
    obtain⟨oe2,vs2,_,_,_,heo2,⟨hcls2,_⟩,hdat2,_⟩:=fl2.2.2.2
    have I4:bI X ak σ' (fW H' ex (wC ex (.ref Ca))) { s' with heap:=h2 }:=by
     refine I3.adopt hxn ?_ ?_ ?_ ?_ ?_
     ·cases h0:X.s₀.heap.get? ex with
      |none=>rfl
      |some o0=>
       exfalso
       by_cases hfs:ex∈X.fs
       ·obtain⟨_,o',ho',hd'⟩:=I3.funs.mem hfs
        have ho':h2.get? ex=some o':=ho'
        rw[heo2]at ho';cases ho'
        exact hd' _ hdat2
       ·exact noB _ (cov2 ex oe KH (.inr (.inl ⟨⟨o0,h0⟩,hfs,by rw[zo];simp⟩)))
     ·rintro rfl
      obtain⟨m,⟨o,es,ep,a1,a2,_⟩,_⟩:=I3.loc
      have a1:h2.get? _=some o:=a1
      rw[heo2]at a1;cases a1
      rw[hdat2]at a2;cases a2
     ·rintro y c' hy rfl
      obtain⟨v,o,a1,a2⟩:=I3.cell y _ hy
      have a1:h2.get? _=some o:=a1
      rw[heo2]at a1;cases a1
      rw[hdat2]at a2;cases a2
     ·rintro p hp rfl
      exact noB _ (cov2 p.1 oe KH (.inr (.inr (.inr ⟨p,hp,rfl⟩))))
     ·refine⟨⟨oe2,vs2,heo2,hcls2,hdat2⟩,⟨oe2,heo2⟩,?_⟩
      rintro ha hb' ⟨o,vs,z1,z2,z3⟩ keep
      exact⟨o,vs,keep o z1,z2,z3⟩
    have hxt:fF X.K H' (fW H' ex (wC ex (.ref Ca))):=gz.same (cU hxn _)
    refine wc (X:=X.within (.ref ex)) (I4.within _) hN hi hx (v:=.ref ex) rfl (fun s5 I5=>?_) hf
    have S4:jD X.K X.mg (μ'++[ex]) (bh++[.exc c]) (fW H' ex (wC ex (.ref Ca))):=jD.pushE r.sto hxn m1
    have L4:Rl (X.within (.ref ex)) (μ'++[ex]) (ρ'.set i (some (.loc bh.length))) (bh++[.exc c]) (σ'.set i (some (.ref ex))) (fW H' ex (wC ex (.ref Ca))):=
     ⟨sX (qd r.sto) i (uy (a_ _ _) hxt r.env),S4⟩
    have pm:μ <+: μ'++[ex]:=pp.trans (a_ _ _)
    have xm:fF X.K H (fW H' ex (wC ex (.ref Ca))):=xx.trans hxt
    have hp:(X.env.scope.kind==.class||(X.env.scope.kind==.module&&X.env.locals != X.env.globals))=false:=by rw[I.ok.kind];rfl
    refine jG ((hs (.ref ex)).h ak s5 _ _ { nx:=fun σ H=>D.nx (σ.set i none) H,rt:=D.rt,bk:=fun σ H=>D.bk (σ.set i none) H,ct:=fun σ H=>D.ct (σ.set i none) H } I5 ⟨μ'++[ex],_,_,L4,?_⟩) (fun f6 s6 q=>?_) (fun _ _ z=>z.elim)
    ·cases e2:gh (ρ'.set i (some (.loc bh.length))) (bh++[.exc c])with
     |nx ρ2 de=>rw[e2]at h;exact fun μ3 σ3 H3 p3 x3 r3=>h μ3 (σ3.set i none) H3 (pm.trans p3) (xm.trans x3) ⟨oH i r3.env,r3.sto⟩
     |bk ρ2 de=>rw[e2]at h;exact fun μ3 σ3 H3 p3 x3 r3=>h μ3 (σ3.set i none) H3 (pm.trans p3) (xm.trans x3) ⟨oH i r3.env,r3.sto⟩
     |ct ρ2 de=>rw[e2]at h;exact fun μ3 σ3 H3 p3 x3 r3=>h μ3 (σ3.set i none) H3 (pm.trans p3) (xm.trans x3) ⟨oH i r3.env,r3.sto⟩
     |rt w de=>rw[e2]at h;exact fun μ3 v H3 p3 x3 S3 r3=>h μ3 v H3 (pm.trans p3) (xm.trans x3) S3 r3
     |ex c2 ρ2 de=>rw[e2]at h;exact h.elim
     |bad=>rw[e2]at h;exact h.elim
    ·cases f6 with
     |next=>
      obtain⟨σ6,H6,I6,q⟩:=q
      have I6':bI X ak σ6 H6 s6:=bI.out I.ok I6
      obtain⟨m,hn,hl⟩:=id I6'.loc
      exact iV hk hn hp fun h7 v hn7 hs7=>⟨_,H6,I6'.unbound hN hi hn hn7 hs7,q⟩
     |brk=>
      obtain⟨σ6,H6,I6,q⟩:=q
      have I6':bI X ak σ6 H6 s6:=bI.out I.ok I6
      obtain⟨m,hn,hl⟩:=id I6'.loc
      exact iV hk hn hp fun h7 v hn7 hs7=>⟨_,H6,I6'.unbound hN hi hn hn7 hs7,q⟩
     |cont=>
      obtain⟨σ6,H6,I6,q⟩:=q
      have I6':bI X ak σ6 H6 s6:=bI.out I.ok I6
      obtain⟨m,hn,hl⟩:=id I6'.loc
      exact iV hk hn hp fun h7 v hn7 hs7=>⟨_,H6,I6'.unbound hN hi hn hn7 hs7,q⟩
     |ret u=>
      obtain⟨v6,σ6,H6,I6,rr,q⟩:=q
      have I6':bI X ak σ6 H6 s6:=bI.out I.ok I6
      obtain⟨m,hn,hl⟩:=id I6'.loc
      exact iV hk hn hp fun h7 v hn7 hs7=>⟨v6,_,H6,I6'.unbound hN hi hn hn7 hs7,rr.up (bp _),q⟩
   ·exact h.elim
 ·cases f with
  |next=>
   obtain⟨σ',H',I',q⟩:=q
   exact jx ⟨σ',H',bI.tried I.ok I',q⟩
  |brk=>obtain⟨σ',H',I',q⟩:=q;exact⟨σ',H',bI.tried I.ok I',q⟩
  |cont=>obtain⟨σ',H',I',q⟩:=q;exact⟨σ',H',bI.tried I.ok I',q⟩
  |ret u=>obtain⟨v,σ',H',I',rr,q⟩:=q;exact⟨v,σ',H',bI.tried I.ok I',rr,q⟩⟩
section
variable{w:World}{g:Array GenState}{d:Drawn}{t:Nat}{os:OsState}{a:Addr}{o:Obj}
 {nm q:Str} {C N:Addr} {bs bm:List Value} {hdct:Bool} {sn:List Str} {sub:List Value} {ab:Bool} {col:Option Bool} {dd:Option Addr} {k0 k1 k2 k3 k5:Option Value} {qF:String} {K:Frag}
theorem O7{R:Result->Shared->Prop}(hC:h.get? C=some #[20])(T:OwnTail h q_ bm)(hx:h.get? a=some o)(hc:o.cls=.ref C)(hq:R (.ok (.ret (.ref C))) ⟨h,g,d,t,os⟩) :
  codeAny #[6] A (.call (.builtin "getset_descriptor.__get__") ⟨[.builtin "object.__class__",.ref a,.ref C],[]⟩) R ⟨h,g,d,t,os⟩:=by
 have hT5:(⟨h,g,d,t,os⟩:Shared).TypeIs (.builtin "object.__class__") "getset_descriptor":=kE
 have hcB:(Value.ref C::bm).contains (.type (".".intercalate ("object.__class__".cutAt '.').dropLast))=true:=by
  rw[F.owner_object_class,mP,T.hasType (X:="object") (b:=true) #[3]]
  rfl
 refine lD F.slot_gs_get.plain F.entry_gs_get (F.slot_gs_get.check _ _ _ _ _ _ _ _ hT5 (F.args_gs_get _ _ _) ?_)
 repeat(any_goals (first|assumption|(with_reducible refine fq hx ?_;rw[hc])|(with_reducible refine jl hC ?_;rw[hcB])|wp_step))
 refine⟨Code.quiet_builtin _ (by decide +kernel),dz F.entry_object_class ?_⟩
 repeat(any_goals (first|assumption|(with_reducible refine fq hx ?_;rw[hc])|wp_step))
theorem zS{Q:Option Value->Shared->Prop}{r:Option Value}(X:K.In h)(f:findIn K (.ref C) x=some r)(hq:Q r ⟨h,g,d,t,os⟩):wpAny #[6] A (typeLookup (.ref C) x) Q E ⟨h,g,d,t,os⟩:=
 PySem.W.looks_findIn X f A Q E _ (fun _ _ z=>z) hq
theorem HU{tk:Tok}{Q:Fin->Shared->Prop}(X:K.In h)(f2:findIn K (.ref C) "__class__"=some (some (.builtin "object.__class__")))(hC:h.get? C=some #[20])(T:OwnTail h q_ bm)(hx:h.get? a=some o)(hc:o.cls=.ref C)
  (hq:Q (.done (.ret (.ref C))) ⟨h,g,d,t,os⟩):wpAny #[6] A (Builtin.«object.__getattribute__» ⟨[.ref a,.str "__class__" tk],[]⟩) Q E ⟨h,g,d,t,os⟩:=by
 have hT5:(⟨h,g,d,t,os⟩:Shared).TypeIs (.builtin "object.__class__") "getset_descriptor":=kE
 have f5:=kE
 have f6:=F.slot_gs_get.lookup
 have f7:=F.slot_gs_set.lookup
 repeat(any_goals (first|assumption|(with_reducible refine fq hx ?_;rw[hc])|with_reducible refine zS X f2 ?_|wp_step))
 refine O7 hC T hx hc ?_
 repeat(any_goals (first|assumption|wp_step))
theorem HV{Q:Unit->Shared->Prop}(hC:h.get? C=some #[20])(T:OwnTail h q_ bm)(hx:h.get? a=some o)(hc:o.cls=.ref C)(hq:Q () ⟨h,g,d,t,os⟩) :
  wpAny M A (checkBuiltinCall "BaseException.__getattribute__" ⟨[.ref a,v],[]⟩) Q E ⟨h,g,d,t,os⟩:=by
 have hcB:(Value.ref C::bm).contains (.type "BaseException")=true:=by
  rw[mP,T.hasType (X:="BaseException") (b:=true) #[3]]
  rfl
 have ha:=F.args_bexc_ga (.ref a) v
 have kd:builtinKind "BaseException.__getattribute__"=some .slot:=by decide +kernel
 have sp:splitId "BaseException.__getattribute__"=some ("BaseException","__getattribute__"):=by decide +kernel
 simp only[checkBuiltinCall,kd,sp]
 refine af ?_
 unfold isInstance
 repeat(first|(with_reducible refine fq hx ?_;rw[hc])|(with_reducible refine jl hC ?_;rw[hcB])|wp_step)
 exact hq
theorem LD{tk:Tok}{R:Result->Shared->Prop}(X:K.In h)(f2:findIn K (.ref C) "__class__"=some (some (.builtin "object.__class__")))(hC:h.get? C=some #[20])(T:OwnTail h q_ bm)(hx:h.get? a=some o)(hc:o.cls=.ref C)
  (hq:R (.ok (.ret (.ref C))) ⟨h,g,d,t,os⟩):codeAny #[6] A (.call (.builtin "BaseException.__getattribute__") ⟨[.ref a,.str "__class__" tk],[]⟩) R ⟨h,g,d,t,os⟩:=
 lD F.attrBase_ValueError.ga.plain F.entry_bexc_ga (HV hC T hx hc (HU X f2 hC T hx hc hq))
theorem Sq{tk:Tok}(X:K.In h)(f1:findIn K (.ref C) "__getattribute__"=some (some (.builtin "BaseException.__getattribute__")))(f3:findIn K (.ref C) "__getattr__"=some none)(f2:findIn K (.ref C) "__class__"=some (some (.builtin "object.__class__")))
  (hC:h.get? C=some #[20]) (T:OwnTail h q_ bm) (hx:h.get? a=some o) (hc:o.cls=.ref C) (hq:Q (.ref C) ⟨h,g,d,t,os⟩) :
  wpAny #[6] A (getAttrBy (.ref a) (.str "__class__" tk) false) Q E ⟨h,g,d,t,os⟩:=by
 have f4:=F.attrBase_ValueError.ga.bind (.ref a)
 have hx2:(Value.builtin "BaseException.__getattribute__" == Value.builtin "object.__getattribute__")=false:=by decide +kernel
 have hx1:(onTheHeap (Value.ref C)&&Value.builtin "BaseException.__getattribute__" == Value.builtin "object.__getattribute__")=false:=by rw[hx2];rfl
 repeat(any_goals (first|assumption|(with_reducible refine fq hx ?_;rw[hc])|with_reducible refine zS X f1 ?_|with_reducible refine zS X f3 ?_|wp_step))
 refine LD X f2 hC T hx hc ?_
 repeat(any_goals (first|assumption|wp_step))
theorem LF{Q:Option Value->Shared->Prop}(X:K.In h)(f1:findIn K (.ref C) "__getattribute__"=some (some (.builtin "BaseException.__getattribute__")))(f3:findIn K (.ref C) "__getattr__"=some none)(f2:findIn K (.ref C) "__class__"=some (some (.builtin "object.__class__")))
  (hC:h.get? C=some #[20]) (T:OwnTail h q_ bm) (hx:h.get? a=some o) (hc:o.cls=.ref C) (hq:Q (some (.ref C)) ⟨h,g,d,t+1,os⟩) :
  wpAny #[6] A (getAttr? (.ref a) "__class__") Q E ⟨h,g,d,t,os⟩:=by
 unfold getAttr? getAttrBy?
 repeat(any_goals (first|assumption|with_reducible apply Sq X f1 f3 f2 hC T hx hc|wp_step))
end
end L2
namespace L2
open PySem PySem.Spec PyProof.Rows
structure HW(K:Frag)(C:Addr):Prop where
 ga:findIn K (.ref C) "__getattribute__"=some (some (.builtin "BaseException.__getattribute__"))
 gt:findIn K (.ref C) "__getattr__"=some none
 cl:findIn K (.ref C) "__class__"=some (some (.builtin "object.__class__"))
theorem BE{x:Addr}(q:excIn K C q_ rF=true)(n:HW K C):PySem.W.KitX K (.ref x) (.ref C) (fun h=>∃o,h.get? x=some o/\o.cls=.ref C) where
 ty:=fun M h X zq A Q E s k z=>by
  obtain⟨o,h1,h2⟩:=zq
  unfold typeOf
  refine af (qH (k _ _ h1) ?_)
  rw[h2]
  exact ay z
 it:=fun M h X _ A Q E s k z=>by
  obtain⟨bm,N,nm,qn,bs,hdct,sn,sub,ab,col,dd,k0,k1,k2,k3,k5,mN,g1,_⟩:=qT X q
  unfold isType loadHead
  exact af (qH (k _ _ g1) (ay z))
 ne:=fun h tp dd bO m sl X htp=>by
  obtain⟨bm,N,nm,qn,bs,hdct,sn,sub,ab,col,VF,k0,k1,k2,k3,k5,mN,g1,_⟩:=qT X q
  refine Bool.eq_false_iff.mpr fun z=>?_
  have e:C=tp:=Value.ref.inj (dv.mp z)
  subst e
  rw[g1]at htp
  have z2:(Value.type "type")=.type "tuple":=il Obj.cls (bg htp)
  exact absurd z2 #[3]
 ca:=fun{prog w A E Q s} X p z=>by
  obtain⟨o,h1,h2⟩:=p
  obtain⟨bm,N,nm,qn,bs,hdct,sn,sub,ab,col,dd,k0,k1,k2,k3,k5,mN,g1,g2,g3,g4,g5⟩:=qT X q
  obtain⟨h,g,d,t,os⟩:=s
  exact LF X n.ga n.gt n.cl g1 g4 h1 h2 z
structure DM(K:Frag)(mg:Str->Option Value)(T:Value)(f:Str->Option Bool):Prop where
 h:∀c b,f c=some b->∃C,mg c=some (.ref C)/\excIn K C q_ rF=true/\HW K C/\kitOne K (.ref C) T=some b
theorem yX{T:V}{Tv:Value}(hT:∀(nk:Nat) (u:Value),dA nk T u->u=Tv){f:Str->Option Bool}(hI:DM X.K X.mg Tv f) :
  jc X (.builtin "isinstance") (fun xs H Q=>∃x μ st n c b,xs=[x,T]/\jD X.K X.mg μ st H/\bN X.K μ H (.loc n) x/\st[n]?=some (.exc c)/\f c=some b/\Q (.bl b) H):=by
 intro ak s σ H xs us Q I r h
 obtain⟨x,μ,st,n,c,b,rfl,S,rx,hn,hf,q⟩:=h
 obtain⟨u,u2,rfl,r1,r2⟩:=cL.two r
 obtain rfl:=hT _ u2 r2
 obtain⟨C,hm,hq,Uh,hk⟩:=hI.h c b hf
 obtain⟨a,ha,C',hm',hH⟩:=S.get hn
 obtain⟨a',ha',rfl⟩:=rx.locE
 rw[ha]at ha';cases ha'
 rw[hm]at hm';cases hm'
 cases(show u=Value.ref a from r1)
 obtain⟨⟨o,vs,h1,h2,h3⟩,_⟩:=I.hok a _ hH
 exact up (kia_one (BE hq Uh) I.kIn ⟨o,h1,h2⟩ hk (fun z=>nomatch z) fun tk hk=>⟨.bl _,H,I.tok tk,rfl,q⟩)
def wU(f:Str->Option Bool)(fa:FE):FE:=fun ρ st=>(fa ρ st).bind fun x st=>match x with
 |.loc n=>(match st[n]? with
  |some (.exc c)=>(match f c with
   |some b=>.ok (.bl b) st
   |none=>.bad)
  |_=>.bad)
 |_=>.bad
section
variable{a:Expr}
theorem HX{T:V}{f:Str->Option Bool}{t:TE}(h:PE X e t)(hi:∀σ H Q,(tE X fa) σ H (fun x H1=>∃x' μ st n c b,([x,T]:List V)=[x',T]/\jD X.K X.mg μ st H1/\bN X.K μ H1 (.loc n) x'/\st[n]?=some (.exc c)/\f c=some b/\Q (.bl b) H1)->t σ H Q):SE X e (wU f fa):=⟨h.imp fun σ H Q z=>by
 refine hi σ H Q ?_
 obtain⟨μ,ρ,st,l,z⟩:=z
 refine⟨μ,ρ,st,l,RK.bind z l fun μ1 st1 x v H1 p1 x1 l1 q1 h1=>?_⟩
 split at h1
 ·rename_i n
  split at h1
  ·rename_i c e1
   split at h1
   ·rename_i b e2
    exact⟨v,μ1,st1,n,c,b,rfl,l1.sto,q1,e1,e2,h1 μ1 _ H1 (aq _) fF.refl l1.sto .bl⟩
   ·exact h1.elim
  ·exact h1.elim
 ·exact h1.elim⟩
theorem HY{xT:Str}{Ta:Addr}{f:Str->Option Bool}(hm:X.mg "isinstance"=none)(hT:X.mg xT=some (.ref Ta))(hI:DM X.K X.mg (.ref Ta) f)(ha:SE X a fa)(hg:Gl X "isinstance":=by rfl)(Uk:Gl X xT:=by rfl)(hd:(xT==("__debug__":Str))=false:=by decide)
  (he:starEach [a,.Name xT p2] X.env=(false,eval a X.env)::starEach [.Name xT p2] X.env:=by rfl) (Mo:starEach [.Name xT p2] X.env=(false,eval (.Name xT p2) X.env)::starEach [] X.env:=by rfl) (ou:(backTo pos (starEach [.Name xT p2] X.env)).any (·.1)=false:=by rfl) :
  SE X (.Call (.Name "isinstance" p) [a,.Name xT p2] [] pos) (wU f fa):=
 HX (T:=.ref Ta) (p_ (yX (T:=.ref Ta) (Tv:=.ref Ta) (fun _ _ r=>r) hI) hg hm jz (kY ha.h (kY (zy Uk hT (v:=.ref Ta) rfl hd) uv Mo) he) #[3] #[3] he ou) fun _ _ _ z=>z
theorem Ss{xT:Str}{f:Str->Option Bool}(hm:X.mg "isinstance"=none)(hT:X.mg xT=none)(hv:bootBuiltins xT=some (.type T))(hI:DM X.K X.mg (.type T) f)(ha:SE X a fa)(hg:Gl X "isinstance":=by rfl)(Uk:Gl X xT:=by rfl)(hn:xT ≠ "__name__":=by decide)(hd:(xT==("__debug__":Str))=false:=by decide)
  (he:starEach [a,.Name xT p2] X.env=(false,eval a X.env)::starEach [.Name xT p2] X.env:=by rfl) (Mo:starEach [.Name xT p2] X.env=(false,eval (.Name xT p2) X.env)::starEach [] X.env:=by rfl) (ou:(backTo pos (starEach [.Name xT p2] X.env)).any (·.1)=false:=by rfl) :
  SE X (.Call (.Name "isinstance" p) [a,.Name xT p2] [] pos) (wU f fa):=
 HX (T:=.ty T) (p_ (yX (T:=.ty T) (Tv:=.type T) (fun _ _ r=>r) hI) hg hm jz (kY ha.h (kY (EH Uk hT hv (v:=.ty T) rfl hn hd) uv Mo) he) #[3] #[3] he ou) fun _ _ _ z=>z
end
end L2
namespace L2
open PySem PySem.Spec PyProof.Rows
inductive Su(X:Cx):List Expr->List Addr->Prop
 |nil:Su X [] []
 |cons {x:Str} {p:Pos} {C:Addr} {es:List Expr} {cs:List Addr}:X.mg x=some (.ref C)->Gl X x->(x==("__debug__":Str))=false->Su X es cs->Su X (.Name x p::es) (C::cs)
def Wq(vs:List V):TA:=fun _ H Q=>Q vs H
theorem O8{cs:List Addr}(h:Su X es cs):PA X es (Wq (cs.map V.ref)):=by
 induction h with
 |nil=>exact uv
 |cons hm hg hd _ ih=>exact(kY (zy hg hm (v:=.ref _) rfl hd) ih rfl).imp fun _ _ _ z=>z
structure HZ(K:Frag)(mg:Str->Option Value)(Cs:List Addr)(f:Str->Option Bool):Prop where
 h:∀c b,f c=some b->∃C,mg c=some (.ref C)/\excIn K C q_ rF=true/\HW K C/\kitAny K (.ref C) (Cs.map Value.ref)=some b
theorem yY:∀{Cs:List Addr} {us:List Value},cL nk (Cs.map V.ref) us->us=Cs.map Value.ref
 |[],us,r=>by cases r;rfl
 |C::Cs,us,r=>by
  cases r with
  |cons a t=>rw[yY t,show _=Value.ref C from a];rfl
theorem Gk{Cs:List Addr}{f:Str->Option Bool}(hI:HZ X.K X.mg Cs f) :
  jc X (.builtin "isinstance") (fun xs H Q=>∃x tp μ st n c b,xs=[x,.ref tp]/\jD X.K X.mg μ st H/\bN X.K μ H (.loc n) x/\st[n]?=some (.exc c)/\f c=some b/\gz X.K H tp (Cs.map V.ref)/\Q (.bl b) H):=by
 intro ak s σ H xs us Q I r h
 obtain⟨x,tp,μ,st,n,c,b,rfl,S,rx,hn,hf,hS,q⟩:=h
 obtain⟨u,u2,rfl,r1,r2⟩:=cL.two r
 cases(show u2=Value.ref tp from r2)
 obtain⟨C,hm,hq,Uh,hk⟩:=hI.h c b hf
 obtain⟨a,ha,C',hm',hH⟩:=S.get hn
 obtain⟨a',ha',rfl⟩:=rx.locE
 rw[ha]at ha';cases ha'
 rw[hm]at hm';cases hm'
 cases(show u=Value.ref a from r1)
 obtain⟨⟨o,vs,h1,h2,h3⟩,_⟩:=I.hok a _ hH
 obtain⟨bO,rt,⟨ot,e2,hc,n2,hd⟩,z2⟩:=I.tuple hS
 have hits:=yY rt
 subst hits
 obtain⟨cls,dd,data,sl⟩:=ot
 dsimp only at hc hd
 subst hc hd
 exact up (PySem.W.kia_tup (BE hq Uh) I.kIn ⟨o,h1,h2⟩ e2 hk (fun z=>nomatch z) fun tk KL=>⟨.bl _,H,I.tok tk,rfl,q⟩)
section
variable{a:Expr}
theorem O9{Cs:List Addr}{f:Str->Option Bool}(hm:X.mg "isinstance"=none)(hT:Su X es Cs)(hI:HZ X.K X.mg Cs f)(hz:Cs.length<=sizeLine)(ha:SE X a fa)(hg:Gl X "isinstance":=by rfl)
  (he:starEach [a,.Tuple es k p2] X.env=(false,eval a X.env)::starEach [.Tuple es k p2] X.env:=by rfl) (Mo:starEach [.Tuple es k p2] X.env=(false,eval (.Tuple es k p2) X.env)::starEach [] X.env:=by rfl) (ou:(backTo pos (starEach [.Tuple es k p2] X.env)).any (·.1)=false:=by rfl) :
  SE X (.Call (.Name "isinstance" p) [a,.Tuple es k p2] [] pos) (wU f fa):=⟨(p_ (Gk hI) hg hm jz (kY ha.h (kY (ET (O8 hT)) uv Mo) he) #[3] #[3] he ou).imp fun σ H Q h=>by
 walk_at "2"
 walk_at "1"
 split at h1
 ·rename_i n
  split at h1
  ·rename_i c e1
   split at h1
   ·rename_i b e2
    refine⟨by rw[aE];exact hz,fun tp H2 hp e=>?_⟩
    subst e
    have xx:fF X.K H1 (fW H1 tp (.tup (Cs.map V.ref))):=gz.same (cU hp _)
    exact⟨v,tp,μ1,st1,n,c,b,rfl,l1.sto.same (cU hp _),q1.mono (aq _) xx,e1,e2,gz.new,h1 μ1 _ _ (aq _) xx (l1.sto.same (cU hp _)) .bl⟩
   ·exact h1.elim
  ·exact h1.elim
 ·exact h1.elim⟩
end
end L2
namespace L2
open PySem PySem.Spec PyProof.Rows
section
end
section
theorem wV(l:List α):∀(k:Nat) (ju:List α),List.foldl (fun x1 x2=>x1++x2) ju.toArray (List.replicate k l.toArray)=(ju++(List.replicate k l).flatten).toArray
 |0,ju=>by simp
 |k+1,ju=>by
  have e:ju.toArray++l.toArray=(ju++l).toArray:=by simp
  rw[List.replicate_succ,List.foldl_cons,e,wV l k (ju++l),List.replicate_succ,nq,al]
theorem O_(l:List Nat)(n:Int):Txt.mul (tx l) n=tx (List.replicate n.toNat l).flatten:=by
 unfold Txt.mul
 by_cases h:n<1
 ·rw[aK h,show n.toNat=0 by omega];rfl
 ·rw[aU h]
  split
  ·rename_i hc
   rw[Bool.or_eq_true,dv,dv,jC]at hc
   rcases hc with rfl|hc
   ·simp
   ·have:l=[]:=List.length_eq_zero_iff.mp hc
    subst this
    simp
  ·have:=wV l n.toNat []
   rw[eK]at this
   show Str.mk _=Str.mk _
   congr 1
theorem LG:pT X (binaryOp .Mult) (fun x y H Q=>∃(l:List Nat) (k:Int),x=.str (tx l)/\y=.int k/\-(2^62)<=k/\k<2^62/\l.length*k.toNat<=1000000/\l.length*k.toNat≠1/\Q (.str (tx (List.replicate k.toNat l).flatten)) H):=by
 intro ak s σ H x y v u Q I rx ry h
 obtain⟨l,k,rfl,rfl,h1,h2,h3,h31,q⟩:=h
 obtain⟨t,rfl⟩:=rx
 obtain⟨t',rfl⟩:=ry
 refine up (SB.mul ⟨?_,?_,?_⟩ fun t2 tk hk=>⟨.str _,H,I.tok _,⟨⟨t2,fun e=>absurd e ?_⟩,?_⟩,q⟩)
 ·simp;omega
 ·intro hk hx
  rw[jC]
  intro hg
  have hk1:1<=k:=by omega
  have:k*((2^63-1)/k)<=2^63-1:=Int.mul_ediv_self_le #[0]
  have h4:(2^63-1)<k*(l.length:Int):=by
   have:=Int.lt_mul_of_ediv_lt (a:=2^63-1) (b:=(l.length:Int)) (c:=k) #[0] hg
   rw[pE];exact this
  have h5:k*(l.length:Int)=((l.length*k.toNat:Nat):Int):=by
   rw[jA,Int.toNat_of_nonneg #[0],pE]
  rw[h5]at h4
  omega
 ·intro hk hx
  rw[jC]
  unfold Builtin.Str.tooLong
  rw[a7]
  have:(1000000:Nat)<=sizeLine:=by decide
  omega
 ·rw[jC];simpa[Nat.mul_comm]using h31
 ·rw[O_]
def jd:W->W->List au->R W
 |.int i,.int j,st=>if OS i j then .ok (.int (i*j)) st else .bad
 |.str l,.int k,st=>if -(2^62)<=k/\k<2^62/\l.length*k.toNat<=nQ/\l.length*k.toNat≠1 then .ok (.str (List.replicate k.toNat l).flatten) st else .bad
 |_,_,_=>.bad
theorem j8:xU X (binaryOp .Mult) jd:=⟨fun ak s σ H x y v u Q I rv ru zq=>by
 obtain⟨μ,st,wx,wy,S,rx,ry,q⟩:=zq
 cases wx with
 |int i=>
  cases wy with
  |int j=>
   have q':GN X μ H Q (R9 (.int i) (.int j) st):=q
   exact R'.h ak s σ H x y v u Q I rv ru ⟨μ,st,.int i,.int j,S,rx,ry,q'⟩
  |_=>exact q.elim
 |str l=>
  cases wy with
  |int k=>
   simp only[jd]at q
   split at q
   ·rename_i cc
    exact LG ak s σ H x y v u Q I rv ru ⟨l,k,rx.strE,ry.intE,cc.1,cc.2.1,cc.2.2.1,cc.2.2.2,s9 S q⟩
   ·exact q.elim
  |_=>exact q.elim
 |_=>cases wy<;>exact q.elim,fun x y st=>by
 unfold jd
 repeat' split
 all_goals trivial⟩
end
section
variable{fs:FA}
end
section
variable{w:World}
theorem wW:∀(l:List Nat) (vs:List Value),vs.length=l.length->(∀(j:Nat) (v:Value),vs[j]?=some v->∃c u,l[j]?=some c/\v=.str (tx [c]) u)->StrsAre vs (l.map fun c=>tx [c])
 |[],[],_,_=>.nil
 |c::l,v::vs,hl,h=>by
  obtain⟨d,u,e,rfl⟩:=h 0 v rfl
  cases e
  exact .cons _ _ (wW l vs (Nat.succ.inj hl) fun j v hj=>h (j+1) v hj)
 |[],_::_,hl,_=>nomatch hl
 |_::_,[],hl,_=>nomatch hl
noncomputable abbrev Pa(ju:Array Value)(c:Nat):Obj:={ cls:=.type "list",data:=.seq ju c }
theorem H9{R:Result->Shared->Prop}{I:Addr}{wr:List Addr}{n0:Nat}{P:Nat->Value->Prop}{St:Nat->Heap->Prop}(W:Walks prog w A.in1 I fp wr n P St)(NK:n<=sizeLine)(D:Addr)(hD:D∉fp)(res:Value)
  (CU:∀i (s:Shared) (Q:Option Value->Shared->Prop) (E:Value->Shared->Prop),n0<=s.toks->i<n->St i s.heap ->
   (∀v h' tk,s.toks<=tk->jm tk [v]->P i v->St (i+1) h'->(∀b o,b∉wr->s.heap.get? b=some o->h'.get? b=some o)->Q (some v) { s with heap:=h',toks:=tk })->wpAny #[6] A.in1 (pyNext (.ref I)) Q E s) :
  ∀(m i:Nat) (z:Shared) (Fw:Array Value) (c:Nat),i+m=n->n0<=z.toks->St i z.heap->z.heap.get? D=some (Pa Fw c)->ItemsOf P Fw i->jm z.toks Fw.toList ->
   (∀g tk got' c',z.toks<=tk->(∀b o,b≠D->b∉wr->z.heap.get? b=some o->g.get? b=some o)->g.get? D=some (Pa got' c')->ItemsOf P got' n->jm tk got'.toList->R (.ok (.ret res)) { z with heap:=g,toks:=tk }) ->
   codeAny #[6] A (.builtin "list.extend.loop" ⟨[.ref D,.ref I,res],[]⟩) R z:=by
 have nw:D∉wr:=fun h=>hD (W.sub _ h)
 intro m
 induction m with
 |zero=>
  intro i z Fw c e hn0 st hd ac ta q
  obtain rfl:i=n:=e
  refine dz PySem.F.entry_extend_loop ?_
  rw[c6 PySem.F.plain_extend_loop _]
  show wpAny _ A.in1 (pyNext (.ref I) >>= _) _ _ z
  exact af (up (W.done z _ _ st fun g tk kp ms=>ay (q g tk Fw c ms (fun b o _ hb h=>kp b o hb h) (kp D _ nw hd) ac (ta.up ms))))
 |succ m ih=>
  intro i z Fw c e hn0 st hd ac ta q
  refine dz PySem.F.entry_extend_loop ?_
  rw[c6 PySem.F.plain_extend_loop _]
  show wpAny _ A.in1 (pyNext (.ref I) >>= _) _ _ z
  refine af (CU i z _ _ hn0 #[0] st fun v g tk ms tv hP bh kp=>?_)
  have hd':=kp D _ nw hd
  show wpAny _ A.in1 (updateSeq D (·.push v) >>= _) _ _ _
  refine af (pR hd' rfl (ay ⟨fH PySem.F.plain_extend_loop _,ih (i+1) _ (Fw.push v) _ #[0] (aN hn0 ms) (W.frame _ _ _ bh fun b hb o h=>?_) (dI _ hd' rfl) (ac.push hP) (fun x t hx=>?_) fun g2 tk2 got2 c2 hle2 kp2 hd2 ac2 ta2=>?_⟩)
   (by rw[ac.1];omega) (by show(Fw.push v).size<=sizeLine+1;rw[Array.size_push,ac.1];omega))
  ·exact(cN _ _ (fun h:D=b=>hD (by rw[h];exact hb))).trans h
  ·rw[nj,aV]at hx
   rcases hx with hx|hx
   ·exact ta.up ms x t hx
   ·exact tv x t hx
  ·exact q g2 tk2 got2 c2 (aN ms hle2) (fun b o hb hw h=>kp2 b o hb hw ((cN _ _ (Ne.symm hb)).trans (kp b o hw h))) hd2 ac2 ta2
theorem zT{t:Tok}{Q:List Value->Shared->Prop}(yw:0<s.toks)(hh:A.handled=none)(NK:l.length<=sizeLine)
  (q:∀g tk (Fw:Array Value),s.toks<=tk->(∀b o,s.heap.get? b=some o->g.get? b=some o)->ItemsOf (SignAt (tx l)) Fw (tx l).cps.size->jm tk Fw.toList->Q Fw.toList { s with heap:=g,toks:=tk }):wpAny #[6] A (collect (.str (tx l) t)) Q E s:=by
 have hn:(tx l).cps.size=l.length:=by simp[tx]
 unfold collect
 refine af (qK (dz entry_proto_collect' ?_))
 rw[c6 PySem.F.plain_proto_collect _]
 show wpAny _ A.in1 (newList [] >>= fun d=>again (.builtin "list.__iadd__" ⟨[d,.str (tx l) t],[]⟩)) _ _ s
 refine af (cD (ay ⟨fH PySem.F.plain_list_iadd _,dz entry_list_iadd' ?_⟩))
 rw[c6 PySem.F.plain_list_iadd _]
 show wpAny _ A.in1 (Builtin.List.listExtendWith (.ref s.heap.objs.size) (.str (tx l) t) (.ref s.heap.objs.size)) _ _ _
 unfold Builtin.List.listExtendWith
 refine af (ja (T:="str") (v:=.str (tx l) t) rfl ?_)
 have e1:Builtin.List.listSameRef (.ref s.heap.objs.size) (.str (tx l) t)=false:=rfl
 have e2:(Value.type "str" == Value.type "list")=false:=by decide
 have e3:(Value.type "str" == Value.type "tuple")=false:=by decide
 simp only[e1,e2,e3,nI,fQ,gX]
 generalize hL:s.heap.objs.size=L
 have gL:(s.heap.push { cls:=.type "list",data:=.seq ([]:List Value).toArray }).get? L=some (Pa #[] 0):=by rw[<- hL];exact aC _ rfl
 have z1:(s.heap.push { cls:=.type "list",data:=.seq ([]:List Value).toArray }).objs.size=L+1:=by rw[bx,hL]
 have kp1:∀b o,s.heap.get? b=some o->(s.heap.push { cls:=.type "list",data:=.seq ([]:List Value).toArray }).get? b=some o:=fun b o e=>aw _ e
 generalize s.heap.push { cls:=.type "list",data:=.seq ([]:List Value).toArray }=g1 at gL z1 kp1 ⊢
 have kT:∀(ob:Obj) (ty:String),(∀A:Around,A.handled=none->Walks prog w A (L+1) [L+1] [L+1] (tx l).cps.size (SignAt (tx l)) (fun i h=>h.IsStrIter (L+1) ty (tx l) t i))->(g1.push ob).IsStrIter (L+1) ty (tx l) t 0 ->
   (∀{A:Around} {s:Shared} {i c:Nat} {Q:Option Value->Shared->Prop} {E:Value->Shared->Prop},s.heap.IsStrIter (L+1) ty (tx l) t i->(tx l).cps[i]?=some c ->
    (∀h',h'.IsStrIter (L+1) ty (tx l) t (i+1)->Heap.SameBut (L+1) s.heap h'->Q (some (.str ⟨#[c]⟩ s.toks)) { s with heap:=h',toks:=s.toks+1 })->wpAny #[6] A (pyNext (.ref (L+1))) Q E s) ->
   codeAny #[6] A (.builtin "list.extend.loop" ⟨[.ref L,.ref (L+1),.ref L],[]⟩) (wants (fun r s'=>wpAny #[6] A (match r with|.ref a=>(do match (<- load a).data with|.seq xs _=>pure xs.toList|_=>unsupported "internal:collect")|_=>unsupported "internal:collect") Q E s') E) { s with heap:=g1.push ob }:=fun ob ty W h0 next=>by
  refine H9 (n0:=s.toks) (W A.in1 (by simpa using hh)) (by rw[hn];exact NK) L #[15] (.ref L) (fun i s' Q E hn0 hi st q=>?_) (tx l).cps.size 0 _ #[] 0 #[0] (aA _) h0 (aw _ gL) (ItemsOf.nil _) (fun x u hx=>by simp at hx) fun g tk Fw c ms kp hd ac ta=>?_
  ·obtain⟨c,hx⟩:∃c,(tx l).cps[i]?=some c:=⟨_,eQ hi⟩
   refine next st hx fun h' bh hs=>q _ h' (s'.toks+1) (bp _) (fun x u hx' _=>?_) ⟨c,_,hx,rfl⟩ bh fun b o hb e=>hs.extBut b o (fun z=>hb (by simp[z])) e
   rw[aZ]at hx'
   cases hx'
   exact⟨aL yw hn0,ce _⟩
  ·refine af (wpAny_load hd (ay (q g tk Fw ms (fun b o e=>kp b o ?_ ?_ (aw _ (kp1 b o e))) ac ta)))
   ·rw[<- hL];exact a9 (aJ e)
   ·intro hm
    rw[aZ]at hm
    have:=aJ e
    rw[hL,hm]at this
    have this:L+1<L:=this
    omega
 have hint:∀(s':Shared) (Q':Bool->Shared->Prop) (E':Value->Shared->Prop),Q' false s'->wpAny #[6] A.in1 (Builtin.List.listLengthHint (.str (tx l) t)) Q' E' s':=fun s' Q' E' y=>by
  unfold Builtin.List.listLengthHint
  refine af (wpAny_specialOf (T:="str") (v:=.str (tx l) t) rfl PySem.F.str_len ?_)
  wp_delta
  refine af (gY (T:="str") (v:=.str (tx l) t) (b:=true) rfl (by rw[eF];kernel_rfl) ?_)
  show wpAny _ A.in1 (typeOf (Value.str (tx l) t) >>= _) _ _ _
  exact af (ja (T:="str") (v:=.str (tx l) t) rfl (ay y))
 have key:∀(ob:Obj),codeAny #[6] A (.builtin "list.extend.loop" ⟨[.ref L,.ref (L+1),.ref L],[]⟩) (wants (fun r s'=>wpAny #[6] A (match r with|.ref a=>(do match (<- load a).data with|.seq xs _=>pure xs.toList|_=>unsupported "internal:collect")|_=>unsupported "internal:collect") Q E s') E) { s with heap:=g1.push ob }->_:=fun ob h=>h
 cases ha:(tx l).cps.all (· < 128)
 ·refine af (nh ha (af (dw (hint _ _ _ ?_))))
  show wpAny _ _ _ _ _ _
  rw[show Shared.heap { s with heap:=g1 }=g1 from rfl,z1]
  rw[aU #[3]]
  exact ay ⟨fH PySem.F.plain_extend_loop _,kT _ "str_iterator" (fun A hA=>Walks.strWide hA _ (tx l) t) ⟨_,by rw[<- z1];exact aC _ rfl,rfl,rfl⟩ fun a b c=>kj a b c⟩
 ·refine af (mK ha (af (dw (hint _ _ _ ?_))))
  rw[show Shared.heap { s with heap:=g1 }=g1 from rfl,z1]
  rw[aU #[3]]
  exact ay ⟨fH PySem.F.plain_extend_loop _,kT _ "str_ascii_iterator" (fun A hA=>Walks.strAscii hA _ (tx l) t) ⟨_,by rw[<- z1];exact aC _ rfl,rfl,rfl⟩ fun a b c=>jT a b c⟩
theorem BF{t:Tok}(yw:0<s.toks)(NK:l.length<64)(hh:A.handled=none)
  (q:∀(s1:Shared) (g1:Heap) (out:Array Value) (ss:List Str) (e:Nat),(∀b o,s.heap.get? b=some o->s1.heap.get? b=some o)->s1.gens=s.gens->s1.drawn=s.drawn->s1.os=s.os->(∀b o,s1.heap.get? b=some o->g1.get? b=some o)->g1.get? s1.heap.objs.size=some (seqObj "list" out e) ->
   s.toks<=s1.toks->jm s1.toks out.toList->StrsAre out.toList ss->ss.Perm (l.map fun c=>tx [c])->sortedS ss=true->Q (.ref s1.heap.objs.size) { s1 with heap:=g1 }):wpAny #[6] A (call (.builtin "sorted") [.str (tx l) t]) Q E s:=by
 have hn:(tx l).cps.size=l.length:=by simp[tx]
 apply mV kind_sorted plain_sorted entry_sorted (args_sorted1 _)
 show wpAny _ _ (checkCount "sorted" 1 1 _ >>= _) _ _ _
 refine af (ay (af (zT yw (by simpa using hh) (by rw[lv];omega) (fun g tk ju ms kp ha ta=>?_))))
 generalize hs1:({ s with heap:=g,toks:=tk }:Shared)=s1
 have eg:s1.gens=s.gens:=by rw[<- hs1]
 have ed:s1.drawn=s.drawn:=by rw[<- hs1]
 have eo:s1.os=s.os:=by rw[<- hs1]
 have kp:∀b o,s.heap.get? b=some o->s1.heap.get? b=some o:=by rw[<- hs1];exact kp
 have ms:s.toks<=s1.toks:=by rw[<- hs1];exact ms
 have ta:jm s1.toks ju.toList:=by rw[<- hs1];exact ta
 have oZ:StrsAre ju.toList (l.map fun c=>tx [c]):=by
  refine wW l _ (by rw[eG,ha.1,hn]) fun j v hj=>?_
  obtain⟨c,u,hc,e⟩:=ha.2 j v (by simpa using hj)
  exact⟨c,u,by simpa[tx]using hc,e⟩
 have hvl:ju.toList.length<64:=by rw[eG,ha.1,hn];exact NK
 refine af (wpAny_newList ?_ (by rw[lv];omega))
 have oL:(s1.heap.push (seqObj "list" ju.toList.toArray 0)).get? s1.heap.objs.size=some (seqObj "list" ju.toList.toArray 0):=aC _ rfl
 refine af (dw (cn slot_list_sort ⟨_,oL,rfl⟩ entry_list_sort (list_sort_treeK rW oL oZ.keysOf (fun a b r e=>ug (by rw[<- e];exact oZ)) hvl fun st a1 a2=>⟨_,rfl,?_⟩) (args_list_sort _)))
 obtain⟨ss,h1,h2,h3⟩:=qJ oZ a1 a2
 obtain⟨e,he⟩:=sortedHeap_at (out:=(arrOf st).map (·.2)) oL
 refine ay ⟨_,rfl,q s1 _ _ ss e kp eg ed eo (fun b o hb=>?_) he ms (ta.sub (wz a1)) h1 h2 h3⟩
 rw[sortedHeap_old (a9 (aJ hb)) (by rw[bx];exact cX (aJ hb))]
 exact aw _ hb
end
section
def lG(ws:List W)(st:List au):R W:=match ws with
 |[.str l]=>if l.length<64 then .ok (.loc st.length) (st++[.lst ((jN (l.map fun c=>[c])).map W.str)])else .bad
 |[.loc n]=>qS [.loc n] st
 |_=>.bad
theorem zU(hc:X.calm=true:=by rfl):qf X (.builtin "sorted") lG:=⟨fun ak s σ H vs us Q I rv zq=>by
 obtain⟨μ,st,ws,S,r,q⟩:=zq
 unfold lG at q
 split at q
 ·rename_i l
  split at q
  ·rename_i c
   obtain⟨y,rfl,ry⟩:=r.one
   have:=ry.strE;subst this
   obtain⟨u,rfl,ru⟩:=p8 rv
   obtain⟨t,rfl⟩:=ru
   refine BF I.pos c (I.ok.hd hc) fun s1 g1 out ss e kp eg ed eo k1 gL ms ta oZ hp hsr=>?_
   have es:s1={ s with heap:=s1.heap,toks:=s1.toks }:=by cases s1;cases s;cases eg;cases ed;cases eo;rfl
   generalize s1.heap=g0,s1.toks=tk at es kp k1 gL ms ta ⊢
   subst es
   have I2:bI X ak σ H { s with heap:=g0,toks:=tk }:=I.kept2 (d':=s.drawn) fun b o e=>kp b o e
   have yx:H g0.objs.size=none:=I2.hok.fresh (aA _)
   have hmap:(ss.map fun z=>z.cps.toList).map tx=ss:=by
    rw[cq]
    have:(tx∘fun z:Str=>z.cps.toList)=id:=funext fun z=>EU z
    rw[this,jU]
   have hperm:(ss.map fun z=>z.cps.toList).Perm (l.map fun c=>[c]):=by
    have e:=hp.map fun z:Str=>z.cps.toList
    rw[cq]at e
    exact e
   have ez:(ss.map fun z=>z.cps.toList)=jN (l.map fun c=>[c]):=vV (wQ (by rw[hmap];exact hsr)) (wP _) (hperm.trans (hW _).symm)
   have hvals:cL tk ((jN (l.map fun c=>[c])).map fun l=>V.str (tx l)) out.toList:=by
    have e:=oy oZ ta
    rw[<- hmap,ez,cq]at e
    exact e
   refine⟨.ref g0.objs.size,_,I2.laid (o:=.lst ((jN (l.map fun c=>[c])).map fun l=>V.str (tx l))) (t':=tk) k1 (aA _) ⟨?_,out.toList,e,hvals,gL⟩,rfl,?_⟩
   ·rw[aE,(hW _).length_eq,aE]
    exact aN (gp c) #[3]
   ·exact q (μ++[g0.objs.size]) _ _ (a_ _ _) (gz.same (cU yx _)) (S.newLst yx (BB _)) (qd S)
  ·exact q.elim
 ·exact BC.h ak s σ H _ us Q I rv ⟨μ,st,_,S,r,q⟩
 ·exact q.elim,fun ws st=>by
 unfold lG
 split
 ·split<;>trivial
 ·exact(BC (X:=X)).n _ _
 ·trivial⟩
end
section
variable{a b:Expr}{fs:FA}
end
section
variable{f:FG}
end
theorem bI.turnedL{s:Shared}{t':Nat}{ch:List Addr}(I:bI X ak σ H s)(k:∀b o,b∉ch->s.heap.get? b=some o->h'.get? b=some o)
  (f:∀b∈ch,ur X ak H b) (KL:s.toks<=t':=by first|exact aA _|exact bp _|assumption|omega):bI X ak σ H { s with heap:=h',toks:=t' }:=by
 have nit:∀b u,H b=some u->b∉ch:=fun b u q z=>by rw[(f b z).1]at q;cases q
 refine I.step (g':=s.gens) (d':=s.drawn) (ch:=ch) (fun b hb=>?_) (fun b o _ _ hc q _=>k b o hc q) (fun b o _ _ hc q _=>⟨o.slots,k b o hc q⟩) (fun _ _ _ _ n=>n)
  (fun b o hc q=>⟨o,k b o hc q⟩) (fun _ _ q=>q) (fun _ _ _ q=>q) (fun b ps q=>⟨#[],by rw[q];simp⟩) (fun m hm=>?_) (fun b u q=>?_) I.bare KL
 ·exact⟨(f b hb).2.2.2.1,(f b hb).2.1,(f b hb).2.2.2.2.1,(f b hb).2.2.2.2.2⟩
 ·obtain⟨o,es,ep,ho,r⟩:=hm
  exact⟨o,es,ep,k _ o (fun z=>(f _ z).2.1 rfl) ho,r⟩
 ·refine((I.hok b u q).up KL).stay (fun c v hc z=>?_) (fun _ z=>z) fun _ _ z=>z
  rcases hc with y|y
  ·rw[y]at z ⊢;exact k b v (nit b u q) z
  ·exact k c v (nit c _ y) z
section
variable{w:World}
variable{z P O i j a b:Addr}{m:Nat}{xs ys:Array Value}{x y:Value}
theorem LH(D:ZipApart z P O i j a b)(qz:IsZip s.heap z P O .none)(qP:IsPair s.heap P (.ref i) (.ref j))(qO:IsPair s.heap O u v)
  (q1:s.heap.IsTupleIter i a n) (q2:s.heap.IsTupleIter j b m) (ta:s.heap.IsTuple a xs) (tb:s.heap.IsTuple b ys) (hx:xs[n]?=some x) (hy:ys[m]?=some y)
  (hQ:∀g,IsZip g z P O (rawInt s.heap.objs.size)->IsPair g O x y->g.IsTupleIter i a (n+1)->g.IsTupleIter j b (m+1)->IsPair g s.heap.objs.size x y ->
   (∀c o,c≠z->c≠O->c≠i->c≠j->s.heap.get? c=some o->g.get? c=some o)->Q (.ref s.heap.objs.size) { s with heap:=g }) :
  wpAny #[6] A (Builtin.«zip.__next__» ⟨[.ref z],[]⟩) (fun kT s'=>∃v,kT=.done (.ret v)/\Q v s') E s:=by
 show wpAny _ _ (field (.ref z) 2 >>= _) _ _ _
 refine af (df qz rfl (x:=.bool false) rfl ?_)
 show wpAny _ _ (field (.ref z) 3 >>= _) _ _ _
 refine af (df qz rfl (x:=.ref P) rfl (af (eD qP rfl ?_)))
 show wpAny _ _ (Builtin.SmallTypes.ownedTupleIsFree (.ref z) >>= _) _ _ _
 refine af ?_;unfold Builtin.SmallTypes.ownedTupleIsFree
 refine af (df qz rfl (x:=.none) rfl (ay ?_));simp only[gG]
 refine af (kX (af (df qz rfl (x:=.ref O) rfl ?_)))
 refine af (cH qz #[15] fun g1 z1 s1=>?_)
 replace z1:IsZip g1 z P O .ellipsis:=z1
 refine af ?_
 simp only[List.zipIdx_cons,List.zipIdx_nil,lT,qI]
 refine af (af (nJ ?_))
 show wpAny _ _ (Builtin.SmallTypes.nextOf (.ref i) >>= _) _ _ _
 refine af (k6 (q1.extBut s1.extBut D.i1z) (ta.extBut s1.extBut D.l1z) hx fun g2 k2 s2=>ay ?_)
 have O2:IsPair g2 O u v:=s2.extBut _ _ D.TOi1 (s1.extBut _ _ D.TOz qO)
 refine af (eD O2 rfl (af (lE O2 fun g3 O3 s3=>?_)))
 replace O3:IsPair g3 O x v:=O3
 refine af (wpAny_letGo (ay (af (af (nJ ?_)))))
 show wpAny _ _ (Builtin.SmallTypes.nextOf (.ref j) >>= _) _ _ _
 refine af (k6 (((q2.extBut s1.extBut D.i2z).extBut s2.extBut D.i12.symm).extBut s3.extBut D.TOi2.symm)
  (((tb.extBut s1.extBut D.l2z).extBut s2.extBut D.l2i1).extBut s3.extBut D.l2TO) hy fun g4 k4 s4=>ay ?_)
 have O4:IsPair g4 O x v:=s4.extBut _ _ D.TOi2 O3
 refine af (eD O4 rfl (af (lE O4 fun g5 O5 s5=>?_)))
 replace O5:IsPair g5 O x y:=O5
 refine af (wpAny_letGo (ay (ay (af (eD O5 rfl (af (wpAny_newTuple ?_)))))))
 have sz:g5.objs.size=s.heap.objs.size:=by rw[s5.1,s4.1,s3.1,s2.1,s1.1]
 have z5:IsZip g5 z P O .ellipsis:=s5.extBut _ _ D.TOz.symm (s4.extBut _ _ D.i2z.symm (s3.extBut _ _ D.TOz.symm (s2.extBut _ _ D.i1z.symm z1)))
 have kp:∀c o,c≠z->c≠O->c≠i->c≠j->s.heap.get? c=some o->g5.get? c=some o:=fun c o c1 c2 c3 c4 e=>
  s5.extBut _ _ c2 (s4.extBut _ _ c4 (s3.extBut _ _ c2 (s2.extBut _ _ c3 (s1.extBut _ _ c1 e))))
 have k5:g5.IsTupleIter i a (n+1):=((k2.extBut s3.extBut D.TOi1.symm).extBut s4.extBut D.i12).extBut s5.extBut D.TOi1.symm
 have l5:g5.IsTupleIter j b (m+1):=k4.extBut s5.extBut D.TOi2.symm
 have zlt:z<g5.objs.size:=aJ z5
 show wpAny _ _ (Builtin.SmallTypes.ownedTupleHandOut (.ref z) (.ref g5.objs.size) >>= _) _ _ _
 refine af ?_;unfold Builtin.SmallTypes.ownedTupleHandOut
 have z6:IsZip (g5.push { cls:=.type "tuple",data:=.seq #[x,y] }) z P O .ellipsis:=aw _ z5
 refine af (cH z6 #[15] fun g7 z7 s7=>?_)
 replace z7:IsZip g7 z P O (rawInt g5.objs.size):=z7
 refine cH z7 #[15] fun g8 z8 s8=>?_
 replace z8:IsZip g8 z P O (rawInt g5.objs.size):=z8
 have up:∀c o,c≠z->g5.get? c=some o->g8.get? c=some o:=fun c o c1 e=>s8.extBut _ _ c1 (s7.extBut _ _ c1 (aw _ e))
 have T8:IsPair g8 g5.objs.size x y:=s8.extBut _ _ (eu zlt) (s7.extBut _ _ (eu zlt) (aC _ rfl))
 rw[sz]at z8 T8
 refine ay ⟨_,rfl,?_⟩
 show Q (.ref g5.objs.size) _
 rw[sz]
 exact hQ g8 z8 (up _ _ D.TOz O5) (k5.at fun o e=>up _ o D.i1z e) (l5.at fun o e=>up _ o D.i2z e) T8 fun c o c1 c2 c3 c4 e=>up c o c1 (kp c o c1 c2 c3 c4 e)
theorem Pc{Q:Fin->Shared->Prop}(hh:A.handled=none)(D:ZipApart z P O i j a b)(qz:IsZip s.heap z P O .none)(qP:IsPair s.heap P (.ref i) (.ref j))(qO:IsPair s.heap O u v)
  (q1:s.heap.IsTupleIter i a n) (q2:s.heap.IsTupleIter j b m) (ta:s.heap.IsTuple a xs) (tb:s.heap.IsTuple b ys) (he:xs[n]?=none\/ys[m]?=none)
  (hE:∀g e,(∀c o,c≠z->c≠O->c≠i->c≠j->s.heap.get? c=some o->g.get? c=some o)->(∃o,g.get? e=some o/\o.cls=.type "StopIteration")->E (.ref e) { s with heap:=g }) :
  wpAny #[6] A (Builtin.«zip.__next__» ⟨[.ref z],[]⟩) Q E s:=by
 show wpAny _ _ (field (.ref z) 2 >>= _) _ _ _
 refine af (df qz rfl (x:=.bool false) rfl ?_)
 show wpAny _ _ (field (.ref z) 3 >>= _) _ _ _
 refine af (df qz rfl (x:=.ref P) rfl (af (eD qP rfl ?_)))
 show wpAny _ _ (Builtin.SmallTypes.ownedTupleIsFree (.ref z) >>= _) _ _ _
 refine af ?_;unfold Builtin.SmallTypes.ownedTupleIsFree
 refine af (df qz rfl (x:=.none) rfl (ay ?_));simp only[gG]
 refine af (kX (af (df qz rfl (x:=.ref O) rfl ?_)))
 refine af (cH qz #[15] fun g1 z1 s1=>?_)
 replace z1:IsZip g1 z P O .ellipsis:=z1
 refine af ?_
 simp only[List.zipIdx_cons,List.zipIdx_nil,lT,qI]
 refine af (af (nJ ?_))
 show wpAny _ _ (Builtin.SmallTypes.nextOf (.ref i) >>= _) _ _ _
 cases hx:xs[n]? with
 |none=>
  refine af (l7 hh (q1.extBut s1.extBut D.i1z) (ta.extBut s1.extBut D.l1z) hx fun g2 e s2 ye=>?_)
  obtain⟨oe,h1,h2⟩:=ye
  have z2:IsZip g2 z P O .ellipsis:=s2 _ _ D.i1z.symm z1
  have nez:e≠z:=fun q=>by subst q;rw[z2]at h1;cases h1;simp at h2
  exact cH z2 #[15] fun g3 _ s3=>hE g3 e (fun c o c1 _ c3 _ q=>s3.extBut _ _ c1 (s2 _ _ c3 (s1.extBut _ _ c1 q))) ⟨oe,s3.extBut _ _ nez h1,h2⟩
 |some x=>
  have hy:ys[m]?=none:=by rcases he with h|h;rw[hx]at h;cases h;exact h
  refine af (k6 (q1.extBut s1.extBut D.i1z) (ta.extBut s1.extBut D.l1z) hx fun g2 k2 s2=>ay ?_)
  have O2:IsPair g2 O u v:=s2.extBut _ _ D.TOi1 (s1.extBut _ _ D.TOz qO)
  refine af (eD O2 rfl (af (lE O2 fun g3 O3 s3=>?_)))
  refine af (wpAny_letGo (ay (af (af (nJ ?_)))))
  show wpAny _ _ (Builtin.SmallTypes.nextOf (.ref j) >>= _) _ _ _
  refine af (l7 hh (((q2.extBut s1.extBut D.i2z).extBut s2.extBut D.i12.symm).extBut s3.extBut D.TOi2.symm)
   (((tb.extBut s1.extBut D.l2z).extBut s2.extBut D.l2i1).extBut s3.extBut D.l2TO) hy fun g4 e s4 ye=>?_)
  obtain⟨oe,h1,h2⟩:=ye
  have z4:IsZip g4 z P O .ellipsis:=s4 _ _ D.i2z.symm (s3.extBut _ _ D.TOz.symm (s2.extBut _ _ D.i1z.symm z1))
  have nez:e≠z:=fun q=>by subst q;rw[z4]at h1;cases h1;simp at h2
  exact cH z4 #[15] fun g5 _ s5=>hE g5 e (fun c o c1 c2 c3 c4 q=>s5.extBut _ _ c1 (s4 _ _ c4 (s3.extBut _ _ c2 (s2.extBut _ _ c3 (s1.extBut _ _ c1 q))))) ⟨oe,s5.extBut _ _ nez h1,h2⟩
theorem LI{Q:Option Value->Shared->Prop}(D:ZipApart z P O i j a b)(qz:IsZip s.heap z P O .none)(qP:IsPair s.heap P (.ref i) (.ref j))(qO:IsPair s.heap O u v)
  (q1:s.heap.IsTupleIter i a n) (q2:s.heap.IsTupleIter j b m) (ta:s.heap.IsTuple a xs) (tb:s.heap.IsTuple b ys) (hx:xs[n]?=some x) (hy:ys[m]?=some y)
  (hQ:∀g,IsZip g z P O (rawInt s.heap.objs.size)->IsPair g O x y->g.IsTupleIter i a (n+1)->g.IsTupleIter j b (m+1)->IsPair g s.heap.objs.size x y ->
   (∀c o,c≠z->c≠O->c≠i->c≠j->s.heap.get? c=some o->g.get? c=some o)->Q (some (.ref s.heap.objs.size)) { s with heap:=g }) :
  wpAny #[6] A (pyNext (.ref z)) Q E s:=by
 have T:s.TypeIs (.ref z) "zip":=⟨_,qz,rfl⟩
 unfold pyNext
 exact af (iy (bU (name:=Str.ofString "__next__") T lW (cn lW T F.entry_zip_next
   (LH D qz qP qO q1 q2 ta tb hx hy fun g a1 a2 a3 a4 a5 a6=>ay (hQ g a1 a2 a3 a4 a5 a6)) (F.args_zip_next_1 _))))
theorem LJ{Q:Option Value->Shared->Prop}(hh:A.handled=none)(D:ZipApart z P O i j a b)(qz:IsZip s.heap z P O .none)(qP:IsPair s.heap P (.ref i) (.ref j))(qO:IsPair s.heap O u v)
  (q1:s.heap.IsTupleIter i a n) (q2:s.heap.IsTupleIter j b m) (ta:s.heap.IsTuple a xs) (tb:s.heap.IsTuple b ys) (he:xs[n]?=none\/ys[m]?=none)
  (hQ:∀g,(∀c o,c≠z->c≠O->c≠i->c≠j->s.heap.get? c=some o->g.get? c=some o)->Q none { s with heap:=g }):wpAny #[6] A (pyNext (.ref z)) Q E s:=by
 have T:s.TypeIs (.ref z) "zip":=⟨_,qz,rfl⟩
 unfold pyNext
 refine af (iy (bU (name:=Str.ofString "__next__") T lW (cn lW T F.entry_zip_next (Pc hh D qz qP qO q1 q2 ta tb he fun g e hk ye=>?_) (F.args_zip_next_1 _))))
 obtain⟨o,ho,hc⟩:=ye
 exact af (gY (T:="StopIteration") (b:=true) ⟨o,ho,hc⟩ mL (ay (hQ _ hk)))
end
open AutoSeq1 (wpAny_loadPart')
abbrev Uw(h:Heap)(a:Addr):Heap:=h.push (mX a)
abbrev Ux(h:Heap)(a b:Addr):Heap:=(Uw h a).push (mX b)
abbrev Uy(h:Heap)(a b:Addr):Heap:=(Ux h a b).push { cls:=.type "tuple",data:=.seq #[.ref h.objs.size,.ref (Uw h a).objs.size] }
abbrev Uz(h:Heap)(a b:Addr):Heap:=(Uy h a b).push { cls:=.type "tuple",data:=.seq #[.none,.none] }
abbrev Q6(h:Heap)(a b:Addr):Heap:=(Uz h a b).push { cls:=.type "zip",data:=.fields #[.none,.bool false,.bool false,.ref (Ux h a b).objs.size,.ref (Uy h a b).objs.size] }
theorem Pd     (a b : Addr) (xs ys : Array Value) : Meets (Builtin.«zip.__new__» ⟨[.type "zip", .ref a, .ref b], []⟩) (fun _ R s => s.heap.IsTuple a xs /\ s.heap.IsTuple b ys /\
      R (.ok (.ret (.ref (Uz  s.heap a b).objs.size))) { s with heap := Q6  s.heap a b }) :=
  .of_wp fun prog w A R s h => by
    obtain ⟨hp, g, d, tk, os⟩ := s
    obtain ⟨ha, hb, h⟩ := h
    have sb := sub_zip
    have hA : Heap.IsTuple (Shared.heap ⟨hp, g, d, tk, os⟩) a xs := ha
    have hB : Heap.IsTuple (Shared.heap ⟨hp.push (mX      a), g, d, tk, os⟩) b ys := hb.at fun o e => aw                     _ e
    wp_walk using fO                 hA, fO                 hB
    exact ⟨_, rfl, h⟩
section
variable{w:World}
theorem LK{a b:Addr}{xs ys:Array Value}(ha:s.heap.IsTuple a xs)(hb:s.heap.IsTuple b ys)
  (q:∀g,IsZip g (s.heap.objs.size+4) (s.heap.objs.size+2) (s.heap.objs.size+3) .none->IsPair g (s.heap.objs.size+2) (.ref s.heap.objs.size) (.ref #[7]) ->
   IsPair g (s.heap.objs.size+3) .none .none->g.IsTupleIter s.heap.objs.size a 0->g.IsTupleIter #[7] b 0->(∀c o,s.heap.get? c=some o->g.get? c=some o)->Q (.ref (s.heap.objs.size+4)) { s with heap:=g }) :
  wpAny #[6] A (call (.type "zip") [.ref a,.ref b]) Q E s:=by
 refine callType_new F.called_zip #[3] (F.typeCall_zip_2 _ _) (F.newCall_zip_2 _ _) (fun ob=>F.args_object_init_3 ob _ _) F.entry_zip_new (Pd a b xs ys) ⟨ha,hb,?_⟩
 have n1:(Uw s.heap a).objs.size=s.heap.objs.size+1:=bx ..
 have n2:(Ux s.heap a b).objs.size=s.heap.objs.size+2:=by rw[bx,n1]
 have n3:(Uy s.heap a b).objs.size=s.heap.objs.size+3:=by rw[bx,n2]
 have n4:(Uz s.heap a b).objs.size=s.heap.objs.size+4:=by rw[bx,n3]
 have p:∀{h:Heap} {c:Addr} {o u:Obj},h.get? c=some o->(h.push u).get? c=some o:=fun e=>aw _ e
 have g5:(Q6 s.heap a b).get? (Uz s.heap a b).objs.size=some _:=aC _ rfl
 have g4:(Q6 s.heap a b).get? (Uy s.heap a b).objs.size=some _:=p (aC _ rfl)
 have g3:(Q6 s.heap a b).get? (Ux s.heap a b).objs.size=some _:=p (p (aC _ rfl))
 have g2:(Q6 s.heap a b).get? (Uw s.heap a).objs.size=some _:=p (p (p (aC _ rfl)))
 have g1:(Q6 s.heap a b).get? s.heap.objs.size=some _:=p (p (p (p (aC _ rfl))))
 show _/\_
 rw[n2,n3,n4]at g5
 rw[n1,n2]at g3
 rw[n3]at g4
 rw[n1]at g2
 rw[n4]
 exact⟨⟨_,g5,rfl⟩,q _ g5 g3 g4 ⟨_,g1,rfl,rfl⟩ ⟨_,g2,rfl,rfl⟩ fun c o e=>p (p (p (p (p e))))⟩
end
def V5(K:Frag)(a b:Addr):It:=
  ⟨fun i H=>∃xs ys x y,gz K H a xs/\gz K H b ys/\xs[i]?=some x/\ys[i]?=some y,
   fun i H v H'=>∃p,H p=none/\v=.ref p/\∀xs ys x y,gz K H a xs->gz K H b ys->xs[i]?=some x->ys[i]?=some y->H'=fW H p (.tup [x,y]),
   fun i H=>∃xs ys,gz K H a xs/\gz K H b ys/\(xs.length<=i\/ys.length<=i)⟩
theorem LM{w:World}{z T O i j a b:Addr}(D:ZipApart z T O i j a b) :
  C6 P w K (.Tuple xL kk pos) (V5 K a b) [z,T,O,i,j] z (fun k h=>IsZip h z T O .none/\IsPair h T (.ref i) (.ref j)/\(∃u v,IsPair h O u v)/\h.IsTupleIter i a k/\h.IsTupleIter j b k) where
 mem:=by simp
 obj:=fun k h st c hc=>by
  obtain⟨h1,h2,⟨u,v,h3⟩,⟨o4,e4,_,d4⟩,⟨o5,e5,_,d5⟩⟩:=st
  have q:c=z\/c=T\/c=O\/c=i\/c=j:=by simpa using hc
  rcases q with rfl|rfl|rfl|rfl|rfl
  ·exact⟨_,h1,fun v q=>by cases q⟩
  ·exact⟨_,h2,fun v q=>by cases q⟩
  ·exact⟨_,h3,fun v q=>by cases q⟩
  ·exact⟨_,e4,fun v q=>by rw[d4]at q;cases q⟩
  ·exact⟨_,e5,fun v q=>by rw[d5]at q;cases q⟩
 keep:=fun k h h' st kp=>by
  obtain⟨h1,h2,⟨u,v,h3⟩,h4,h5⟩:=st
  exact⟨kp z #[15] _ h1,kp T #[15] _ h2,⟨u,v,kp O #[15] _ h3⟩,h4.at fun o e=>kp i #[15] o e,h5.at fun o e=>kp j #[15] o e⟩
 item:=by
  intro X hP hw hK hc k ak s σ H E I hf st hg
  subst hP hw hK
  obtain⟨xs,ys,x,y,hq,hr,hx,hy⟩:=hg
  obtain⟨bO,rv,p1,_⟩:=I.tuple hq
  obtain⟨jts,u_,p2,_⟩:=I.tuple hr
  obtain⟨u,hu,ru⟩:=rv.get hx
  obtain⟨v,hv,rv'⟩:=u_.get hy
  obtain⟨h1,h2,⟨c1,c2,h3⟩,h4,h5⟩:=st
  refine LI D h1 h2 h3 h4 h5 (show s.heap.IsTuple a bO.toArray from p1) (show s.heap.IsTuple b jts.toArray from p2) (x:=u) (y:=v) (by simpa using hu) (by simpa using hv) fun g a1 a2 a3 a4 a5 kp=>⟨_,rfl,?_⟩
  refine wpAny_letOwnedTupleGo_zip a1 fun g2 b1 s2=>?_
  have yx:H s.heap.objs.size=none:=I.hok.fresh (aA _)
  have I1:bI X ak σ (fW H s.heap.objs.size (.tup [x,y])) { s with heap:=s.heap.push { cls:=.type "tuple",data:=.seq #[u,v] },toks:=s.toks }:=I.laid (fun c o q=>aw _ q) (aA _)
   ⟨by show 2<=sizeLine;decide,[u,v],.cons ru (.cons rv' .nil),⟨_,aC _ rfl,rfl,_,rfl⟩⟩
  have lt:∀{c o},s.heap.get? c=some o->c≠s.heap.objs.size:=fun e=>a9 (aJ e)
  have nf:∀c∈[z,T,O,i,j],c≠s.heap.objs.size:=fun c hb=>by
   have q:c=z\/c=T\/c=O\/c=i\/c=j:=by simpa using hb
   rcases q with rfl|rfl|rfl|rfl|rfl
   ·exact lt h1
   ·exact lt h2
   ·exact lt h3
   ·obtain⟨_,e,_⟩:=h4;exact lt e
   ·obtain⟨_,e,_⟩:=h5;exact lt e
  have fp:∀c∈[z,T,O,i,j],ur X ak (fW H s.heap.objs.size (.tup [x,y])) c:=fun c hb=>by
   obtain⟨f0,f⟩:=hf c hb
   exact⟨by rw[cY (nf c hb)];exact f0,f⟩
  have I2:bI X ak σ (fW H s.heap.objs.size (.tup [x,y])) { s with heap:=g2,toks:=s.toks }:=bI.turnedL (s:={ s with heap:=s.heap.push { cls:=.type "tuple",data:=.seq #[u,v] },toks:=s.toks }) (ch:=[z,O,i,j]) (t':=s.toks) I1 (fun c o hb q=>?_) fun c hb=>fp c (by
   have q:c=z\/c=O\/c=i\/c=j:=by simpa using hb
   rcases q with rfl|rfl|rfl|rfl<;>simp)
  ·refine⟨.ref s.heap.objs.size,_,I2,rfl,⟨_,yx,rfl,fun xs' Q_ x' y' e1 e2 e3 e4=>?_⟩,⟨b1,s2.extBut _ _ D.TIz (kp _ _ D.TIz D.TITO D.TIi1 D.TIi2 h2),⟨_,_,s2.extBut _ _ D.TOz a2⟩,a3.extBut s2.extBut D.i1z,a4.extBut s2.extBut D.i2z⟩,fun c hb=>(fp c hb).1⟩
   have q1:=I.tuple_inj e1 hq
   have q2:=I.tuple_inj e2 hr
   subst q1 q2
   rw[hx]at e3;rw[hy]at e4;cases e3;cases e4;rfl
  ·have q':(s.heap.push { cls:=.type "tuple",data:=.seq #[u,v] }).get? c=some o:=q
   have hn:c≠z/\c≠O/\c≠i/\c≠j:=by simpa using hb
   refine s2.extBut c o hn.1 ?_
   by_cases hb':c=s.heap.objs.size
   ·subst hb'
    have e1:=aC s.heap (o:={ cls:=.type "tuple",data:=.seq #[u,v] }) rfl
    rw[e1]at q';cases q'
    exact a5
   ·rw[Heap.get?_push_ne _ _ _ hb']at q'
    exact kp c o hn.1 hn.2.1 hn.2.2.1 hn.2.2.2 q'
 done:=by
  intro X hP hw hK hc k ak s σ H E I hf st hg
  subst hP hw hK
  obtain⟨xs,ys,hq,hr,he⟩:=hg
  obtain⟨bO,rv,p1,_⟩:=I.tuple hq
  obtain⟨jts,u_,p2,_⟩:=I.tuple hr
  obtain⟨h1,h2,⟨c1,c2,h3⟩,h4,h5⟩:=st
  have l1:=rv.length
  have l2:=u_.length
  refine LJ (I.ok.hd hc) D h1 h2 h3 h4 h5 (show s.heap.IsTuple a bO.toArray from p1) (show s.heap.IsTuple b jts.toArray from p2) (by
   rcases he with q|q
   ·exact .inl (by simp;omega)
   ·exact .inr (by simp;omega)) fun g kp=>⟨rfl,?_⟩
  exact I.turnedL (ch:=[z,O,i,j]) (t':=s.toks) (fun c o hb q=>by
   have hn:c≠z/\c≠O/\c≠i/\c≠j:=by simpa using hb
   exact kp c o hn.1 hn.2.1 hn.2.2.1 hn.2.2.2 q) fun c hb=>hf c (by
   have q:c=z\/c=O\/c=i\/c=j:=by simpa using hb
   rcases q with rfl|rfl|rfl|rfl<;>simp)
 self:=fun A k s Q E st h=>wpAny_pyIter_zip st.1 h
def Vr(K:Frag)(ta:TA):TI:=fun σ H R=>ta σ H fun vs H1=>∃a b,vs=[.ref a,.ref b]/\(∃xs,gz K H1 a xs)/\(∃ys,gz K H1 b ys)/\R (V5 K a b) H1
theorem LN{a b:Expr}{ta:TA}{p pos tp:Pos}{xL:List Expr}{kk:Nat}(hm:X.mg "zip"=none)(ha:QA X [a,b] ta)(hg:Gl X "zip":=by rfl)(hs:starEach [a,b] X.env=(false,eval a X.env)::starEach [b] X.env:=by rfl)
  (u8:(backTo pos (starEach [b] X.env)).any (·.1)=false:=by rfl):QI X (.Tuple xL kk tp) (.Call (.Name "zip" p) [a,b] [] pos) (Vr X.K ta):=⟨by
 intro ak s σ H R I h
 refine Call_ (p7 I hg hm boot_zip (dU (ky (ha.h pos ak s σ H _ I h) fun us s1 kt1 ⟨vs,H1,I1,r1,q1⟩=>?_) hs u8))
 obtain⟨t,t',e,⟨xs,hq⟩,⟨ys,hr⟩,q⟩:=q1
 subst e
 cases r1 with
 |cons x1 r1=>cases r1 with
  |cons x2 r1=>
   cases r1
   cases x1
   cases x2
   obtain⟨bO,rv,p1,_⟩:=I1.tuple hq
   obtain⟨jts,u_,p2,_⟩:=I1.tuple hr
   have lt1:t<s1.heap.objs.size:=by obtain⟨_,e,_⟩:=(show s1.heap.IsTuple t bO.toArray from p1);exact aJ e
   have lt2:t'<s1.heap.objs.size:=by obtain⟨_,e,_⟩:=(show s1.heap.IsTuple t' jts.toArray from p2);exact aJ e
   refine LK (show s1.heap.IsTuple t bO.toArray from p1) (show s1.heap.IsTuple t' jts.toArray from p2) fun g e1 e2 e3 e4 e5 kp=>?_
   refine wpAny_pyIter_zip e1 ?_
   refine⟨s1.heap.objs.size+4,[s1.heap.objs.size+4,s1.heap.objs.size+2,s1.heap.objs.size+3,s1.heap.objs.size,s1.heap.objs.size+1],_,_,H1,rfl,I1.kept (t':=s1.toks) kp,LM (zipApart_new lt1 lt2),⟨e1,e2,⟨_,_,e3⟩,e4,e5⟩,fun c hb=>?_,q⟩
   have hc:s1.heap.objs.size<=c:=by
    have z:c=s1.heap.objs.size+4\/c=s1.heap.objs.size+2\/c=s1.heap.objs.size+3\/c=s1.heap.objs.size\/c=s1.heap.objs.size+1:=by simpa using hb
    rcases z with rfl|rfl|rfl|rfl|rfl<;>simp
   exact I1.fpOk hc (I1.hok.fresh hc)⟩
noncomputable def sg:List W->List W->List W
 |x::xs,y::ys=>.tup [x,y]::sg xs ys
 |_,_=>[]
theorem wX:∀{xs ys:List W} {i:Nat} {w:W},(sg xs ys)[i]?=some w->∃x y,xs[i]?=some x/\ys[i]?=some y/\w=.tup [x,y]
 |x::xs,y::ys,0,w,h=>by simp[sg]at h;exact⟨x,y,rfl,rfl,h.symm⟩
 |x::xs,y::ys,i+1,w,h=>by simp[sg]at h;simpa using wX h
 |[],_,i,w,h=>by simp[sg]at h
 |_::_,[],i,w,h=>by simp[sg]at h
theorem wY:∀(xs ys:List W),(sg xs ys).length=min xs.length ys.length
 |x::xs,y::ys=>by simp[sg,wY xs ys]
 |[],_=>by simp[sg]
 |_::_,[]=>by simp[sg]
section
variable{a b:Expr}{fs:FA}
def zV(fs:FA):FI:=fun ρ st=>(fs ρ st).bind fun ws st=>match ws with
 |[.tup xs,.tup ys]=>.ok (sg xs ys,none) st
 |_=>.bad
theorem LO{xL:List Expr}{kk:Nat}{tp:Pos}(hm:X.mg "zip"=none)(ha:SA X [a,b] fs)(hg:Gl X "zip":=by rfl)(hs:starEach [a,b] X.env=(false,eval a X.env)::starEach [b] X.env:=by rfl)(ou:(backTo pos (starEach [b] X.env)).any (·.1)=false:=by rfl) :
  SI X (.Tuple xL kk tp) (.Call (.Name "zip" p) [a,b] [] pos) (zV fs):=⟨(LN hm ⟨ha.h⟩ hg hs ou).h.imp fun σ H R h=>by
 walk_at "2"
 walk_at "1"
 split at h1
 ·rename_i zs ws
  obtain⟨y,ys,rfl,ry,r1⟩:=q1.consE
  obtain⟨w,rfl,u_⟩:=r1.one
  obtain⟨t,vs,rfl,hS,r⟩:=ry.tupE
  obtain⟨t',EF,rfl,hS',r'⟩:=u_.tupE
  refine⟨t,t',rfl,⟨vs,hS⟩,⟨EF,hS'⟩,h1 μ1 _ H1 (aq _) fF.refl l1.sto fun i μ' bh H' pp xx S _=>⟨fun w hw=>?_,fun hl=>⟨vs,EF,xx _ _ hS,xx _ _ hS',by rw[wY]at hl;rw[<- r.len,<- r'.len];omega⟩⟩⟩
  obtain⟨x,y,hx,hy,rfl⟩:=wX hw
  have m1:=r.mono pp xx
  have m2:=r'.mono pp xx
  obtain⟨v1,g1,g2⟩:=m1.get hx
  obtain⟨v2,g3,g4⟩:=m2.get hy
  refine⟨⟨vs,EF,v1,v2,xx _ _ hS,xx _ _ hS',g1,g3⟩,fun z H'' hz=>?_⟩
  obtain⟨q,hq,rfl,hH⟩:=hz
  have e:=hH vs EF v1 v2 (xx _ _ hS) (xx _ _ hS') g1 g3
  subst e
  have ex:=gz.same (K:=X.K) (cU hq (.tup [v1,v2]))
  exact⟨ex,S.same (cU hq _),.tupI gz.new (.consI (g2.mono (aq _) ex) (.consI (g4.mono (aq _) ex) .nilI))⟩
 ·exact h1.elim⟩
end
open Builtin.Str (tooLong)
section
variable{w:World}
end
section
end
section
end
end L2
namespace L2
open PySem PySem.Spec PyProof.Rows
section
end
end L2
namespace L2
open PySem PySem.Spec PyProof.Rows
end L2
namespace L2
open PySem PySem.Spec PyProof.Rows
noncomputable abbrev Sw:=List W×List (Nat×List W)
abbrev Wr:=cW->List au->R Sw
section
variable{fi:Wr}{f:FG}{m:Nat}
end
section
variable{a b:Expr}{fs:FA}
end
end L2
namespace L2
open PySem PySem.Spec PyProof.Rows
section
def yZ(ws:List W)(st:List au):R W:=match ws with
 |[.str [c]]=>if 48<=c/\c<=51 then .ok (.int (c-48:Nat)) st else .bad
 |_=>Gf ws st
theorem DN:qf X (.type "int") yZ:=⟨fun ak s σ H vs us Q I rv zq=>by
 obtain⟨μ,st,ws,S,r,q⟩:=zq
 unfold yZ at q
 split at q
 ·rename_i c
  split at q
  ·rename_i hc
   obtain⟨y,rfl,ry⟩:=r.one
   have:=ry.strE;subst this
   obtain⟨k,rfl⟩:∃k,c=48+k:=⟨c-48,by omega⟩
   refine OM.h ak s σ H _ us Q I rv ⟨k,rfl,by omega,?_⟩
   rw[show 48+k-48=k by omega]at q
   exact q μ _ H (aq _) fF.refl S .int
  ·exact q.elim
 ·exact MA.h ak s σ H _ us Q I rv ⟨μ,st,_,S,r,q⟩,fun ws st=>by
 unfold yZ
 split
 ·split<;>trivial
 ·exact(MA (X:=X)).n _ _⟩
end
end L2
namespace L2
open PySem PySem.Spec PyProof.Rows
section
variable{wi:TI}{g:TG}{te:Cx->TE}
noncomputable def noB(sn:List (Str×NameKind)):Bool:=sn.all fun x=>!(x.2==.cell)&&!(x.2==.free)&&(!(x.2==.local)||sn.lookup x.1==some .local)
end
section
variable{f:FG}
end
end L2
namespace L2
open PySem PySem.Spec PyProof.Rows
abbrev dV(hG:List (DK×W))(vs:List V):List (v_×V):=(hG.map fun p=>p.1.key).zip vs
section
end
section
variable{a b d i:Expr}{fb fc fi:FE}{fs:FA}
end
end L2
namespace L2
open PySem PySem.Spec PyProof.Rows
section
variable{y:Str}{a b:Expr}{fs:FA}
end
inductive DefIn(K:Frag)(x:Str)(st:Stmt):Prop
 |mk {ad:Addr} {od an:Option Addr} {sl:Array (Option Value)} {oc kV dc pm cd ct:Value} (a:nsIn K mainGlobals x=some (some (.ref ad)))
   (l:K.lookup ad=some ⟨oc,od,.func (fnOf x x (iW st) (hU st) (aO st) .none kV dc pm an cd ct),sl⟩) (c:codeIn K cd x=true) (k:keepIn K (.ref ad)=true):DefIn K x st
theorem DefIn.fn{st:Stmt}(d:DefIn K x st)(X:K.In h)(G:h.Ns mainGlobals mg):∃f fd,iX K x x st f fd/\mg x=some (.ref f):=by
 obtain⟨a,l,c,k⟩:=d
 exact⟨_,_,zE (st:=st) l c k,mg_of X G a⟩
theorem Sx{l:List Value}(h:l.length=n+1):∃a t,l=a::t/\t.length=n:=by
 cases l with
 |nil=>cases h
 |cons a t=>exact⟨a,t,rfl,Nat.succ.inj h⟩
theorem UA{l:List Value}(h:l.length=1):∃a,l=[a]:=ia.mp h
theorem UB{l:List Value}(h:l.length=2):∃a b,l=[a,b]:=by obtain⟨a,t,rfl,k⟩:=Sx h;obtain⟨b,rfl⟩:=UA k;exact⟨a,b,rfl⟩
theorem UC{l:List Value}(h:l.length=3):∃a b c,l=[a,b,c]:=by obtain⟨a,t,rfl,k⟩:=Sx h;obtain⟨b,c,rfl⟩:=UB k;exact⟨a,b,c,rfl⟩
theorem UD{l:List Value}(h:l.length=4):∃a b c d,l=[a,b,c,d]:=by obtain⟨a,t,rfl,k⟩:=Sx h;obtain⟨b,c,d,rfl⟩:=UC k;exact⟨a,b,c,d,rfl⟩
theorem UE{l:List Value}(h:l.length=5):∃a b c d e,l=[a,b,c,d,e]:=by obtain⟨a,t,rfl,k⟩:=Sx h;obtain⟨b,c,d,e,rfl⟩:=UD k;exact⟨a,b,c,d,e,rfl⟩
theorem Vs{l:List Value}(h:l.length=6):∃a b c d e f,l=[a,b,c,d,e,f]:=by obtain⟨a,t,rfl,k⟩:=Sx h;obtain⟨b,c,d,e,f,rfl⟩:=UE k;exact⟨a,b,c,d,e,f,rfl⟩
section
variable{w:World}{st:Stmt}{f:Addr}
theorem cP(F:iX K x x st f fd)(hm:mg x=some (.ref f))(ok:c7 P w K mg base (iK P w) k f fd ps (iZ K mg n G))(hn:ps.length=n:=by rfl)
  (hb:∀(kV um pm:Value) (an:Option Addr) (fD ct:Value) (us:List Value),us.length=ps.length->bindArgs (fnOf x x (iW st) (hU st) (aO st) .none kV um pm an fD ct) ⟨us,[]⟩=pure (ps.zip us):=by(intro _ _ _ _ _ _ _ q;first|(obtain⟨_,rfl⟩:=UA q;rfl)|(obtain⟨_,_,rfl⟩:=UB q;rfl)|(obtain⟨_,_,_,rfl⟩:=UC q;rfl)|(obtain⟨_,_,_,_,rfl⟩:=UD q;rfl)|(obtain⟨_,_,_,_,_,rfl⟩:=UE q;rfl)|(obtain⟨_,_,_,_,_,_,rfl⟩:=Vs q;rfl))):bR P w K mg base k x n G:=zP F hm hn hb ok
end
section
variable{sp:Scope}
theorem ku{N:List Str}(a:sp.kind=.function:=by rfl)(b:sp.isCoroutine=false:=by rfl)(c:sp.isGenerator=false:=by rfl)(d:N.Nodup:=by decide +kernel)(f:N.take ps.length=ps:=by rfl)(g:∀x∈ps,sp.names.lookup x=some .local\/sp.names.lookup x=some .cell:=by decide +kernel)(h:∀y∈sp.names,y.2≠.free:=by decide +kernel):ba N ps sp:=⟨a,b,c,d,f,g,h⟩
theorem sS(i:Nat){i_:Pos}(sc:ba X.N ps sp)(he:SE X e fe)(hi:X.N[i]?=some x:=by rfl)(hx:Ky X.env.scope x:=by first|exact .inl rfl|exact .inr rfl)(hs:swapsWith e (some (.Name x i_)) pos.line X.env=pure false:=by rfl)(hf:X.fn x=true\/X.env.scope.names.lookup x=some .local:=by first|exact .inl rfl|exact .inr rfl|assumption) :
  SS X (.Assign [.Name x i_] e pos) (bd i fe):=OY sc.nd hi hx he hs hf
theorem sG(i:Nat)(sc:ba X.N ps sp)(hi:X.N[i]?=some x:=by rfl)(hx:Ky X.env.scope x:=by first|exact .inl rfl|exact .inr rfl)(hf:X.fn x=true\/X.env.scope.names.lookup x=some .local:=by first|exact .inl rfl|exact .inr rfl|assumption):SG X (.Name x pos) (kJ i):=E2 sc.nd hi hx hf
theorem sC{cl:List (Str×Addr)}{C s0 H0 fp}(i:Nat)(hN:nm.Nodup:=by decide +kernel)(hi:nm[i]?=some x:=by rfl)(hx:Ky #[10].env.scope x:=by first|exact .inl rfl|exact .inr rfl)(hf:#[10].fn x=true\/#[10].env.scope.names.lookup x=some .local:=by first|exact .inl rfl|exact .inr rfl|assumption) :
  SG #[10] (.Name x pos) (kJ i):=E2 (X:=d6 X nm scope cl C s0 H0 fp) hN hi hx hf
end
section
variable{f:FG}{m:Nat}
end
section
end
section
end
section
variable{f:Expr}{fk fd:FE}
end
section
variable{a:Expr}
end
section
end
section
variable{w:World}
variable{K:Type}[DecidableEq K]{WF:KeyKind prog w K}
end
section
end
end L2
namespace L2
open PySem PySem.Spec PyProof.Rows
structure Pe(K:Frag)(mg:Str->Option Value)(c:Str)(fs:List Str):Prop where
 ex:∃C,mg c=some (.ref C)/\Cls K C/\∀f∈fs,rZ K C f
noncomputable def nS(st:List au):W->Option (Nat×Str×List (Str×W))
 |.loc n=>(match st[n]? with
  |some (.obj c fs)=>some (n,c,fs)
  |_=>none)
 |_=>none
noncomputable def ya(f:Str)(v:W):List (Str×W)->List (Str×W)
 |[]=>[(f,v)]
 |(g,x)::r=>if g=f then(g,v)::r else(g,x)::ya f v r
noncomputable abbrev fV(fs:List (Str×W))(vs:List V):List (Str×V):=(fs.map fun p=>p.1).zip vs
section
theorem tq(S:jD K mg μ st H){x:W}{v:V}{c:Str}{fs:List (Str×W)}(h:nS st x=some (n,c,fs))(r:bN K μ H x v) :
  x=.loc n/\st[n]?=some (.obj c fs)/\∃a C dx vs,μ[n]?=some a/\v=.ref a/\mg c=some (.ref C)/\H a=some (.ins C dx (fV fs vs))/\RelWs K μ H (fs.map fun p=>p.2) vs:=by
 cases x with
 |loc m=>
  simp only[nS]at h
  cases e:st[m]? with
  |none=>rw[e]at h;cases h
  |some cc=>
   rw[e]at h
   cases cc with
   |obj c' z=>
    cases h
    obtain⟨a,g,C,dx,vs,m1,k,rr⟩:=S.get e
    obtain⟨b,f,rfl⟩:=r.locE
    rw[g]at f;cases f
    exact⟨rfl,e,a,C,dx,vs,g,rfl,m1,k,rr⟩
   |_=>cases h
 |_=>cases h
theorem zW(f:Str):∀{fs:List (Str×W)} {vs:List V},RelWs K μ H (fs.map fun p=>p.2) vs->(∀w,fs.lookup f=some w->∃v,(fV fs vs).lookup f=some v/\bN K μ H w v)/\(fs.lookup f=none->(fV fs vs).lookup f=none)
 |[],vs,r=>⟨fun w h=>(by cases h),fun _=>rfl⟩
 |(g,x)::fs,vs,r=>by
  obtain⟨y,ys,rfl,a,b⟩:=RelWs.consE r
  have ih:=zW f (fs:=fs) b
  have e1:List.lookup f ((g,x)::fs)=(match f==g with|true=>some x|false=>fs.lookup f):=rfl
  have e2:List.lookup f (fV ((g,x)::fs) (y::ys))=(match f==g with|true=>some y|false=>(fV fs ys).lookup f):=rfl
  rw[e1,e2]
  cases f==g with
  |true=>exact⟨fun w h=>(by cases h;exact⟨y,rfl,a⟩),fun h=>(by cases h)⟩
  |false=>exact ih
theorem H_(f:Str){w:W}{v:V}(u_:bN K μ H w v):∀{fs:List (Str×W)} {vs:List V},RelWs K μ H (fs.map fun p=>p.2) vs->∃us,pU f v (fV fs vs)=fV (ya f w fs) us/\RelWs K μ H ((ya f w fs).map fun p=>p.2) us
 |[],vs,r=>⟨[v],rfl,.consI u_ .nilI⟩
 |(g,x)::fs,vs,r=>by
  obtain⟨y,ys,rfl,a,b⟩:=RelWs.consE r
  obtain⟨us,e,q⟩:=H_ f u_ (fs:=fs) b
  show ∃us,(if g=f then(g,v)::fV fs ys else(g,y)::pU f v (fV fs ys))=_/\_
  by_cases h:g=f
  ·refine⟨v::ys,?_,?_⟩
   ·rw[aK h];show _=fV (if g=f then(g,w)::fs else(g,x)::ya f w fs) _;rw[aK h];rfl
   ·show RelWs K μ H ((if g=f then(g,w)::fs else(g,x)::ya f w fs).map fun p=>p.2) _
    rw[aK h];exact .consI u_ b
  ·refine⟨y::us,?_,?_⟩
   ·rw[aU h];show _=fV (if g=f then(g,w)::fs else(g,x)::ya f w fs) _;rw[aU h,e];rfl
   ·show RelWs K μ H ((if g=f then(g,w)::fs else(g,x)::ya f w fs).map fun p=>p.2) _
    rw[aU h];exact .consI a q
theorem gz.butI{l dx:Addr}{xs:List (Str×V)}(e:Ve l H H')(hl:H l=some (.ins C dx xs)):fF K H H':=by
 have Fx:∀{p:Addr} {o:HO},H p=some o->(∀c d zs,o≠.ins c d zs)->p≠l:=fun{p o} q hn z=>by subst z;rw[hl]at q;cases q;exact hn _ _ _ rfl
 refine⟨fun p ys h=>?_,fun b o u h=>e _ _ (Fx h (fun _ _ _ z=>by cases z)) h⟩
 rcases h with(h|⟨o,h⟩)|h
 ·exact .inl (.inl (e _ _ (Fx h (fun _ _ _ z=>by cases z)) h))
 ·exact .inl (.inr ⟨o,e _ _ (Fx h (fun _ _ _ z=>by cases z)) h⟩)
 ·exact .inr h
theorem jD.setI(S:jD K mg μ st H){a dx:Addr}{c:Str}{fs Uc:List (Str×W)}{xs:List (Str×V)}{us:List V}(hn:st[n]?=some (.obj c fs))(hm:μ[n]?=some a)(hc:mg c=some (.ref C))(ha:H a=some (.ins C dx xs))(hr:RelWs K μ H (Uc.map fun p=>p.2) us) :
  jD K mg μ (st.set n (.obj c Uc)) (fW H a (.ins C dx (fV Uc us))):=
 S.setG hn rfl hm ha (fun _ _ z=>by cases z) (fun _ z=>by cases z) (gz.butI mW ha) rfl ⟨C,dx,us,hc,ib,hr.mono (aq _) (gz.butI mW ha)⟩
end
section
variable{a value:Expr}{c f m:Str}{fl:List Str}{fs:FA}
def jh(c f:Str)(fa:FE):FE:=fun ρ st=>(fa ρ st).bind fun x st=>match nS st x with
 |some (_,c',fs)=>if c'=c then uG (fs.lookup f) fun w=>.ok w st else .bad
 |none=>.bad
theorem gP(hC:Pe X.K X.mg c fl)(ha:SE X a fa)(hf:f∈fl:=by decide)(hb:attributeBase a f X.env (eval a X.env)=eval a X.env:=by rfl):SE X (.Attribute a f pos) (jh c f fa):=⟨(Ot ha.h hb).imp fun σ H Q h=>by
 walk_at "2"
 walk_at "1"
 cases e0:nS st1 x with
 |none=>rw[e0]at h1;exact h1.elim
 |some nk=>
  obtain⟨n,c',fs⟩:=nk
  rw[e0]at h1
  simp only at h1
  obtain⟨rfl,hn,a,C,dx,vs,hm,rfl,hc,hI,rr⟩:=tq l1.sto e0 q1
  by_cases z:c'=c
  ·rw[aK z]at h1
   subst z
   obtain⟨C',hc',cl,na⟩:=hC.ex
   rw[hc]at hc';cases hc'
   unfold uG at h1
   split at h1
   ·rename_i w ew
    obtain⟨v,ev,rv⟩:=(zW f rr).1 w ew
    exact⟨a,C,dx,_,v,rfl,hI,cl,na f hf,ev,h1 μ1 v H1 (aq _) fF.refl l1.sto rv⟩
   ·exact h1.elim
  ·rw[aU z]at h1;exact h1.elim⟩
def qi(c f:Str)(fo fe:FE):FS:=fun ρ st=>(fe ρ st).stmt ρ fun y st=>(fo ρ st).stmt ρ fun x st=>match nS st x with
 |some (n,c',fs)=>if c'=c/\fs.length<900 then .nx ρ (st.set n (.obj c (ya f y fs)))else .bad
 |none=>.bad
theorem lH(hC:Pe X.K X.mg c fl)(ho:SE X o fo)(he:SE X value fe)(hf:f∈fl:=by decide)(hs:swapsWith value (some (.Attribute o f i_)) pos.line X.env=pure false:=by rfl):SS X (.Assign [.Attribute o f i_] value pos) (qi c f fo fe):=⟨(Ou ho.h he.h hs).imp fun D σ H h=>by
 walk_at "2"
 refine⟨μ,ρ,st,l,RK.stmt h l fun μ1 st1 y yv H1 p1 x1 l1 q1 h1=>⟨μ1,ρ,st1,l1,RK.stmt h1 l1 fun μ2 de x xv H2 p2 x2 l2 q2 h2=>?_⟩⟩
 cases e0:nS de x with
 |none=>rw[e0]at h2;exact h2.elim
 |some nk=>
  obtain⟨n,c',fs⟩:=nk
  rw[e0]at h2
  simp only at h2
  obtain⟨rfl,hn,a,C,dx,vs,hm,rfl,hc,hI,rr⟩:=tq l2.sto e0 q2
  by_cases z:c'=c/\fs.length<900
  ·rw[aK z]at h2
   obtain⟨z,hz⟩:=z
   subst z
   obtain⟨C',hc',cl,na⟩:=hC.ex
   rw[hc]at hc';cases hc'
   obtain⟨us,e1,r1⟩:=H_ f (q1.mono p2 x2) rr
   have gC:(fV fs vs).length<1000:=by
    unfold fV
    rw[List.length_zip,aE]
    omega
   refine⟨a,C,dx,_,rfl,hI,cl,na f hf,gC,?_⟩
   rw[e1]
   exact h2 μ2 σ _ (aq _) (gz.butI mW hI) (l2.to (aq _) (gz.butI mW hI) (l2.sto.setI hn hm hc hI r1))
  ·rw[aU z]at h2;exact h2.elim⟩
structure iz(P:Program)(w:World)(K:Frag)(mg:Str->Option Value)(base:Heap)(k:Nat)(c m:Str)(n:Nat)(F:List W->List au->R W):Prop where
 ex:∃(C g:Addr) (fd:FuncData) (ps:List Str),mg c=some (.ref C)/\Cls K C/\RB K C m g/\ps.length=n/\rh K fd ps []/\c7 P w K mg base (iK P w) k g fd ps (iZ K mg n F)
theorem iz.mono{w:World}(h:iz P w K mg base j c m n F)(hj:j<=k):iz P w K mg base k c m n F:=by
 obtain⟨C,g,fd,ps,a,b,b2,c,d,e⟩:=h.ex
 exact⟨C,g,fd,ps,a,b,b2,c,d,e.mono hj⟩
def ig(c m:Str)(n:Nat)(F:List W->List au->R W)(fo:FE)(fs:FA):FE:=fun ρ st=>(fo ρ st).bind fun x st=>match nS st x with
 |some (_,c',fl)=>if c'=c/\fl.lookup m=none then(fs ρ st).bind fun ws st=>if ws.length+1=n then F (x::ws) st else .bad else .bad
 |none=>.bad
theorem kK{k':Nat}{pl:Sem Bool}(Fn:iz X.prog X.w X.K X.mg X.base k c m n F)(hr:jX k' X.A)(hk:k<=k')(ho:SE X o fo)(ha:SA X (e::es) fs)
  (oZ:starEach (e::es) X.env=(false,eval e X.env)::starEach es X.env:=by rfl) (ou:(backTo pos (starEach es X.env)).any (·.1)=false:=by rfl)
  (ht:eval (.Call (.Attribute o m gT) (e::es) [] pos) X.env=(do
   let ov <- eval o X.env
   standAt gT.atName
   let (f,fst') <- holding [ov] (getMethod ov m pl)
   callWith pos f fst' (backTo pos (starEach (e::es) X.env)) (backToKw pos (keywordEach [] X.env))):=by rfl):SE X (.Call (.Attribute o m gT) (e::es) [] pos) (ig c m n F fo fs):=⟨by
 intro ak s σ H Q I h
 obtain⟨C,g,fd,ps,hc,cl,hm,hn,hb,Fo⟩:=(Fn.mono hk).ex
 walk_at "2"
 have h':tE X fo σ H fun x H1=>∃(a dx:Addr) (xs:List (Str×V)),x=.ref a/\H1 a=some (.ins C dx xs)/\xs.lookup m=none/\R4 X fs σ H1 fun vs H2=>∃μ2 de ws,Rl X μ2 ρ de σ H2/\RelWs X.K μ2 H2 ws (.ref a::vs)/\ws.length=n/\RK X (uz X) μ2 σ H2 Q (F ws de):=by
  walk_at "1"
  cases e0:nS st1 x with
  |none=>rw[e0]at h1;exact h1.elim
  |some nk=>
   obtain⟨i,c',fl⟩:=nk
   rw[e0]at h1
   simp only at h1
   obtain⟨rfl,hi,a,C',dx,vs,hma,rfl,hc',hI,rr⟩:=tq l1.sto e0 q1
   by_cases z:c'=c/\fl.lookup m=none
   ·rw[aK z]at h1
    obtain⟨z,hz⟩:=z
    subst z
    rw[hc]at hc';cases hc'
    refine⟨a,dx,_,rfl,hI,(zW m rr).2 hz,μ1,ρ,st1,l1,RK.bind h1 l1 fun μ2 de ws vs2 H2 p2 x2 l2 q2 h2=>?_⟩
    by_cases y:ws.length+1=n
    ·rw[aK y]at h2
     exact⟨μ2,de,.loc i::ws,l2,.consI (q1.mono p2 x2) q2,y,h2⟩
    ·rw[aU y]at h2;exact h2.elim
   ·rw[aU z]at h1;exact h1.elim
 refine PySem.W.methodCall_KW (pl:=pl) (ky (ho.h ak s σ H _ I h') fun u s1 kt1 ⟨x,H1,I1,rx,a,dx,xs,ex,ea,lk,q⟩=>?_) ht
 subst ex
 obtain rfl:u=Value.ref a:=rx
 refine we I1 ea cl hm lk ?_
 refine PySem.W.callWith_K (first:=[.ref a]) (h₀:=X.base) I.ok.mod.kin hm.kp (ky (ha.h pos ak s1 σ H1 _ I1 q) fun us s2 kt2 ⟨vs,H2,I2,r,μ2,de,ws,l2,r2,y,q2⟩=>⟨I2.kIn,?_⟩) oZ ou
 exact HM (us:=.ref a::us) (vs:=.ref a::vs) Fo hn hr hb I2 l2.sto r2 (.cons rfl r) y q2⟩
theorem qU{k':Nat}(Fn:iz X.prog X.w X.K X.mg X.base k c m 1 F)(hr:jX k' X.A)(hk:k<=k')(ho:SE X o fo)
  (ht:eval (.Call (.Attribute o m gT) [] [] pos) X.env=(do
   let ov <- eval o X.env
   standAt gT.atName
   let (f,fst') <- holding [ov] (getMethod ov m pl)
   callWith pos f fst' (backTo pos (starEach [] X.env)) (backToKw pos (keywordEach [] X.env))):=by rfl):SE X (.Call (.Attribute o m gT) [] [] pos) (ig c m 1 F fo aD):=⟨by
 intro ak s σ H Q I h
 obtain⟨C,g,fd,ps,hc,cl,hm,hn,hb,Fo⟩:=(Fn.mono hk).ex
 walk_at "2"
 have h':tE X fo σ H fun x H1=>∃(a dx:Addr) (xs:List (Str×V)),x=.ref a/\H1 a=some (.ins C dx xs)/\xs.lookup m=none/\∃μ2 de ws,Rl X μ2 ρ de σ H1/\RelWs X.K μ2 H1 ws [.ref a]/\ws.length=1/\RK X (uz X) μ2 σ H1 Q (F ws de):=by
  walk_at "1"
  cases e0:nS st1 x with
  |none=>rw[e0]at h1;exact h1.elim
  |some nk=>
   obtain⟨i,c',fl⟩:=nk
   rw[e0]at h1
   simp only at h1
   obtain⟨rfl,hi,a,C',dx,vs,hma,rfl,hc',hI,rr⟩:=tq l1.sto e0 q1
   by_cases z:c'=c/\fl.lookup m=none
   ·rw[aK z]at h1
    obtain⟨z,hz⟩:=z
    subst z
    rw[hc]at hc';cases hc'
    exact⟨a,dx,_,rfl,hI,(zW m rr).2 hz,μ1,st1,[.loc i],l1,.consI q1 .nilI,rfl,h1⟩
   ·rw[aU z]at h1;exact h1.elim
 refine PySem.W.methodCall_KW (pl:=pl) (ky (ho.h ak s σ H _ I h') fun u s1 kt1 ⟨x,H1,I1,rx,a,dx,xs,ex,ea,lk,μ2,de,ws,l2,r2,y,q2⟩=>?_) ht
 subst ex
 obtain rfl:u=Value.ref a:=rx
 refine we I1 ea cl hm lk ?_
 exact PySem.W.callWith_K0 (first:=[.ref a]) I1.kIn hm.kp (HM (us:=[.ref a]) (vs:=[.ref a]) Fo hn hr hb I1 l2.sto r2 (.cons rfl .nil) y q2)⟩
structure LP(P:Program)(w:World)(K:Frag)(mg:Str->Option Value)(base:Heap)(k:Nat)(c:Str)(n:Nat)(F:List W->List au->R W):Prop where
 ex:∃(C g:Addr) (fd:FuncData) (ps:List Str),mg c=some (.ref C)/\Mk K C g/\ps.length=n/\rh K fd ps []/\c7 P w K mg base (iK P w) k g fd ps (iZ K mg n F)
def BG(c:Str)(n:Nat)(F:List W->List au->R W)(fs:FA):FE:=fun ρ st=>(fs ρ st).bind fun ws st=>if ws.length+1=n then(match F (.loc st.length::ws) (st++[.obj c []])with
  |.ok .non bh=>.ok (.loc st.length) bh
  |_=>.bad)else .bad
theorem Ia{k':Nat}(Fn:LP X.prog X.w X.K X.mg X.base k c n F)(hr:jX k' X.A)(hk:k+1<=k')(ha:SA X (e::es) fs)(hg:Gl X c:=by rfl)(Kk:(c==("__debug__":Str))=false:=by decide)
  (he:starEach (e::es) X.env=(false,eval e X.env)::starEach es X.env:=by rfl) (ou:(backTo pos (starEach es X.env)).any (·.1)=false:=by rfl):SE X (.Call (.Name c p) (e::es) [] pos) (BG c n F fs):=⟨by
 intro ak s σ H Q I h
 obtain⟨C,g,fd,ps,hc,M,hn,hb,Fo⟩:=Fn.ex
 refine fR (sQ I hg hc ?_ Kk)
 walk_at "2"
 have h':R4 X fs σ H fun vs H1=>∃μ1 st1 ws de,Rl X μ1 ρ st1 σ H1/\RelWs X.K μ1 H1 ws vs/\ws.length+1=n/\F (.loc st1.length::ws) (st1++[.obj c []])=.ok .non de/\RK X (uz X) μ1 σ H1 Q (.ok (.loc st1.length) de):=by
  walk_at "1"
  by_cases y:x.length+1=n
  ·rw[aK y]at h1
   split at h1
   ·rename_i de e2
    exact⟨μ1,st1,x,de,l1,q1,y,e2,h1⟩
   ·exact h1.elim
  ·rw[aU y]at h1;exact h1.elim
 refine PySem.W.callWith_K (h₀:=X.base) I.ok.mod.kin M.kp (ky (ha.h pos ak s σ H _ I h') fun us s1 kt1 ⟨vs,H1,I1,r,μ1,st1,ws,de,l1,r1,y,e2,q⟩=>⟨I1.kIn,?_⟩) he ou
 refine G' (dvs:=[]) (ds:=[]) (E:=fun _ _ _=>False) M Fo (hr.mono hk) hb .nil (fun ak σ H s e s' I ht hq=>by obtain⟨_,_,_,_,_,_,z,_⟩:=hq;exact z.elim) I1 r fun x dx hx hdx Fx=>?_
 have hs1:vC H1 (fW H1 dx (.own x)):=cU hdx _
 have hx1:(fW H1 dx (.own x)) x=none:=by rw[cY (Ne.symm Fx)];exact hx
 have u8:vC (fW H1 dx (.own x)) (fW (fW H1 dx (.own x)) x (.ins C dx [])):=cU hx1 _
 have xt:fF X.K H1 (fW (fW H1 dx (.own x)) x (.ins C dx [])):=(gz.same hs1).trans (gz.same u8)
 have S2:jD X.K X.mg (μ1++[x]) (st1++[.obj c []]) (fW (fW H1 dx (.own x)) x (.ins C dx [])):=(l1.sto.same hs1).push (c:=.obj c []) hx1 ⟨C,dx,[],hc,ib,.nilI⟩
 have hmx:(μ1++[x])[st1.length]?=some x:=by rw[l1.sto.len];simp
 refine⟨by rw[a8,b6,<- r1.len];exact y,μ1++[x],.loc st1.length::ws,st1++[.obj c []],S2,.consI (.locI hmx) (by rw[a8];exact r1.mono (a_ _ _) xt),?_⟩
 rw[e2]
 intro μ' v H' pp xx S' rv
 exact⟨rv.nonE,q μ' (.ref x) H' ((a_ _ _).trans pp) (xt.trans xx) S' (.locI (L2.pre_get pp hmx))⟩⟩
end
noncomputable def i6:Stmt->List Stmt
 |.ClassDef _ _ _ b _ _ _ _ _ _ _=>b
 |_=>[]
inductive DefM(K:Frag)(C:Addr)(q m:Str)(st:Stmt):Prop
 |mk {ad:Addr} {od an:Option Addr} {sl:Array (Option Value)} {oc kV dc pm cd ct:Value} (a:findIn K (.ref C) m=some (some (.ref ad))) (i:isFn K (.ref ad)=true)
   (l:K.lookup ad=some ⟨oc,od,.func (fnOf m q (iW st) (hU st) (aO st) .none kV dc pm an cd ct),sl⟩) (c:codeIn K cd q=true) (k:keepIn K (.ref ad)=true):DefM K C q m st
section
variable{w:World}{c q m:Str}{st:Stmt}
theorem lI(d:DefM K C q m st)(hC:mg c=some (.ref C))(cl:Cls K C)(ok:∀{f:Addr} {fd:FuncData},iX K m q st f fd->c7 P w K mg base (iK P w) k f fd ps (iZ K mg n G))(hn:ps.length=n:=by rfl)
  (hb:∀(kV um pm:Value) (an:Option Addr) (fD ct:Value) (us:List Value),us.length=ps.length->bindArgs (fnOf m q (iW st) (hU st) (aO st) .none kV um pm an fD ct) ⟨us,[]⟩=pure (ps.zip us):=by(intro _ _ _ _ _ _ _ q;first|(obtain⟨_,rfl⟩:=UA q;rfl)|(obtain⟨_,_,rfl⟩:=UB q;rfl)|(obtain⟨_,_,_,rfl⟩:=UC q;rfl)|(obtain⟨_,_,_,_,rfl⟩:=UD q;rfl)|(obtain⟨_,_,_,_,_,rfl⟩:=UE q;rfl)|(obtain⟨_,_,_,_,_,_,rfl⟩:=Vs q;rfl))):iz P w K mg base k c m n G:=by
 obtain⟨a,i,l,cc,kk⟩:=d
 exact⟨C,_,_,ps,hC,cl,⟨a,i,kk⟩,hn,rh.all fun us hl=>hb _ _ _ _ _ _ us hl,ok (zE (st:=st) l cc kk)⟩
theorem Pf(d:DefM K C q "__init__" st)(hC:mg c=some (.ref C))(mk:makesIn K C=true)(kc:keepIn K (.ref C)=true)(ok:∀{f:Addr} {fd:FuncData},iX K "__init__" q st f fd->c7 P w K mg base (iK P w) k f fd ps (iZ K mg n G))(hn:ps.length=n:=by rfl)
  (hb:∀(kV um pm:Value) (an:Option Addr) (fD ct:Value) (us:List Value),us.length=ps.length->bindArgs (fnOf "__init__" q (iW st) (hU st) (aO st) .none kV um pm an fD ct) ⟨us,[]⟩=pure (ps.zip us):=by(intro _ _ _ _ _ _ _ q;first|(obtain⟨_,rfl⟩:=UA q;rfl)|(obtain⟨_,_,rfl⟩:=UB q;rfl)|(obtain⟨_,_,_,rfl⟩:=UC q;rfl)|(obtain⟨_,_,_,_,rfl⟩:=UD q;rfl)|(obtain⟨_,_,_,_,_,rfl⟩:=UE q;rfl)|(obtain⟨_,_,_,_,_,_,rfl⟩:=Vs q;rfl))):LP P w K mg base k c n G:=by
 obtain⟨a,i,l,cc,kk⟩:=d
 exact⟨C,_,_,ps,hC,⟨mk,a,i,kc⟩,hn,rh.all fun us hl=>hb _ _ _ _ _ _ us hl,ok (zE (st:=st) l cc kk)⟩
end
end L2
namespace L2
open PySem PySem.Spec PyProof.Rows
theorem iD(st x:List au)(k:Nat):(st++x)[st.length+k]?=x[k]?:=by rw[aS #[0]];congr 1;omega
theorem dR(st x:List au):(st++x)[st.length]?=x[0]?:=iD st x 0
theorem nT(st x:List au)(k:Nat)(c:au):(st++x).set (st.length+k) c=st++x.set k c:=by rw[p5 _ _ #[0]];congr 2;omega
theorem fY(st x:List au)(c:au):(st++x).set st.length c=st++x.set 0 c:=nT st x 0 c
theorem dJ{x:List au}{c:au}(h:st[n]?=some c):(st++x)[n]?=some c:=by
 rw[aR (ax.mp h).1];exact h
theorem DO(st:List au)(ws:List W):iM st st ws=st:=by unfold iM;split<;>simp
theorem uM{st x:List au}{ws:List W}(h:undWs st.length ws=true):iM st (st++x) ws=st:=by
 unfold iM
 rw[aK ⟨h,by simp,fun i hi=>.inl (aR hi)⟩]
 simp
theorem y0(h:undWs st.length ws=false):iM st bh ws=bh:=by
 unfold iM
 rw[aU fun k=>by have:=k.1;rw[h]at this;cases this]
theorem jt{N:Nat}{body:FS}{ws:List W}{w:W}(h:body #[12] st=.rt w bh):c9 N body ws st=.ok w (iM st bh [w]):=by
 unfold c9;rw[h]
theorem qV{body:FS}{w:W}(h:body #[12] st=.rt w st):c9 N body ws st=.ok w st:=by
 rw[jt h,DO]
theorem BH{body:FS}{x:List au}{w:W}(h:body #[12] st=.rt w (st++x))(hu:undWs st.length [w]=true):c9 N body ws st=.ok w st:=by
 rw[jt h,uM hu]
theorem Ib{body:FS}{x:List au}(h:body #[12] st=.rt (.loc (st.length+k)) (st++x)):c9 N body ws st=.ok (.loc (st.length+k)) (st++x):=by
 rw[jt h,y0 (by simp[undWs,W.und])]
theorem Ic{g g':FS}{ρ':cW}(h:g ρ st=.nx ρ' bh):aM g g' ρ st=g' ρ' bh:=by unfold aM;rw[h]
theorem E7{f:FG}{body:FS}{k:HJ}(h:fi ρ st=.ok k bh):mU fi f body ρ st=wI f body k.2 k.1 ρ bh:=by unfold mU;rw[h];rfl
theorem wZ{f:FG}{body:FS}{ck:Option (Nat×List W)}(I:Nat->cW->List au->Prop):∀{ws:List W} {ρ:cW} {st:List au} (i0:Nat),I i0 ρ st->(∀i ρ st,I i ρ st->m6 st ck) ->
  (∀i w ρ st,ws[i]?=some w->I (i0+i) ρ st->∃ρ' ρ2 de,f w ρ=some ρ'/\body ρ' st=.nx ρ2 de/\I (i0+i+1) ρ2 de) ->
  ∃ρ2 de,wI f body ck ws ρ st=.nx ρ2 de/\I (i0+ws.length) ρ2 de
 |[],ρ,st,i0,h0,hc,hs=>⟨ρ,st,by unfold wI;rw[aK (hc _ _ _ h0)],h0⟩
 |w::ws,ρ,st,i0,h0,hc,hs=>by
  obtain⟨ρ',ρ2,de,e1,e2,h1⟩:=hs 0 w ρ st rfl h0
  obtain⟨ρ3,nN,e3,h3⟩:=wZ I (ws:=ws) (ρ:=ρ2) (st:=de) (i0+1) h1 hc fun i w ρ st hw hI=>by
   obtain⟨a,b,c,d,e,g⟩:=hs (i+1) w ρ st (by simpa using hw) (by rw[show i0+(i+1)=i0+1+i by omega];exact hI)
   exact⟨a,b,c,d,e,by rw[show i0+1+i+1=i0+(i+1)+1 by omega];exact g⟩
  refine⟨ρ3,nN,?_,by rw[b6,show i0+(ws.length+1)=i0+1+ws.length by omega];exact h3⟩
  unfold wI
  rw[aK (hc _ _ _ h0),e1]
  simp only[e2]
  exact e3
theorem Gm{t:FT}{g:FS}(I:Nat->cW->List au->Prop):∀(n:Nat) {ρ:cW} {st:List au},I n ρ st ->
  (∀n ρ st,I n ρ st->t ρ st=.ok false st\/(t ρ st=.ok true st/\∃ρ2 de m,g ρ st=.nx ρ2 de/\m<n/\I m ρ2 de)) ->
  ∃m ρ2 de,oF t g ρ st=.nx ρ2 de/\I m ρ2 de/\t ρ2 de=.ok false de:=by
 intro n ρ st h hs
 have key:∀(k n:Nat) (ρ:cW) (st:List au),n<k->I n ρ st->∃m ρ2 de,eM t g k ρ st=.nx ρ2 de/\I m ρ2 de/\t ρ2 de=.ok false de:=by
  intro k
  induction k with
  |zero=>intro n _ _ h;exact absurd h (lV _)
  |succ k ih=>
   intro n ρ st hk hI
   rcases hs n ρ st hI with e|⟨e,ρ2,de,m,e2,hm,h2⟩
   ·exact⟨n,ρ,st,by unfold eM;rw[e];rfl,hI,e⟩
   ·obtain⟨m',ρ3,nN,e3,h3⟩:=ih m ρ2 de #[0] h2
    exact⟨m',ρ3,nN,by unfold eM;rw[e];simp only[R.stmt_ok,gG,e2];exact e3,h3⟩
 obtain⟨m,ρ2,de,e,h2⟩:=key (n+1) n ρ st (ce n) h
 exact⟨m,ρ2,de,yS e #[15],h2⟩
section
variable{ρ':cW}{de nN UH:List au}{fb fi:FE}{fs:FA}{u:FT}{x y z w v:W}{xs zs:List W}{m:Nat}{a b k:Bool}{g g':FS}
theorem kB(h:ρ[i]?=some (some w)):ag i ρ st=.ok w st:=by unfold ag;rw[h]
theorem bJ:eC w ρ st=.ok w st:=rfl
theorem bw{f:W->W->List au->R W}(h1:fa ρ st=.ok x st1)(h2:fb ρ st1=.ok y de)(h3:f x y de=.ok z nN):e2 f fa fb ρ st=.ok z nN:=by unfold e2;rw[h1];simp only[R.bind_ok];rw[h2];exact h3
theorem aQ:aD ρ st=.ok [] st:=rfl
theorem am(h1:fa ρ st=.ok x st1)(h2:fs ρ st1=.ok xs de):ah fa fs ρ st=.ok (x::xs) de:=by unfold ah;rw[h1];simp only[R.bind_ok];rw[h2];rfl
theorem Pg:R8 ls ρ st=.ok (ls.map W.str) st:=rfl
theorem eR(h1:fs ρ st=.ok ws st1)(h2:ws.length<=nQ):fK fs ρ st=.ok (.tup ws) st1:=by unfold fK;rw[h1];simp only[R.bind_ok,rq];rw[aK h2]
theorem qj(h1:fs ρ st=.ok ws st1)(h2:ws.length<=nQ):l8 fs ρ st=.ok (.loc st1.length) (st1++[.lst ws]):=by unfold l8;rw[h1];simp only[R.bind_ok,qc];rw[aK h2]
theorem cr(h1:fs ρ st=.ok ws st1)(h2:F ws st1=.ok w de):bK F fs ρ st=.ok w de:=by unfold bK;rw[h1];exact h2
theorem bV(h1:fs ρ st=.ok ws st1)(h2:F ws st1=.ok w de)(hn:ws.length=n):b8 n F fs ρ st=.ok w de:=by unfold b8;rw[h1];simp only[R.bind_ok];rw[aK hn];exact h2
theorem aY(h:fa ρ st=.ok (.bl k) st1):eP fa ρ st=.ok k st1:=by unfold eP;rw[h];rfl
theorem tt(h1:t ρ st=.ok true st1)(h2:u ρ st1=.ok k de):KA t u ρ st=.ok k de:=by unfold KA;rw[h1];exact h2
theorem zX(h1:t ρ st=.ok false st1):KA t u ρ st=.ok false st1:=by unfold KA;rw[h1];rfl
theorem m8(h1:t ρ st=.ok false st1)(h2:u ρ st1=.ok k de):F_ t u ρ st=.ok k de:=by unfold F_;rw[h1];exact h2
theorem E8(h1:t ρ st=.ok true st1):F_ t u ρ st=.ok true st1:=by unfold F_;rw[h1];rfl
theorem nU(h1:t ρ st=.ok a st1)(h2:(!a)=k):A8 t ρ st=.ok k st1:=by unfold A8;rw[h1,<- h2];rfl
theorem qW(h1:fa ρ st=.ok (.bl true) st1)(h2:fb ρ st1=.ok w de):zN fa fb ρ st=.ok w de:=by unfold zN;rw[h1];exact h2
theorem Sy(h1:fa ρ st=.ok (.bl a) st1)(h2:(!a)=k):Lr fa ρ st=.ok (.bl k) st1:=by unfold Lr;rw[h1,<- h2];rfl
theorem tu(h1:t ρ st=.ok true st1)(h2:fa ρ st1=.ok w de):GO t fa fb ρ st=.ok w de:=by unfold GO;rw[h1];exact h2
theorem tw(h1:t ρ st=.ok false st1)(h2:fb ρ st1=.ok w de):GO t fa fb ρ st=.ok w de:=by unfold GO;rw[h1];exact h2
theorem jV{F:W->List W->List au->R W}(h1:fo ρ st=.ok x st1)(hl:mw st1 x=true)(h2:fs ρ st1=.ok ws de)(h3:F x ws de=.ok w nN):oG F fo fs ρ st=.ok w nN:=by unfold oG;rw[h1];simp only[R.bind_ok];rw[aK hl,h2];exact h3
theorem LQ{F:W->List W->List au->R W}(h1:fo ρ st=.ok x st1)(hl:yT x=true)(h2:fs ρ st1=.ok ws de)(h3:F x ws de=.ok w nN):KC F fo fs ρ st=.ok w nN:=by unfold KC;rw[h1];simp only[R.bind_ok];rw[aK hl,h2];exact h3
theorem d9(h:st[n]?=some (.lst ws)):mw st (.loc n)=true:=by simp only[mw,h]
theorem vq{q:Int}(h:fa ρ st=.ok (.int q) st1):sf fa ρ st=.ok (.int (-q)) st1:=by unfold sf;rw[h];rfl
theorem Sz{c:String}(h:fa ρ st=.ok x st1)(hx:x.ty=some c)(hk:LC c T=k):wS T fa ρ st=.ok (.bl k) st1:=by unfold wS;rw[h];simp only[R.bind_ok,hx,hk]
theorem BI(h:fa ρ st=.ok x st1)(hk:x.isNon=k):zO fa ρ st=.ok (.bl k) st1:=by unfold zO;rw[h,<- hk];rfl
theorem fB(h:fa ρ st=.ok x st1)(hk:(!x.isNon)=k):iC fa ρ st=.ok (.bl k) st1:=by unfold iC;rw[h,<- hk];rfl
theorem tz:gN ρ st=.ok none st:=rfl
theorem nz{q:Int}(h:fa ρ st=.ok (.int q) st1):eX fa ρ st=.ok (some q) st1:=by unfold eX;rw[h];rfl
theorem nC{fl fh:FO}{l h:Option Int}(h1:fa ρ st=.ok x st1)(h2:fl ρ st1=.ok l de)(h3:fh ρ de=.ok h nN)(h4:wG x l h nN=.ok w UH):rC fa fl fh ρ st=.ok w UH:=by unfold rC;rw[h1];simp only[R.bind_ok];rw[h2];simp only[R.bind_ok];rw[h3];exact h4
theorem bb(h:fe ρ st=.ok w st1):bd i fe ρ st=.nx (ρ.set i (some w)) st1:=by unfold bd;rw[h];rfl
theorem dX(h:fe ρ st=.ok w st1):dq fe ρ st=.nx ρ st1:=by unfold dq;rw[h];rfl
theorem tD(h:fe ρ st=.ok w st1):cS fe ρ st=.rt w st1:=by unfold cS;rw[h];rfl
theorem E9{f:W->W->W->List au->Option (List au)}(h1:fe ρ st=.ok v st1)(h2:fo ρ st1=.ok x de)(h3:fi ρ de=.ok y nN)(h4:f x y v nN=some UH):By fo fi fe f ρ st=.nx ρ UH:=by
 unfold By;rw[h1];simp only[R.stmt_ok];rw[h2];simp only[R.stmt_ok];rw[h3];simp only[R.stmt_ok];rw[h4]
theorem dh{r:RS}(h1:t ρ st=.ok true st1)(h2:g ρ st1=r):gA t g g' ρ st=r:=by unfold gA;rw[h1];exact h2
theorem cC{r:RS}(h1:t ρ st=.ok false st1)(h2:g' ρ st1=r):gA t g g' ρ st=r:=by unfold gA;rw[h1];exact h2
theorem c_:bX ρ st=.nx ρ st:=rfl
theorem c5{r:RS}(h:g ρ st=.nx ρ' st1)(h2:g' ρ' st1=r):aM g g' ρ st=r:=by rw[Ic h];exact h2
theorem si(h:g ρ st=.rt w st1):aM g g' ρ st=.rt w st1:=by unfold aM;rw[h]
theorem dN{p q:Int}:cO (.int p) (.int q) st=.ok (.int (p+q)) st:=rfl
theorem DP{p q:List Nat}(h:p.length+q.length<=nQ):cO (.str p) (.str q) st=.ok (.str (p++q)) st:=by simp only[cO];rw[aK h]
theorem Ph(h1:st[n]?=some (.lst ws))(h2:st[m]?=some (.lst xs))(h:(ws++xs).length<=nQ):cO (.loc n) (.loc m) st=.ok #[5] (st++[.lst (ws++xs)]):=by
 unfold cO;simp only[h1,h2,qc];rw[aK h]
theorem jn{C:Int->Int->Prop}[∀i j,Decidable (C i j)]{f:Int->Int->Int}{p q:Int}(h:C p q):F' C f (.int p) (.int q) st=.ok (.int (f p q)) st:=by simp only[F'];rw[aK h]
theorem sk{p q:Int}(h:OS p q):jd (.int p) (.int q) st=.ok (.int (p*q)) st:=by simp only[jd];rw[aK h]
theorem lY{f:Int->Int->Bool}{p q:Int}(h:f p q=k):Ga f (.int p) (.int q) st=.ok (.bl k) st:=by rw[<- h];rfl
theorem BJ{p q:Int}(h:decide (p<=q)=k):Gi (.int p) (.int q) st=.ok (.bl k) st:=by rw[<- h];rfl
theorem gk{p q:Int}(h:(p==q)=k):kz (.int p) (.int q) st=.ok (.bl k) st:=by rw[<- h];rfl
theorem E_{p q:Int}(h:(!(p==q))=k):KB (.int p) (.int q) st=.ok (.bl k) st:=by rw[<- h];rfl
theorem dZ{p q:List Nat}(h:(p==q)=k):kz (.str p) (.str q) st=.ok (.bl k) st:=by rw[<- h];rfl
theorem nV{q:Int}(h:uw ws q=some w):bv (.tup ws) (.int q) st=.ok w st:=by unfold bv;simp only[h,eZ]
theorem kv(h:ρ[i]?=some (some w):=by rfl):ag i ρ st=.ok w st:=kB h
theorem ox{q:Int}(h:uw ws q=some w:=by rfl):bv (.tup ws) (.int q) st=.ok w st:=nV h
theorem kn(h:ρ[i]?=some (some w):=by rfl):ah (ag i) aD ρ st=.ok [w] st:=am (kB h) aQ
theorem kx{q:Int}(h:ρ[i]?=some (some (.tup ws)):=by rfl)(h2:uw ws q=some w:=by rfl):e2 bv (ag i) (eC (.int q)) ρ st=.ok w st:=bw (kB h) bJ (nV h2)
theorem Ie{q:Int}{c:Nat}(hl:l.length<=nQ)(h:uw l q=some c):bv (.str l) (.int q) st=.ok (.str [c]) st:=by unfold bv;simp only[h,eZ];rw[aK hl]
theorem jO{q:Int}(hl:lstOf st n=some ws)(h:uw ws q=some w):bv (.loc n) (.int q) st=.ok w st:=by unfold bv;simp only[hl,h,eZ]
theorem DQ:dH [.tup ws] st=.ok (.int ws.length) st:=rfl
theorem zY(h:l.length<=nQ):dH [.str l] st=.ok (.int l.length) st:=by unfold dH;simp only;rw[aK h]
theorem oI(hl:lstOf st n=some ws):dH [.loc n] st=.ok (.int ws.length) st:=by unfold dH;simp only[hl,eZ]
theorem bY(h:st[n]?=some (.lst ws)):lstOf st n=some ws:=by unfold lstOf;rw[h]
theorem tF(h:st[n]?=some (.ro ws)):lstOf st n=some ws:=by unfold lstOf;rw[h]
theorem pI(h:st[n]?=some (.lst ws))(hl:ws.length<nQ):cv (.loc n) [y] st=.ok .non (st.set n (.lst (ws++[y]))):=by unfold cv;simp only[h];rw[aK hl]
theorem BK(h:st[n]?=some (.lst (ws++[y]))):q9 (.loc n) [] st=.ok y (st.set n (.lst ws)):=by unfold q9;simp only[h];simp
theorem Pi{q:Int}(h:st[n]?=some (.lst ws))(hi:EK ws.length q=some j):rE (.loc n) (.int q) v st=some (st.set n (.lst (ws.set j v))):=by unfold rE;simp only[h,hi];rfl
theorem DR{sep:List Nat}(h:lstOf st n=some (ls.map W.str))(hl:(ls.map List.length).sum+ls.length*sep.length<=nQ):pH (.str sep) [.loc n] st=.ok (.str (mv sep ls)) st:=by
 unfold pH;simp only[h,eZ,yU];rw[aK hl]
theorem MH{l h:Option Int}(hl:lstOf st n=some ws):wG (.loc n) l h st=.ok #[5] (st++[.lst (j6 ws l h)]):=by unfold wG;simp only[hl,eZ]
theorem Ig{l h:Option Int}{z:List Nat}(hl:z.length<=nQ):wG (.str z) l h st=.ok (.str (j6 z l h)) st:=by unfold wG;simp only;rw[aK hl]
theorem BL{l h:Option Int}:wG (.tup ws) l h st=.ok (.tup (j6 ws l h)) st:=rfl
theorem zZ(h:fe ρ st=.ok (.tup ws) st1):ie fe ρ st=.ok (ws,none) st1:=by unfold ie;rw[h];rfl
theorem z_(h:fe ρ st=.ok (.loc n) st1)(hl:lstOf st1 n=some ws):ie fe ρ st=.ok (ws,some (n,ws)) st1:=by unfold ie;rw[h];simp only[R.bind_ok,hl]
theorem j9{q:Int}(h:fs ρ st=.ok [.int q] st1)(hq:-(2^62)<=q/\q<2^62):dQ fs ρ st=.ok (gO 0 q.toNat,none) st1:=by unfold dQ;rw[h];simp only[R.bind_ok];rw[aK hq]
theorem w4{l:List W}{q:Nat}(h:l.reverse[q]?=some x):uw l (-((q:Int)+1))=some x:=by
 have hq:q<l.length:=by have:=(ax.mp h).1;simpa using this
 unfold uw EK
 rw[aU #[0],aK #[0]]
 rw[fU hq]at h
 simp only[Option.bind_some]
 rw[show((-((q:Int)+1))+(l.length:Int)).toNat=l.length-1-q by omega]
 exact h
theorem fX{l:List α}{q:Nat}{x:α}(h:l[q]?=some x):uw l (q:Int)=some x:=by
 have hq:q<l.length:=(ax.mp h).1
 unfold uw EK
 rw[aK #[0],aK #[0]]
 simpa using h
def k_(P:RS->Prop)(r:RS):Prop:=P r
def KD(I:cW->List au->Prop):RS->Prop:=fun r=>∃ρ st,r=.nx ρ st/\I ρ st
def A9(I:W->List au->Prop):RS->Prop:=fun r=>∃w st,r=.rt w st/\I w st
variable{P:RS->Prop}{gM:FS}
theorem dm{r r':RS}(h:r=r')(h2:P r'):k_ P r:=by rw[h];exact h2
theorem az(h:g ρ st=.nx ρ' st1)(h2:k_ P (g' ρ' st1)):k_ P (aM g g' ρ st):=by rw[Ic h];exact h2
theorem vt(h1:t ρ st=.ok true st1)(h2:k_ P (g ρ st1)):k_ P (gA t g g' ρ st):=by rw[dh h1 rfl];exact h2
theorem m9(h1:t ρ st=.ok false st1)(h2:k_ P (g' ρ st1)):k_ P (gA t g g' ρ st):=by rw[cC h1 rfl];exact h2
theorem eT(h1:t ρ st=.ok true st1)(h2:k_ P (aM g gM ρ st1)):k_ P (aM (gA t g g') gM ρ st):=by
 unfold aM at h2 ⊢;rw[dh h1 rfl];exact h2
theorem bD(h1:t ρ st=.ok false st1)(h2:k_ P (aM g' gM ρ st1)):k_ P (aM (gA t g g') gM ρ st):=by
 unfold aM at h2 ⊢;rw[cC h1 rfl];exact h2
theorem uN{h:FS}(h2:k_ P (aM g (aM g' h) ρ st)):k_ P (aM (aM g g') h ρ st):=by
 unfold aM at h2 ⊢
 cases e:g ρ st<;>simp only[e]at h2 ⊢ <;> exact h2
theorem bW(h2:k_ P (gM ρ st)):k_ P (aM bX gM ρ st):=h2
theorem bQ(h:fe ρ st=.ok w st1)(h2:P (.rt w st1)):k_ P (cS fe ρ st):=by rw[tD h];exact h2
theorem eJ(h:fe ρ st=.ok w st1)(h2:P (.rt w st1)):k_ P (aM (cS fe) gM ρ st):=by rw[si (tD h)];exact h2
theorem gD{fi:FI}{f:FG}{body:FS}{k:HJ}(I:Nat->cW->List au->Prop)(h:fi ρ st=.ok k st1)(h0:I 0 ρ st1)(hc:∀i ρ st,I i ρ st->m6 st k.2)
  (hs:∀i w ρ st,k.1[i]?=some w->I i ρ st->∃ρ',f w ρ=some ρ'/\k_ (KD (I (i+1))) (body ρ' st)) (he:∀ρ st,I k.1.length ρ st->k_ P (gM ρ st)):k_ P (aM (mU fi f body) gM ρ st):=by
 obtain⟨ρ2,de,e,h2⟩:=wZ (f:=f) (body:=body) (ck:=k.2) I (ws:=k.1) (ρ:=ρ) (st:=st1) 0 h0 hc fun i w ρ st hw hI=>by
  rw[mi]at hI ⊢
  obtain⟨ρ',e1,ρ2,de,e2,h2⟩:=hs i w ρ st hw hI
  exact⟨ρ',ρ2,de,e1,e2,h2⟩
 rw[mi]at h2
 exact az (by rw[E7 h];exact e) (he _ _ h2)
theorem y4{body:FS}(I:Nat->cW->List au->Prop)(n:Nat)(h0:I n ρ st)
  (hs:∀n ρ st,I n ρ st->t ρ st=.ok false st\/(t ρ st=.ok true st/\k_ (KD fun ρ2 de=>∃m,m<n/\I m ρ2 de) (body ρ st))) (he:∀m ρ st,I m ρ st->t ρ st=.ok false st->k_ P (gM ρ st)):k_ P (aM (oF t body) gM ρ st):=by
 obtain⟨m,ρ2,de,e,h2,h3⟩:=Gm (t:=t) (g:=body) I n h0 fun n ρ st hI=>by
  rcases hs n ρ st hI with e|⟨e,ρ2,de,e2,m,hm,h2⟩
  ·exact .inl e
  ·exact .inr ⟨e,ρ2,de,m,e2,hm,h2⟩
 exact az e (he _ _ _ h2 h3)
theorem tH{body:FS}{Q:W->Prop}(h:k_ (A9 fun w bh=>(∃x,bh=st++x)/\undWs st.length [w]=true/\Q w) (body #[12] st)):∃w,Q w/\c9 N body ws st=.ok w st:=by
 obtain⟨w,bh,e,⟨x,rfl⟩,hu,q⟩:=h
 exact⟨w,q,BH e hu⟩
theorem fv{N:Nat}{body:FS}(h:k_ (A9 fun w' bh=>w'=w/\∃x,bh=st++x) (body #[12] st))(hu:undWs st.length [w]=true):c9 N body ws st=.ok w st:=by
 obtain⟨w,bh,e,rfl,x,rfl⟩:=h
 exact BH e hu
theorem vW{body:FS}{Q:Nat->List au->Prop}(h:k_ (A9 fun w bh=>∃j x,w=.loc (st.length+j)/\bh=st++x/\Q j x) (body #[12] st)):∃j x,Q j x/\c9 N body ws st=.ok (.loc (st.length+j)) (st++x):=by
 obtain⟨w,bh,e,j,x,rfl,rfl,q⟩:=h
 exact⟨j,x,q,Ib e⟩
theorem kL{lo:Int}(h:(gO lo q)[i]?=some w):i<q/\w=.int (lo+i):=by
 unfold gO at h
 obtain⟨h1,h2⟩:=ax.mp h
 simp only[aE,ni]at h1
 exact⟨h1,by rw[<- h2];simp⟩
theorem m_{l:List α}{q:Nat}(h:q<=l.length):j6 l none (some (q:Int))=l.take q:=by
 unfold j6;rw[HT.sIx_none,HT.sIx_nat,gc h];simp
theorem tI{l:List α}(h:q<=l.length):j6 l (some (q:Int)) none=l.drop q:=by
 unfold j6;rw[HT.sIx_none,HT.sIx_nat,gc h];rw[bn #[15]]
theorem hX{q:Int}{n:Nat}(h:0<n):∃m:Nat,m<n/\q%(n:Int)=m:=by
 have h0:0<=q%(n:Int):=jB _ #[0]
 have h1:q%(n:Int)<n:=mQ _ #[0]
 exact⟨(q%(n:Int)).toNat,by omega,by omega⟩
end
section
variable{u:FT}{a b k:Bool}{P:RS->Prop}{g g' gM:FS}{w:W}
theorem Pj(h1:t ρ st=.ok a st)(h2:u ρ st=.ok b st):KA t u ρ st=.ok (a&&b) st:=by cases a;exact zX h1;exact tt h1 h2
theorem Ih(h1:t ρ st=.ok a st)(h2:u ρ st=.ok b st):F_ t u ρ st=.ok (a||b) st:=by cases a;exact m8 h1 h2;exact E8 h1
theorem Pk(h1:t ρ st=.ok a st):A8 t ρ st=.ok (!a) st:=nU h1 rfl
theorem fj{body:FS}(h:k_ (A9 fun w' bh=>w'=w/\bh=st) (body #[12] st)):c9 N body ws st=.ok w st:=by
 obtain⟨w,bh,e,rfl,rfl⟩:=h
 exact qV e
end
end L2
open L2
local macro_rules | `(tactic| walk_at "ev1") => `(tactic| first
 | (with_reducible apply kB) <;> rfl
 | (with_reducible apply nV) <;> rfl
 | with_reducible first
  | exact bJ | exact aQ | exact Pg | exact tz | exact dN | exact DQ | exact c_ | exact BL
  | apply bw | apply am | apply eR | apply qj | apply cr | apply bV | apply aY | apply nU | apply Sy
  | apply jV | apply LQ | apply vq | apply Sz | apply BI | apply fB | apply nz | apply nC | apply bb | apply dX | apply tD | apply E9
  | apply jn | apply sk | apply lY | apply BJ | apply gk | apply E_ | apply dZ | apply DP
 | decide
 | (show List.length _ <= nQ; exact ao rfl)
 | (show @Eq Nat _ _; exact rfl)
 | (show @Eq Bool _ _; exact rfl)
 | (show @Eq (Option String) _ _; exact rfl)
 | (show @Eq _ _ _; with_reducible assumption))
local macro_rules | `(tactic| walk_at "evs") => `(tactic| repeat' walk_at "ev1")
local macro_rules | `(tactic| walk_at "tst") => `(tactic| first
 | (walk_at "evs"; done)
 | (apply zX; (focus walk_at "tst"); done)
 | (apply tt; (focus walk_at "tst"); (focus walk_at "tst"); done)
 | (apply E8; (focus walk_at "tst"); done)
 | (apply m8; (focus walk_at "tst"); (focus walk_at "tst"); done))
local macro_rules | `(tactic| walk_at "go1") => `(tactic| first
 | apply bW
 | (apply eJ; (focus (walk_at "evs"; done)))
 | (apply bQ; (focus (walk_at "evs"; done)))
 | (apply eT; (focus walk_at "tst"))
 | (apply bD; (focus walk_at "tst"))
 | (apply vt; (focus walk_at "tst"))
 | (apply m9; (focus walk_at "tst"))
 | (apply az; (focus (walk_at "evs"; done))))
local macro_rules | `(tactic| walk_at "go") => `(tactic| repeat walk_at "go1")
local macro_rules | `(tactic| walk_at "tb") => `(tactic| repeat' (first | with_reducible apply Pj | with_reducible apply Ih | with_reducible apply Pk | walk_at "ev1"))
local macro_rules | `(tactic| walk_at "len") => `(tactic| (simp only [ai, b6, List.length_nil]; show _ <= 1000000; omega))
namespace L2
open PySem PySem.Spec PyProof.Rows
section
variable{ρ' ρ2:cW}{de:List au}{fs:FA}{g gh gM:FS}{w:W}{c:Str}{cs:List Str}{P:RS->Prop}{b:Bool}
def Ws(c:Str)(I:List au->Prop):RS->Prop:=fun r=>∃ρ st,r=.ex c ρ st/\I st
theorem vX{N:Nat}{body:FS}(h:k_ (Ws c fun bh=>∃x,bh=st++x) (body #[12] st)):c9 N body ws st=.ex c st:=by
 obtain⟨ρ,bh,e,x,rfl⟩:=h
 unfold c9
 rw[e]
 simp only[uM (st:=st) (x:=x) (ws:=[]) rfl]
theorem BM{N:Nat}{body:FS}(h:k_ (KD fun _ bh=>∃x,bh=st++x) (body #[12] st)):c9 N body ws st=.ok .non st:=by
 obtain⟨ρ,bh,e,x,rfl⟩:=h
 unfold c9
 rw[e]
 simp only[uM (st:=st) (x:=x) (ws:=[]) rfl]
theorem rG(h:P (.ex c ρ st)):k_ P (aM (uL c) gM ρ st):=h
theorem Ii(h1:fs ρ st=.ok ws st1)(h2:F ws st1=.ex c de)(hn:ws.length=n):b8 n F fs ρ st=.ex c de:=by unfold b8;rw[h1];simp only[R.bind_ok];rw[aK hn];exact h2
theorem Ij(h:fe ρ st=.ex c st1):bd i fe ρ st=.ex c ρ st1:=by unfold bd;rw[h];rfl
theorem BN(h:fe ρ st=.ex c st1):cS fe ρ st=.ex c ρ st1:=by unfold cS;rw[h];rfl
theorem DS(h:g ρ st=.ex c ρ' st1)(h2:P (.ex c ρ' st1)):k_ P (aM g gM ρ st):=by unfold aM;rw[h];exact h2
theorem Ik(h:g ρ st=.ex c ρ' st1)(hc:c∈cs)(h2:gh (ρ'.set i (some (.loc st1.length))) (st1++[.exc c])=.nx ρ2 de):HR g cs i gh ρ st=.nx (ρ2.set i none) de:=by
 unfold HR;rw[h];simp only;rw[aK hc,h2];rfl
theorem BO{f:Str->Option Bool}(h:fa ρ st=.ok (.loc n) st1)(hc:st1[n]?=some (.exc c))(hf:f c=some b):wU f fa ρ st=.ok (.bl b) st1:=by
 unfold wU;rw[h];simp only[R.bind_ok,hc,hf]
theorem SC{p q:Bool}(h:(p==q)=b):kz (.bl p) (.bl q) st=.ok (.bl b) st:=by rw[<- h];rfl
theorem vY(I:cW->List au->Prop)(h:k_ (KD I) (g ρ st))(h2:∀ρ st,I ρ st->k_ P (gM ρ st)):k_ P (aM g gM ρ st):=by
 obtain⟨ρ',bh,e,hi⟩:=h
 exact az e (h2 _ _ hi)
end
section
variable{f:FG}
theorem BP{ρ0:cW}(hc:m6 st ck)(T:W->Bool)(Y:W->W):∀(ws ju:List W),(∀w∈ws,∃ρ',f w ρ0=some ρ'/\t ρ' st=.ok (T w) st/\(T w=true->el ρ' st=.ok (Y w) st)) ->
  s_ f t el ck ρ0 ws ju st=.ok (ju++(ws.filter T).map Y) st
 |[],ju,_=>by unfold s_;rw[aK hc];simp
 |w::ws,ju,h=>by
  obtain⟨ρ',e1,e2,e3⟩:=h w #[15]
  have ih:=fun ju=>BP hc T Y ws ju fun w' hw'=>h w' (by simp[hw'])
  unfold s_
  rw[aK hc,e1]
  simp only[e2]
  cases hT:T w with
  |true=>
   simp only[e3 hT]
   rw[ih]
   simp[List.filter_cons,hT]
  |false=>
   simp only
   rw[ih]
   simp[List.filter_cons,hT]
theorem DT(T:W->Bool)(Y:W->W)(h:fi ρ st=.ok (ws,ck) st1)(hl:ws.length<=nQ)(hc:m6 st1 ck)
  (hs:∀w∈ws,∃ρ',f w (uI cap ρ)=some ρ'/\t ρ' st1=.ok (T w) st1/\(T w=true->el ρ' st1=.ok (Y w) st1)):lg cap fi f t el ρ st=.ok (.loc st1.length) (st1++[.lst ((ws.filter T).map Y)]):=by
 unfold lg
 rw[h]
 simp only[R.bind_ok]
 rw[aK hl,BP hc T Y ws [] hs]
 simp only[R.bind_ok,eK,qc]
 rw[aK]
 rw[aE]
 exact aN (kG _ _) hl
theorem Fa(Y:W->W)(h:fi ρ st=.ok (ws,ck) st1)(hl:ws.length<=nQ)(hc:m6 st1 ck)
  (hs:∀w∈ws,∃ρ',f w (uI cap ρ)=some ρ'/\el ρ' st1=.ok (Y w) st1):lg cap fi f x_ el ρ st=.ok (.loc st1.length) (st1++[.lst (ws.map Y)]):=by
 have:=DT (fi:=fi) (f:=f) (t:=x_) (el:=el) (cap:=cap) (fun _=>true) Y h hl hc fun w hw=>by
  obtain⟨ρ',e1,e2⟩:=hs w hw
  exact⟨ρ',e1,rfl,fun _=>e2⟩
 rw[l6.mpr (fun _ _=>rfl)]at this
 exact this
theorem y6{lo:Int}{w:W}(h:w∈gO lo q):∃i:Nat,i<q/\w=.int (lo+i):=by
 unfold gO at h
 obtain⟨i,hi,rfl⟩:=c8.mp h
 exact⟨i,mF.mp hi,rfl⟩
theorem oJ(h:lstOf st n=some ws):jf [.loc n] st=.ok (.tup ws) st:=by unfold jf;simp only[h,eZ]
theorem Il{xs:List W}(h:(ws++xs).length<=nQ):cO (.tup ws) (.tup xs) st=.ok (.tup (ws++xs)) st:=by simp only[cO,rq];rw[aK h]
theorem SD{p q:Int}:DC [.int p,.int q] st=.ok (.int (if q>p then q else p)) st:=rfl
theorem Im{l:List α}(hj:j<=l.length)(hi:i<=j):j6 l (some (i:Int)) (some (j:Int))=(l.drop i).take (j-i):=by
 unfold j6;rw[HT.sIx_nat,HT.sIx_nat,gc hj,gc #[0]]
theorem Io{l:List α}:j6 l none (some (-1))=l.dropLast:=by
 unfold j6
 rw[HT.sIx_none]
 have:HT.sIx l.length l.length (some (-1))=l.length-1:=by
  show(if (-1:Int)<0 then(-1+(l.length:Int)).toNat else min (-1:Int).toNat l.length)=_
  rw[aK #[0]]
  omega
 rw[this,p6];simp
end
open Builtin Builtin.Str
theorem y7{c:Nat}:∀ws:List (List Nat),(∀w∈ws,c∉w)->(mv [c] ws).filter (fun d=>d != c)=ws.flatten
 |[],_=>rfl
 |[x],h=>by
  have hx:c∉x:=h x #[15]
  show x.filter _=_
  rw[l6.mpr fun d hd=>by simp;rintro rfl;exact hx hd]
  simp
 |x::y::r,h=>by
  have hx:c∉x:=h x #[15]
  show(x++[c]++mv [c] (y::r)).filter _=_
  rw[List.filter_append,List.filter_append,y7 (y::r) fun w hw=>h w (aW _ hw),l6.mpr fun d hd=>by simp;rintro rfl;exact hx hd]
  simp
theorem LR(l:List Nat)(c:Nat):Txt.replace (tx l) (tx [c]) (tx [])=tx (l.filter fun d=>d != c):=by
 obtain⟨f,hg,hfree⟩:=StrLaws.occ_tight (tx l) (tx [c]) (by simp[tx,Str.length])
 obtain⟨f',hc⟩:=StrLaws.occ_chain (tx l) (tx [c]) ((tx l).length+1)
 have pf:=StrLaws.parts_free (tx l) c _ 0 f hg hfree
 have pj:=StrLaws.join_partsFrom (tx l) (tx [c]) _ 0 f' hc
 rw[StrLaws.sub_whole]at pj
 unfold Txt.replace
 rw[StrLaws.partsBetween_eq]
 have pe:(occurrences (tx l) (tx [c]) 0 (tx l).length ((tx l).length+1)).isEmpty=true->StrLaws.partsFrom (tx l) (tx [c]).length 0 (occurrences (tx l) (tx [c]) 0 (tx l).length ((tx l).length+1))=[tx l]:=fun h=>by
  rw[List.isEmpty_iff.mp h]
  show[strSub (tx l) 0 (tx l).length]=_
  rw[StrLaws.sub_whole]
 generalize occurrences (tx l) (tx [c]) 0 (tx l).length ((tx l).length+1)=os at pf pj pe ⊢
 have pf:∀p∈StrLaws.partsFrom (tx l) (tx [c]).length 0 os,c∉p.cps.toList:=pf
 generalize StrLaws.partsFrom (tx l) (tx [c]).length 0 os=ps at pf pj pe ⊢
 have em:ps=(ps.map fun z=>z.cps.toList).map tx:=by
  rw[cq]
  conv=>lhs;rw[<- jU ps]
  exact fy fun z _=>(RO z).symm
 have fr:∀w∈ps.map (fun z=>z.cps.toList),c∉w:=fun w hw=>by
  obtain⟨p,hp,rfl⟩:=c8.mp hw
  exact pf p hp
 generalize ps.map (fun z=>z.cps.toList)=ws at em fr
 subst em
 have ej:∀sep:List Nat,Str.join (tx sep) (ws.map tx)=tx (mv sep ws):=fun sep=>by
  rw[<- ER sep ws]
  show _=glued _ _
  rw[iB]
 rw[ej]at pj
 have el:mv [c] ws=l:=Dq.mp pj
 have hfl:=y7 ws fr
 rw[el]at hfl
 split
 ·rename_i h
  rw[show((tx [c]).length==0&&(tx []).length==0)=false from rfl,nI]at h
  have e1:=pe h
  have:ws.flatten=l:=by
   have e2:ws=[l]:=by
    cases ws with
    |nil=>cases e1
    |cons a r=>
     cases r with
     |nil=>simp only[bt,List.map_nil,List.cons.injEq,and_true]at e1;rw[Dq.mp e1]
     |cons _ _=>simp at e1
   rw[e2];simp
  rw[hfl,this]
 ·rw[iB,ej,nP,hfl]
section
variable{to:TE}
def SF(to te:TE):TE:=fun σ H Q=>to σ H fun x H1=>(∃l,x=.str (tx l))/\te σ H1 fun y H2=>∃l c,x=.str (tx l)/\y=.str (tx [c])/\l.length<=1000000/\Q (.str (tx (l.filter fun d=>d != c))) H2
theorem LS(ho:PE X o to)(he:PE X e te)
  (ki:attributeBase o "replace" X.env (eval o X.env)=eval o X.env)
  (sJ:((backTo eN (starEach [e,.Constant (.str (tx [])) j p2] X.env)).all (fun x=>!x.1)&&(backToKw eN (keywordEach [] X.env)).all (fun x=>x.1.isSome)
   && decide ([e,.Constant (.str (tx [])) j p2].length+([]:List Keyword).length+(if ([]:List Keyword).isEmpty then 0 else 1)<30))=true)
  (lq:(gT.endLine==eN.line)=true) (hs:starEach [e,.Constant (.str (tx [])) j p2] X.env=(false,eval e X.env)::starEach [.Constant (.str (tx [])) j p2] X.env) :
  PE X (.Call (.Attribute o "replace" gT) [e,.Constant (.str (tx [])) j p2] [] eN) (SF to te):=by
 intro ak s σ H Q I h
 refine py ki sJ lq rfl (ky (ho ak s σ H _ I h) fun v s1 kt1 zq=>?_)
 obtain⟨x,H1,I1,r1,ty,q1⟩:=zq
 obtain⟨h1,h2⟩:=Dm I1 r1 (ES ty)
 refine⟨"str",_,F.plainAttrs_str,F.slot_str_replace,F.type_str_replace,h1,h2,?_⟩
 rw[hs]
 refine km rfl (ly ?_)
 show wpAny _ _ (spliced ((false,eval e X.env)::backTo eN (starEach [.Constant (.str (tx [])) j p2] X.env))) _ _ s1
 refine fP (ky (he ak s1 σ H1 _ I1 q1) fun u s2 kt2 zq=>?_)
 obtain⟨y,H2,I2,r2,l,c,ex,ey,hl,q2⟩:=zq
 subst ex ey
 obtain⟨t,rfl⟩:=r1.up kt2
 obtain⟨t2,rfl⟩:=r2
 show wpAny _ _ (spliced ((false,eval (.Constant (.str (tx [])) j p2) X.env)::backTo eN (starEach [] X.env))) _ _ s2
 refine fP (Calls.Constant_str ?_)
 show wpAny _ _ (spliced []) _ _ _
 refine iI ?_
 obtain⟨p1,p2⟩:=t2.2 rfl
 have n1:t2.1≠0:=eu p1
 have n2:s2.toks≠0:=eu I2.pos
 have n3:t2.1≠s2.toks:=a9 p2
 have e0:(tx []).length=0:=rfl
 have e1:(1000000:Nat)<=sizeLine:=by decide
 refine call_gives F.slot_str_replace (mJ _ _ _) F.entry_str_replace (F.args_str_replace_3 _ _ _)
  (gives_str_replace (tx l) (tx [c]) (tx []) t.1 t2.1 s2.toks fun _=>⟨by simp[n1,n2],by simp[n3],rfl,?_⟩) ?_
 ·rw[e0,Nat.mul_zero,uf,jC]
  unfold tooLong
  exact a7 #[0]
 ·have hq:=LR l c
  unfold Txt.replace at hq
  cases hc:((occurrences (tx l) (tx [c]) 0 (tx l).length ((tx l).length+1)).isEmpty||((tx [c]).length==0&&(tx []).length==0))
  ·rw[hc]at hq
   simp only[fQ,gX]at hq ⊢
   rw[hq]
   have I3:=I2.tok (s2.toks+1)
   refine⟨?_,⟨.str _,H2,I3.tok _,I3.tkS,q2⟩⟩
   rw[jC]
   exact aN (kG _ _) (aN hl e1)
  ·rw[hc]at hq
   simp only[gG]at hq ⊢
   rw[<- hq]at q2
   exact⟨.str (tx l),H2,I2.tok _,⟨t.up (bp _),rfl⟩,q2⟩
end
section
def Ip:W->W->List au->R W
 |.str l,.str [c],st=>if l.length<=nQ then .ok (.str (l.filter fun d=>d != c)) st else .bad
 |_,_,_=>.bad
def Fb(fo fe:FE):FE:=fun ρ st=>(fo ρ st).bind fun x st=>if yT x then(fe ρ st).bind fun y st=>Ip x y st else .bad
theorem Pm{z:Str}(ho:SE X o fo)(he:SE X e fe)(hz:z=tx []:=by first|rfl|decide +kernel)
  (ki:attributeBase o "replace" X.env (eval o X.env)=eval o X.env:=by rfl)
  (sJ:((backTo eN (starEach [e,.Constant (.str z) j p2] X.env)).all (fun x=>!x.1)&&(backToKw eN (keywordEach [] X.env)).all (fun x=>x.1.isSome)
   && decide ([e,.Constant (.str z) j p2].length+([]:List Keyword).length+(if ([]:List Keyword).isEmpty then 0 else 1)<30))=true:=by rfl)
  (lq:(gT.endLine==eN.line)=true:=by rfl) (hs:starEach [e,.Constant (.str z) j p2] X.env=(false,eval e X.env)::starEach [.Constant (.str z) j p2] X.env:=by rfl) :
  SE X (.Call (.Attribute o "replace" gT) [e,.Constant (.str z) j p2] [] eN) (Fb fo fe):=⟨by
 subst hz
 refine(LS ho.h he.h ki sJ lq hs).imp fun σ H Q h=>?_
 walk_at "2"
 walk_at "1"
 cases x with
 |str z=>
  rw[aK (show yT (W.str z)=true from rfl)]at h1
  refine⟨⟨z,q1.strE⟩,μ1,ρ,st1,l1,RK.bind h1 l1 fun μ2 de y u H2 p2 x2 l2 q2 h2=>?_⟩
  unfold Ip at h2
  split at h2
  ·rename_i l' c e1
   cases e1
   split at h2
   ·rename_i hl
    exact⟨_,c,q1.strE,q2.strE,hl,h2 μ2 _ H2 (aq _) fF.refl l2.sto .str⟩
   ·exact h2.elim
  ·exact h2.elim
 |_=>exact h1.elim⟩
theorem Po{de:List au}{c:Nat}(h1:fo ρ st=.ok (.str l) st1)(h2:fe ρ st1=.ok (.str [c]) de)(hl:l.length<=nQ):Fb fo fe ρ st=.ok (.str (l.filter fun d=>d != c)) de:=by
 unfold Fb
 rw[h1]
 simp only[R.bind_ok]
 rw[aK (show yT (W.str l)=true from rfl),h2]
 simp only[R.bind_ok]
 unfold Ip
 simp only
 rw[aK hl]
end
end L2
namespace P
open PySem L2
open PyProof.Rows (boot_sorted boot_set boot_ord boot_all boot_enumerate boot_int boot_str boot_bool boot_list boot_tuple boot_isinstance boot_max boot_min boot_zip)
noncomputable def i7(i:Nat):Stmt:=PySem.Challenge.pw_trunksay_k66_whole_to_and_fro.main.body.getD i (.Pass ⟨0,0,0,0⟩)
abbrev Pp:Stmt:=i7 13
noncomputable abbrev DU:List Str:=["letters"]
noncomputable abbrev SH:List Str:=["letters"]
theorem SJ:ba DU SH (aO Pp):=ku
abbrev Pq:Stmt:=i7 14
noncomputable abbrev BQ:List Str:=["names","marks","number","name"]
noncomputable abbrev SL:List Str:=["names","marks"]
theorem BR:ba BQ SL (aO Pq):=ku
abbrev Pr:Stmt:=i7 17
noncomputable abbrev DV:List Str:=["place"]
noncomputable abbrev SM:List Str:=["place"]
theorem SN:ba DV SM (aO Pr):=ku
abbrev Ps:Stmt:=i7 18
noncomputable abbrev BS:List Str:=["place"]
noncomputable abbrev SQ:List Str:=["place"]
theorem SR:ba BS SQ (aO Ps):=ku
abbrev Pt:Stmt:=i7 19
noncomputable abbrev DW:List Str:=["tree","links","tops","number","place","right","left"]
noncomputable abbrev SU:List Str:=["tree"]
theorem w5:ba DW SU (aO Pt):=ku
abbrev Pu:Stmt:=i7 20
noncomputable abbrev Iq:List Str:=["tree","lefts","rights","number","pair"]
noncomputable abbrev SV:List Str:=["tree"]
theorem BU:ba Iq SV (aO Pu):=ku
abbrev Pv:Stmt:=i7 21
noncomputable abbrev Gn:List Str:=["ups","place"]
noncomputable abbrev SX:List Str:=["ups","place"]
theorem SY:ba Gn SX (aO Pv):=ku
abbrev Pw:Stmt:=i7 22
noncomputable abbrev DY:List Str:=["tree","sizes","left","right","size"]
noncomputable abbrev SZ:List Str:=["tree"]
theorem w6:ba DY SZ (aO Pw):=ku
abbrev Px:Stmt:=i7 23
noncomputable abbrev yb:List Str:=["tree","place"]
noncomputable abbrev S5:List Str:=["tree","place"]
theorem S6:ba yb S5 (aO Px):=ku
abbrev Ir:Stmt:=i7 24
noncomputable abbrev Aa:List Str:=["size"]
noncomputable abbrev MI:List Str:=["size"]
theorem Py:ba Aa MI (aO Ir):=ku
abbrev Iu:Stmt:=i7 25
noncomputable abbrev Go:List Str:=["tree","place"]
noncomputable abbrev MJ:List Str:=["tree","place"]
theorem Pz:ba Go MJ (aO Iu):=ku
abbrev Iv:Stmt:=i7 26
noncomputable abbrev yc:List Str:=["tree","place","below","right_size","middle"]
noncomputable abbrev MK:List Str:=["tree","place"]
theorem w9:ba yc MK (aO Iv):=ku
abbrev Iw:Stmt:=i7 27
noncomputable abbrev DZ:List Str:=["left","right","marks","branches"]
noncomputable abbrev ML:List Str:=["left","right","marks"]
theorem Ab:ba DZ ML (aO Iw):=ku
abbrev Iy:Stmt:=i7 28
noncomputable abbrev Ac:List Str:=["tree","place","side","other","branches","left","right","start","changed"]
noncomputable abbrev MM:List Str:=["tree","place","side","other"]
theorem uO:ba Ac MM (aO Iy):=ku
abbrev Iz:Stmt:=i7 30
noncomputable abbrev Ad:List Str:=["rooms","number"]
noncomputable abbrev MN:List Str:=["rooms","number"]
theorem PB:ba Ad MN (aO Iz):=ku
abbrev IA:Stmt:=i7 31
noncomputable abbrev Gp:List Str:=["machine","marks","pair","rooms","leads"]
noncomputable abbrev MO:List Str:=["machine","marks","pair","rooms"]
theorem IB:ba Gp MO (aO IA):=ku
abbrev IC:Stmt:=i7 32
noncomputable abbrev D0:List Str:=["machine","tree","rooms","place","pair"]
noncomputable abbrev MP:List Str:=["machine","tree"]
theorem Ae:ba D0 MP (aO IC):=ku
abbrev ID:Stmt:=i7 34
noncomputable abbrev IE:List Str:=["deed"]
noncomputable abbrev MQ:List Str:=["deed"]
theorem PD:ba IE MQ (aO ID):=ku
abbrev IF:Stmt:=i7 35
noncomputable abbrev Af:List Str:=["tree","place","marks"]
noncomputable abbrev MR:List Str:=["tree","place","marks"]
theorem PF:ba Af MR (aO IF):=ku
abbrev IG:Stmt:=i7 36
noncomputable abbrev w_:List Str:=["machine","rooms","deed","old","new","start","middle","fresh"]
noncomputable abbrev MS:List Str:=["machine","rooms","deed"]
theorem sm:ba w_ MS (aO IG):=ku
abbrev IH:Stmt:=i7 37
noncomputable abbrev Gq:List Str:=["machine","tree","rooms","place","links","ups","fresh","many","at","room"]
noncomputable abbrev MU:List Str:=["machine","tree","rooms","place"]
theorem oK:ba Gq MU (aO IH):=ku
abbrev lJ:Stmt:=(i6 (i7 38)).getD 0 (.Pass ⟨0,0,0,0⟩)
noncomputable abbrev vF:List Str:=["self","machine","tree"]
noncomputable abbrev pJ:List Str:=["self","machine","tree"]
theorem uP:ba vF pJ (aO lJ):=ku
abbrev kM:Stmt:=(i6 (i7 38)).getD 1 (.Pass ⟨0,0,0,0⟩)
noncomputable abbrev uQ:List Str:=["self","deed","moved","above"]
noncomputable abbrev nX:List Str:=["self","deed"]
theorem iE:ba uQ nX (aO kM):=ku
abbrev mx:Stmt:=(i6 (i7 38)).getD 2 (.Pass ⟨0,0,0,0⟩)
noncomputable abbrev xa:List Str:=["self","deed"]
noncomputable abbrev qk:List Str:=["self","deed"]
theorem vG:ba xa qk (aO mx):=ku
abbrev kN:Stmt:=(i6 (i7 38)).getD 3 (.Pass ⟨0,0,0,0⟩)
noncomputable abbrev uR:List Str:=["self","place","marks"]
noncomputable abbrev nY:List Str:=["self","place","marks"]
theorem tJ:ba uR nY (aO kN):=ku
abbrev su:Stmt:=(i6 (i7 38)).getD 4 (.Pass ⟨0,0,0,0⟩)
noncomputable abbrev D1:List Str:=["self","place","letter"]
noncomputable abbrev xb:List Str:=["self","place","letter"]
theorem BV:ba D1 xb (aO su):=ku
abbrev ql:Stmt:=(i6 (i7 38)).getD 5 (.Pass ⟨0,0,0,0⟩)
noncomputable abbrev BW:List Str:=["self","place","letter"]
noncomputable abbrev vw:List Str:=["self","place","letter"]
theorem Ag:ba BW vw (aO ql):=ku
abbrev nD:Stmt:=(i6 (i7 38)).getD 6 (.Pass ⟨0,0,0,0⟩)
noncomputable abbrev yd:List Str:=["self","place","side","tree","changed"]
noncomputable abbrev rH:List Str:=["self","place","side","tree"]
theorem qm:ba yd rH (aO nD):=ku
abbrev oM:Stmt:=(i6 (i7 38)).getD 7 (.Pass ⟨0,0,0,0⟩)
noncomputable abbrev Ah:List Str:=["self","tree"]
noncomputable abbrev tK:List Str:=["self","tree"]
theorem yf:ba Ah tK (aO oM):=ku
abbrev qo:Stmt:=(i6 (i7 38)).getD 8 (.Pass ⟨0,0,0,0⟩)
noncomputable abbrev BX:List Str:=["self","deed"]
noncomputable abbrev vx:List Str:=["self"]
theorem tL:ba BX vx (aO qo):=ku
abbrev oN:Stmt:=(i6 (i7 38)).getD 9 (.Pass ⟨0,0,0,0⟩)
noncomputable abbrev Ai:List Str:=["self","deed"]
noncomputable abbrev tM:List Str:=["self"]
theorem rJ:ba Ai tM (aO oN):=ku
abbrev lK:Stmt:=(i6 (i7 38)).getD 10 (.Pass ⟨0,0,0,0⟩)
noncomputable abbrev vH:List Str:=["self"]
noncomputable abbrev pK:List Str:=["self"]
theorem uS:ba vH pK (aO lK):=ku
abbrev kO:Stmt:=(i6 (i7 38)).getD 11 (.Pass ⟨0,0,0,0⟩)
noncomputable abbrev uT:List Str:=["self"]
noncomputable abbrev nZ:List Str:=["self"]
theorem tN:ba uT nZ (aO kO):=ku
abbrev lM:Stmt:=(i6 (i7 38)).getD 12 (.Pass ⟨0,0,0,0⟩)
noncomputable abbrev vI:List Str:=["self"]
noncomputable abbrev pL:List Str:=["self"]
theorem uU:ba vI pL (aO lM):=ku
abbrev II:Stmt:=i7 40
noncomputable abbrev BY:List Str:=["_law_script","_law_k"]
noncomputable abbrev MV:List Str:=["_law_script","_law_k"]
theorem PH:ba BY MV (aO II):=ku
abbrev IJ:Stmt:=i7 41
noncomputable abbrev Aj:List Str:=["_law_cell_here","_law_k","_law_salt","_law_first"]
noncomputable abbrev MW:List Str:=["_law_cell_here","_law_k","_law_salt"]
theorem IK:ba Aj MW (aO IJ):=ku
abbrev IL:Stmt:=i7 42
noncomputable abbrev Ak:List Str:=["_law_cell_here","_law_many","_law_salt","_law_found","_law_rest","_law_k"]
noncomputable abbrev MX:List Str:=["_law_cell_here","_law_many","_law_salt"]
theorem uV:ba Ak MX (aO IL):=ku
abbrev IM:Stmt:=i7 43
noncomputable abbrev BZ:List Str:=["_law_found","_law_due","_law_k"]
noncomputable abbrev IN:List Str:=["_law_found","_law_due"]
theorem IP:ba BZ IN (aO IM):=ku
abbrev IQ:Stmt:=i7 44
noncomputable abbrev B0:List Str:=["_law_cell_here","_law_many","_law_salt","_law_rest","_law_found","_law_d","_law_at"]
noncomputable abbrev MY:List Str:=["_law_cell_here","_law_many","_law_salt"]
theorem sw:ba B0 MY (aO IQ):=ku
abbrev IR:Stmt:=i7 45
noncomputable abbrev Al:List Str:=["_law_pool_here","_law_number"]
noncomputable abbrev MZ:List Str:=["_law_pool_here","_law_number"]
theorem PJ:ba Al MZ (aO IR):=ku
abbrev IS:Stmt:=i7 46
noncomputable abbrev B1:List Str:=["_law_draws_here","_law_pool_here","_law_found","_law_high","_law_d","_law_branches"]
noncomputable abbrev M0:List Str:=["_law_draws_here","_law_pool_here"]
theorem qp:ba B1 M0 (aO IS):=ku
abbrev IT:Stmt:=i7 47
noncomputable abbrev Am:List Str:=["_law_tree_here","_law_heap","_law_found","_law_k","_law_left","_law_right"]
noncomputable abbrev M1:List Str:=["_law_tree_here"]
theorem qr:ba Am M1 (aO IT):=ku
abbrev IU:Stmt:=i7 48
noncomputable abbrev xc:List Str:=["_law_names","_law_many","_law_top","_law_draws_here","_law_good","_law_table","_law_at","_law_letter_here","_law_rows","_law_l"]
noncomputable abbrev M2:List Str:=["_law_names","_law_many","_law_top","_law_draws_here"]
theorem qs:ba xc M2 (aO IU):=ku
abbrev IV:Stmt:=i7 49
noncomputable abbrev yg:List Str:=["_law_names","_law_marks_here","_law_found","_law_name"]
noncomputable abbrev M3:List Str:=["_law_names","_law_marks_here"]
theorem An:ba yg M3 (aO IV):=ku
abbrev IW:Stmt:=i7 50
noncomputable abbrev D2:List Str:=["_law_machine_here","_law_tree_here","_law_heap","_law_found","_law_branches","_law_marks_here","_law_left","_law_right"]
noncomputable abbrev M4:List Str:=["_law_machine_here","_law_tree_here"]
theorem oO:ba D2 M4 (aO IW):=ku
abbrev IX:Stmt:=i7 51
noncomputable abbrev B3:List Str:=["_law_machine_here","_law_tree_here"]
noncomputable abbrev M5:List Str:=["_law_machine_here","_law_tree_here"]
theorem PK:ba B3 M5 (aO IX):=ku
abbrev IY:Stmt:=i7 52
noncomputable abbrev Ao:List Str:=["_law_links_here","_law_found","_law_left","_law_right","_law_many"]
noncomputable abbrev M6:List Str:=["_law_links_here"]
theorem sy:ba Ao M6 (aO IY):=ku
abbrev IZ:Stmt:=i7 53
noncomputable abbrev yh:List Str:=["_law_tree_here","_law_place","_law_links_here","_law_sizes_here","_law_middle","_law_first"]
noncomputable abbrev M7:List Str:=["_law_tree_here","_law_place"]
theorem sD:ba yh M7 (aO IZ):=ku
abbrev I_:Stmt:=i7 54
noncomputable abbrev vJ:List Str:=["_law_tree_here","_law_place","_law_side","_law_other","_law_first","_law_middle","_law_left","_law_right","_law_top"]
noncomputable abbrev M8:List Str:=["_law_tree_here","_law_place","_law_side","_law_other"]
theorem qt:ba vJ M8 (aO I_):=ku
abbrev Ja:Stmt:=i7 55
noncomputable abbrev Ap:List Str:=["_law_script","_law_sizes_here","_law_pool_here","_law_many","_law_names","_law_entries","_law_machine_here","_law_high"]
noncomputable abbrev M9:List Str:=["_law_script"]
theorem nE:ba Ap M9 (aO Ja):=ku
abbrev Jb:Stmt:=i7 56
noncomputable abbrev xf:List Str:=["_law_script","_law_k","_law_most","_law_tree_here","_law_pool_here","_law_draws_here","_law_other","_law_kind","_law_place"]
noncomputable abbrev M_:List Str:=["_law_script","_law_k","_law_most","_law_tree_here","_law_pool_here"]
theorem xg:ba xf M_ (aO Jb):=ku
abbrev Jc:Stmt:=i7 57
noncomputable abbrev xh:List Str:=["_law_tree_here","_law_deed","_law_branches","_law_marks_here"]
noncomputable abbrev M':List Str:=["_law_tree_here","_law_deed"]
theorem Aq:ba xh M' (aO Jc):=ku
abbrev Jd:Stmt:=i7 58
noncomputable abbrev Ar:List Str:=["_law_kept","_law_deed"]
noncomputable abbrev Na:List Str:=["_law_kept","_law_deed"]
theorem PL:ba Ar Na (aO Jd):=ku
abbrev Je:Stmt:=i7 59
noncomputable abbrev yi:List Str:=["_law_kept","_law_machine_here","_law_tree_here","_law_turn","_law_k","_law_asked"]
noncomputable abbrev Nb:List Str:=["_law_kept","_law_machine_here","_law_tree_here","_law_turn"]
theorem D3:ba yi Nb (aO Je):=ku
abbrev Jf:Stmt:=i7 60
noncomputable abbrev xi:List Str:=["_law_kept","_law_deed","_law_told","e"]
noncomputable abbrev Nc:List Str:=["_law_kept","_law_deed"]
theorem xj:ba xi Nc (aO Jf):=ku
abbrev Jg:Stmt:=i7 61
noncomputable abbrev yj:List Str:=["_law_kept","_law_machine_here","_law_trees","_law_at","_law_end","_law_deed","_law_to"]
noncomputable abbrev Nd:List Str:=["_law_kept","_law_machine_here","_law_trees","_law_at","_law_end"]
theorem uW:ba yj Nd (aO Jg):=ku
abbrev Jh:Stmt:=i7 62
noncomputable abbrev uX:List Str:=["_law_kept","_law_machine_here","_law_tree_here","_law_deed","_law_due"]
noncomputable abbrev Nf:List Str:=["_law_kept","_law_machine_here","_law_tree_here","_law_deed"]
theorem Ji:ba uX Nf (aO Jh):=ku
abbrev tO:Stmt:=i7 63
noncomputable abbrev S7:List Str:=["_law_script","_law_machine_here","_law_tree_here","_law_pool_here","_law_kept","_law_twin","_law_trees","_law_many","_law_k","_law_deed","_law_other","_law_down","_law_up"]
noncomputable abbrev Jj:List Str:=["_law_script"]
theorem iA:ba S7 Jj (aO tO):=ku
structure Bl(mg:Str->Option Value):Prop where
 ValueError:mg "ValueError"=Option.none
 bool:mg "bool"=Option.none
 enumerate:mg "enumerate"=Option.none
 int:mg "int"=Option.none
 isinstance:mg "isinstance"=Option.none
 len:mg "len"=Option.none
 list:mg "list"=Option.none
 max:mg "max"=Option.none
 min:mg "min"=Option.none
 range:mg "range"=Option.none
 set:mg "set"=Option.none
 sorted:mg "sorted"=Option.none
 str:mg "str"=Option.none
 tuple:mg "tuple"=Option.none
 zip:mg "zip"=Option.none
noncomputable def nG:W:=.int 100
structure Gc(K:Frag)(mg:Str->Option Value):Prop where
 MOST_PLACES:∃u v,mg "MOST_PLACES"=some u/\dA 0 v u/\∀μ H,bN K μ H nG v
noncomputable abbrev rK:List Str:=["TrunkError","NoPlace","TooGreat","NothingDone"]
noncomputable def jE:Str->Option Bool:=fun c=>if c="TrunkError" then some false else if c="NoPlace" then some true else if c="TooGreat" then some false else if c="NothingDone" then some false else none
noncomputable def fM:Str->Option Bool:=fun c=>if c="TrunkError" then some false else if c="NoPlace" then some false else if c="TooGreat" then some false else if c="NothingDone" then some true else none
noncomputable def iN:Str->Option Bool:=fun c=>if c="TrunkError" then some false else if c="NoPlace" then some false else if c="TooGreat" then some true else if c="NothingDone" then some false else none
noncomputable def xk:Str->Option Bool:=fun c=>if c="TrunkError" then some false else if c="NoPlace" then some false else if c="TooGreat" then some false else if c="NothingDone" then some false else none
noncomputable def gu:Str->Option Bool:=fun c=>if c="TrunkError" then some true else if c="NoPlace" then some true else if c="TooGreat" then some true else if c="NothingDone" then some true else none
theorem LU:bootBuiltins "ValueError"=some (.type "ValueError"):=by first|rfl|kernel_rfl|decide +kernel
structure Cls(K:Frag)(mg:Str->Option Value):Prop where
 TrunkError:HQ K mg "TrunkError"
 NoPlace:HQ K mg "NoPlace"
 TooGreat:HQ K mg "TooGreat"
 NothingDone:HQ K mg "NothingDone"
 isi_NoPlace:∃Ta,mg "NoPlace"=some (.ref Ta)/\DM K mg (.ref Ta) jE
 isi_NothingDone:∃Ta,mg "NothingDone"=some (.ref Ta)/\DM K mg (.ref Ta) fM
 isi_TooGreat:∃Ta,mg "TooGreat"=some (.ref Ta)/\DM K mg (.ref Ta) iN
 isi_t0:∃A0,∃A1,∃A2,∃A3,∃A4,∃A5,mg "NoTree"=some (.ref A0)/\mg "NoStatement"=some (.ref A1)/\mg "NoNumber"=some (.ref A2)/\mg "NoName"=some (.ref A3)/\mg "NoLine"=some (.ref A4)/\mg "NothingHeld"=some (.ref A5)/\HZ K mg [A0,A1,A2,A3,A4,A5] xk
 isi_ValueError:DM K mg (.type "ValueError") gu
 catch_TrunkError:HS K mg "TrunkError" rK
structure Ow(K:Frag)(mg:Str->Option Value):Prop where
 Kept:Pe K mg "Kept" ["machine","many","rooms","standing","taken_back","tree"]
section
variable{w:World}{f:Addr}
def Vt:FS:=(cS (KC pH (eC (.str [])) (ah (tj (ag 0)) aD)))
def Jk:List W->List au->R W:=c9 1 Vt
theorem S8(F:iX K "in_order" "in_order" Pp f fd)(B:Bl mg) :c7 P w K mg base (iK P w) 1 f fd SH (iZ K mg 1 Jk):=
 bS (k:=0) F SJ rfl fun fD A outer s H E hr=>(aH (bj (LA PySem.F.slot_str_join PySem.F.type_str_join vT e_ (aa (Gj B.sorted B.set (ae 0)) ar))))
def S9:FS:=(aM (bd 2 (eI 0)) (aM (mU (ie (ag 0)) (kJ 3) (aM (bd 2 (e2 jd (ag 2) (eI 2))) (gA (eP (e2 (GP false) (ag 3) (ag 1))) (bd 2 (e2 cO (ag 2) (eI 1))) bX))) (cS (ag 2))))
def Jl:List W->List au->R W:=c9 4 S9
theorem S_(F:iX K "letter_of" "letter_of" Pq f fd)  :c7 P w K mg base (iK P w) 1 f fd SL (iZ K mg 2 Jl):=
 bS (k:=0) F BR rfl fun fD A outer s H E hr=>(av (sS 2 BR aB) (av (iL (nv (ae 0)) (sG 3 BR) (av (sS 2 BR (bC j8 (ae 2) aB)) (aH (cI (cw (Ly hr) (ae 3) (ae 1)) (aH (sS 2 BR (bC cF (ae 2) aB))) bP)))) (aH (bj (ae 2)))))
def Vu:FS:=(cS (e2 (GP false) (e2 bv (ag 0) (eI 0)) (fK (ah (eI 1) (ah (eI 3) aD)))))
def As:List W->List au->R W:=c9 1 Vu
theorem Tb(F:iX K "has_left" "has_left" Pr f fd)  :c7 P w K mg base (iK P w) 1 f fd SM (iZ K mg 1 As):=
 bS (k:=0) F SN rfl fun fD A outer s H E hr=>(aH (bj (sY (Ly hr) (be (ae 0) aB) (dY (aa aB (aa aB ar))))))
def Vv:FS:=(cS (e2 (GP false) (e2 bv (ag 0) (eI 0)) (fK (ah (eI 2) (ah (eI 3) aD)))))
def xl:List W->List au->R W:=c9 1 Vv
theorem Tc(F:iX K "has_right" "has_right" Ps f fd)  :c7 P w K mg base (iK P w) 1 f fd SQ (iZ K mg 1 xl):=
 bS (k:=0) F SR rfl fun fD A outer s H E hr=>(aH (bj (sY (Ly hr) (be (ae 0) aB) (dY (aa aB (aa aB ar))))))
def Td:FS:=(aM (bd 1 (l8 aD)) (aM (bd 2 (l8 aD)) (aM (mU (se (ah (ag 0) aD)) (HI 2 (gs (kJ 3) (gs (kJ 4) rD))) (aM (bd 5 (GO (eP (b8 1 xl (ah (ag 4) aD))) (oG q9 (ag 2) aD) (eC .non))) (aM (bd 6 (GO (eP (b8 1 As (ah (ag 4) aD))) (oG q9 (ag 2) aD) (eC .non))) (aM (dq (oG cv (ag 2) (ah (ag 3) aD))) (dq (oG cv (ag 1) (ah (fK (ah (ag 6) (ah (ag 5) aD))) aD))))))) (cS (bK jf (ah (ag 1) aD))))))
def xn:List W->List au->R W:=c9 7 Td
theorem Te(F:iX K "links_of" "links_of" Pt f fd)(B:Bl mg)(QV:bR P w K mg base 1 "has_left" 1 As)(GK:bR P w K mg base 1 "has_right" 1 xl):c7 P w K mg base (iK P w) 2 f fd SU (iZ K mg 1 xn):=
 bS (k:=1) F w5 rfl fun fD A outer s H E hr=>(av (sS 1 w5 (jL ar)) (av (sS 2 w5 (jL ar)) (av (iL (E4 B.enumerate (aa (ae 0) ar)) (oE rfl (d8 (sG 3 w5) (d8 (sG 4 w5) md))) (av (sS 5 w5 (DA (hV (bz GK hr #[0] (aa (ae 4) ar))) (vo PySem.F.slot_list_pop PySem.F.type_list_pop qh (ae 2)) qb)) (av (sS 6 w5 (DA (hV (bz QV hr #[0] (aa (ae 4) ar))) (vo PySem.F.slot_list_pop PySem.F.type_list_pop qh (ae 2)) qb)) (av (cJ (nR PySem.F.slot_list_append PySem.F.type_list_append dr (ae 2) (aa (ae 3) ar))) (aH (cJ (nR PySem.F.slot_list_append PySem.F.type_list_append dr (ae 1) (aa (dY (aa (ae 6) (aa (ae 5) ar))) ar)))))))) (aH (bj (gj k7 B.tuple fx (aa (ae 1) ar)))))))
def PM:FS:=(aM (wH (lg [none] (ie (ag 0)) (kJ 0) x_ (eC .non)) (kJ 1)) (aM (wH (lg [none] (ie (ag 0)) (kJ 0) x_ (eC .non)) (kJ 2)) (aM (mU (se (ah (b8 1 xn (ah (ag 0) aD)) aD)) (HI 2 (gs (kJ 3) (gs (kJ 4) rD))) (aM (gA (eP (iC (e2 bv (ag 4) (eI 0)))) (By (ag 1) (e2 bv (ag 4) (eI 0)) (ag 3) rE) bX) (gA (eP (iC (e2 bv (ag 4) (eI 1)))) (By (ag 2) (e2 bv (ag 4) (eI 1)) (ag 3) rE) bX))) (cS (fK (ah (ag 1) (ah (ag 2) aD)))))))
def Jm:List W->List au->R W:=c9 5 PM
theorem Tf(F:iX K "ups_of" "ups_of" Pu f fd)(B:Bl mg)(vO:bR P w K mg base 2 "links_of" 1 xn):c7 P w K mg base (iK P w) 3 f fd SV (iZ K mg 1 Jm):=
 bS (k:=2) F BU rfl fun fD A outer s H E hr=>(av (r_ (sG 1 BU) (m:=0) (nm:=["place"]) (cap:=[none]) (by first|rfl|kernel_rfl) rfl (nv (ae 0)) (fun _ _ _ _ _=>(sC 0)) (fun _ _ _ _ _=>vU) (fun _ _ _ _ _=>qb)) (av (r_ (sG 2 BU) (m:=0) (nm:=["place"]) (cap:=[none]) (by first|rfl|kernel_rfl) rfl (nv (ae 0)) (fun _ _ _ _ _=>(sC 0)) (fun _ _ _ _ _=>vU) (fun _ _ _ _ _=>qb)) (av (iL (E4 B.enumerate (aa (bz vO hr #[0] (aa (ae 0) ar)) ar)) (oE rfl (d8 (sG 3 BU) (d8 (sG 4 BU) md))) (av (cI (js (be (ae 4) aB)) (aH (DG DF (ae 3) (ae 1) (be (ae 4) aB))) bP) (aH (cI (js (be (ae 4) aB)) (aH (DG DF (ae 3) (ae 2) (be (ae 4) aB))) bP)))) (aH (bj (dY (aa (ae 1) (aa (ae 2) ar))))))))
def Vw:FS:=(cS (GO (eP (iC (e2 bv (e2 bv (ag 0) (eI 0)) (ag 1)))) (e2 bv (e2 bv (ag 0) (eI 0)) (ag 1)) (e2 bv (e2 bv (ag 0) (eI 1)) (ag 1))))
def Gs:List W->List au->R W:=c9 2 Vw
theorem Tg(F:iX K "up_from" "up_from" Pv f fd)  :c7 P w K mg base (iK P w) 1 f fd SX (iZ K mg 2 Gs):=
 bS (k:=0) F SY rfl fun fD A outer s H E hr=>(aH (bj (DA (js (be (be (ae 0) aB) (ae 1))) (be (be (ae 0) aB) (ae 1)) (be (be (ae 0) aB) (ae 1)))))
def Th:FS:=(aM (bd 1 (l8 aD)) (aM (mU (ie (b8 1 xn (ah (ag 0) aD))) (HI 2 (gs (kJ 2) (gs (kJ 3) rD))) (aM (bd 4 (eI 1)) (aM (gA (eP (iC (ag 2))) (bd 4 (e2 cO (ag 4) (e2 bv (ag 1) (ag 2)))) bX) (aM (gA (eP (iC (ag 3))) (bd 4 (e2 cO (ag 4) (e2 bv (ag 1) (ag 3)))) bX) (dq (oG cv (ag 1) (ah (ag 4) aD))))))) (cS (bK jf (ah (ag 1) aD)))))
def D4:List W->List au->R W:=c9 5 Th
theorem Ti(F:iX K "sizes_of" "sizes_of" Pw f fd)(B:Bl mg)(vO:bR P w K mg base 2 "links_of" 1 xn):c7 P w K mg base (iK P w) 3 f fd SZ (iZ K mg 1 D4):=
 bS (k:=2) F w6 rfl fun fD A outer s H E hr=>(av (sS 1 w6 (jL ar)) (av (iL (nv (bz vO hr #[0] (aa (ae 0) ar))) (oE rfl (d8 (sG 2 w6) (d8 (sG 3 w6) md))) (av (sS 4 w6 aB) (av (cI (js (ae 2)) (aH (sS 4 w6 (bC cF (ae 4) (be (ae 1) (ae 2))))) bP) (av (cI (js (ae 3)) (aH (sS 4 w6 (bC cF (ae 4) (be (ae 1) (ae 3))))) bP) (aH (cJ (nR PySem.F.slot_list_append PySem.F.type_list_append dr (ae 1) (aa (ae 4) ar)))))))) (aH (bj (gj k7 B.tuple fx (aa (ae 1) ar))))))
def Tj:FS:=(gA (F_ (eP (e2 Lv (ag 1) (eI 0))) (eP (e2 OV (ag 1) (bK dH (ah (ag 0) aD))))) (uL "NoPlace") bX)
def Au:List W->List au->R W:=c9 2 Tj
theorem Tl(F:iX K "check_place" "check_place" Px f fd)(B:Bl mg)(C:Cls K mg) :c7 P w K mg base (iK P w) 1 f fd S5 (iZ K mg 2 Au):=
 bS (k:=0) F S6 rfl fun fD A outer s H E hr=>(aH (cI (zM (yO (cw w_lt (ae 1) aB) (uD (cw Lw (ae 1) (bT dP B.len bM (aa (ae 0) ar)))))) (aH (tm C.NoPlace)) bP))
def Jn:FS:=(gA (eP (e2 Gb (ag 0) (eC nG))) (uL "TooGreat") bX)
def y8:List W->List au->R W:=c9 1 Jn
theorem PN(F:iX K "check_size" "check_size" Ir f fd)(G:Gc K mg)(C:Cls K mg) :c7 P w K mg base (iK P w) 1 f fd MI (iZ K mg 1 y8):=
 bS (k:=0) F Py rfl fun fD A outer s H E hr=>(aH (cI (cw x8 (ae 0) (Vl G.MOST_PLACES)) (aH (tm C.TooGreat)) bP))
def Ng:FS:=(aM (dq (b8 2 Au (ah (ag 0) (ah (ag 1) aD)))) (cS (rC (ag 0) (eX (e2 lF (e2 cO (ag 1) (eI 1)) (e2 bv (b8 1 D4 (ah (ag 0) aD)) (ag 1)))) (eX (e2 cO (ag 1) (eI 1))))))
def B4:List W->List au->R W:=c9 2 Ng
theorem PP(F:iX K "part_at" "part_at" Iu f fd) (AM:bR P w K mg base 1 "check_place" 2 Au)(GM:bR P w K mg base 3 "sizes_of" 1 D4):c7 P w K mg base (iK P w) 4 f fd MJ (iZ K mg 2 B4):=
 bS (k:=3) F Pz rfl fun fD A outer s H E hr=>(av (cJ (bz AM hr #[0] (aa (ae 0) (aa (ae 1) ar)))) (aH (bj (ma (ae 0) (du (bC j4 (bC cF (ae 1) aB) (be (bz GM hr #[0] (aa (ae 0) ar)) (ae 1)))) (du (bC cF (ae 1) aB))))))
def Nh:FS:=(aM (bd 2 (rC (b8 2 B4 (ah (ag 0) (ah (ag 1) aD))) gN (eX (sf (eI 1))))) (aM (bd 3 (eI 0)) (aM (gA (eP (b8 1 xl (ah (e2 bv (ag 0) (ag 1)) aD))) (bd 3 (e2 bv (b8 1 D4 (ah (ag 0) aD)) (e2 lF (ag 1) (eI 1)))) bX) (aM (bd 4 (e2 lF (bK dH (ah (ag 2) aD)) (ag 3))) (cS (fK (ah (rC (ag 2) gN (eX (ag 4))) (ah (rC (ag 2) (eX (ag 4)) gN) aD))))))))
def rL:List W->List au->R W:=c9 5 Nh
theorem PQ(F:iX K "branches_at" "branches_at" Iv f fd)(B:Bl mg)(GK:bR P w K mg base 1 "has_right" 1 xl)(J7:bR P w K mg base 4 "part_at" 2 B4)(GM:bR P w K mg base 3 "sizes_of" 1 D4):c7 P w K mg base (iK P w) 5 f fd MK (iZ K mg 2 rL):=
 bS (k:=4) F w9 rfl fun fD A outer s H E hr=>(av (sS 2 w9 (ma (bz J7 hr #[0] (aa (ae 0) (aa (ae 1) ar))) fg (du (wN aB)))) (av (sS 3 w9 aB) (av (cI (hV (bz GK hr #[0] (aa (be (ae 0) (ae 1)) ar))) (aH (sS 3 w9 (be (bz GM hr #[0] (aa (ae 0) ar)) (bC j4 (ae 1) aB)))) bP) (av (sS 4 w9 (bC j4 (bT dP B.len bM (aa (ae 2) ar)) (ae 3))) (aH (bj (dY (aa (ma (ae 2) fg (du (ae 4))) (aa (ma (ae 2) (du (ae 4)) fg) ar)))))))))
def Ni:FS:=(aM (bd 3 (eI 0)) (aM (gA (eP (e2 Gb (bK dH (ah (ag 0) aD)) (eI 0))) (bd 3 (e2 cO (ag 3) (eI 1))) bX) (aM (gA (eP (e2 Gb (bK dH (ah (ag 1) aD)) (eI 0))) (bd 3 (e2 cO (ag 3) (eI 2))) bX) (cS (e2 cO (e2 cO (ag 0) (ag 1)) (fK (ah (fK (ah (ag 3) (ah (ag 2) aD))) aD)))))))
def B5:List W->List au->R W:=c9 4 Ni
theorem PR(F:iX K "with_top" "with_top" Iw f fd)(B:Bl mg) :c7 P w K mg base (iK P w) 1 f fd ML (iZ K mg 3 B5):=
 bS (k:=0) F Ab rfl fun fD A outer s H E hr=>(av (sS 3 Ab aB) (av (cI (cw x8 (bT dP B.len bM (aa (ae 0) ar)) aB) (aH (sS 3 Ab (bC cF (ae 3) aB))) bP) (av (cI (cw x8 (bT dP B.len bM (aa (ae 1) ar)) aB) (aH (sS 3 Ab (bC cF (ae 3) aB))) bP) (aH (bj (bC cF (bC cF (ae 0) (ae 1)) (dY (aa (dY (aa (ae 3) (aa (ae 2) ar))) ar))))))))
def Jo:FS:=(aM (bd 4 (b8 2 rL (ah (ag 0) (ah (ag 1) aD)))) (aM (bd 5 (GO (eP (e2 kz (ag 2) (eC (.str [108,101,102,116])))) (ag 3) (e2 bv (ag 4) (eI 0)))) (aM (bd 6 (GO (eP (e2 kz (ag 2) (eC (.str [114,105,103,104,116])))) (ag 3) (e2 bv (ag 4) (eI 1)))) (aM (bd 7 (e2 lF (e2 lF (ag 1) (bK dH (ah (e2 bv (ag 4) (eI 0)) aD))) (bK dH (ah (e2 bv (ag 4) (eI 1)) aD)))) (aM (bd 8 (e2 cO (e2 cO (rC (ag 0) gN (eX (ag 7))) (b8 3 B5 (ah (ag 5) (ah (ag 6) (ah (e2 bv (e2 bv (ag 0) (ag 1)) (eI 1)) aD))))) (rC (ag 0) (eX (e2 cO (ag 1) (eI 1))) gN))) (aM (dq (b8 1 y8 (ah (bK dH (ah (ag 8) aD)) aD))) (cS (ag 8))))))))
def B6:List W->List au->R W:=c9 9 Jo
theorem PU(F:iX K "branch_put" "branch_put" Iy f fd)(B:Bl mg)(xN:bR P w K mg base 5 "branches_at" 2 rL)(Ki:bR P w K mg base 1 "check_size" 1 y8)(J4:bR P w K mg base 1 "with_top" 3 B5):c7 P w K mg base (iK P w) 6 f fd MM (iZ K mg 4 B6):=
 bS (k:=5) F uO rfl fun fD A outer s H E hr=>(av (sS 4 uO (bz xN hr #[0] (aa (ae 0) (aa (ae 1) ar)))) (av (sS 5 uO (DA (cw (je hr) (ae 2) e_) (ae 3) (be (ae 4) aB))) (av (sS 6 uO (DA (cw (je hr) (ae 2) e_) (ae 3) (be (ae 4) aB))) (av (sS 7 uO (bC j4 (bC j4 (ae 1) (bT dP B.len bM (aa (be (ae 4) aB) ar))) (bT dP B.len bM (aa (be (ae 4) aB) ar)))) (av (sS 8 uO (bC cF (bC cF (ma (ae 0) fg (du (ae 7))) (bz J4 hr #[0] (aa (ae 5) (aa (ae 6) (aa (be (be (ae 0) (ae 1)) aB) ar))))) (ma (ae 0) (du (bC cF (ae 1) aB)) fg))) (av (cJ (bz Ki hr #[0] (aa (bT dP B.len bM (aa (ae 8) ar)) ar))) (aH (bj (ae 8)))))))))
def Tn:FS:=(cS (GO (eP (zO (ag 1))) (eI 0) (e2 bv (ag 0) (ag 1))))
def y9:List W->List au->R W:=c9 2 Tn
theorem PV(F:iX K "room_below" "room_below" Iz f fd)  :c7 P w K mg base (iK P w) 1 f fd MN (iZ K mg 2 y9):=
 bS (k:=0) F PB rfl fun fD A outer s H E hr=>(aH (bj (DA (DB (ae 1)) aB (be (ae 0) (ae 1)))))
def To:FS:=(aM (bd 4 (e2 bv (e2 bv (ag 0) (eI 2)) (b8 2 Jl (ah (e2 bv (ag 0) (eI 0)) (ah (ag 1) aD))))) (cS (e2 bv (e2 bv (ag 4) (b8 2 y9 (ah (ag 3) (ah (e2 bv (ag 2) (eI 0)) aD)))) (b8 2 y9 (ah (ag 3) (ah (e2 bv (ag 2) (eI 1)) aD))))))
def tP:List W->List au->R W:=c9 5 To
theorem PX(F:iX K "room_at" "room_at" IA f fd) (QZ:bR P w K mg base 1 "letter_of" 2 Jl)(Ft:bR P w K mg base 1 "room_below" 2 y9):c7 P w K mg base (iK P w) 2 f fd MO (iZ K mg 4 tP):=
 bS (k:=1) F IB rfl fun fD A outer s H E hr=>(av (sS 4 IB (be (be (ae 0) aB) (bz QZ hr #[0] (aa (be (ae 0) aB) (aa (ae 1) ar))))) (aH (bj (be (be (ae 4) (bz Ft hr #[0] (aa (ae 3) (aa (be (ae 2) aB) ar)))) (bz Ft hr #[0] (aa (ae 3) (aa (be (ae 2) aB) ar)))))))
def Nj:FS:=(aM (bd 2 (l8 aD)) (aM (mU (zV (ah (ag 1) (ah (b8 1 xn (ah (ag 1) aD)) aD))) (HI 2 (gs (kJ 3) (gs (kJ 4) rD))) (dq (oG cv (ag 2) (ah (b8 4 tP (ah (ag 0) (ah (e2 bv (ag 3) (eI 1)) (ah (ag 4) (ah (ag 2) aD))))) aD)))) (cS (bK jf (ah (ag 2) aD)))))
def pM:List W->List au->R W:=c9 5 Nj
theorem PY(F:iX K "rooms_of" "rooms_of" IC f fd)(B:Bl mg)(vO:bR P w K mg base 2 "links_of" 1 xn)(zn:bR P w K mg base 2 "room_at" 4 tP):c7 P w K mg base (iK P w) 3 f fd MP (iZ K mg 2 pM):=
 bS (k:=2) F Ae rfl fun fD A outer s H E hr=>(av (sS 2 Ae (jL ar)) (av (iL (LO B.zip (aa (ae 1) (aa (bz vO hr #[0] (aa (ae 1) ar)) ar))) (oE rfl (d8 (sG 3 Ae) (d8 (sG 4 Ae) md))) (aH (cJ (nR PySem.F.slot_list_append PySem.F.type_list_append dr (ae 2) (aa (bz zn hr #[0] (aa (ae 0) (aa (be (ae 3) aB) (aa (ae 4) (aa (ae 2) ar))))) ar))))) (aH (bj (gj k7 B.tuple fx (aa (ae 2) ar))))))
def Tp:FS:=(cS (fK (ah (e2 bv (ag 0) (eI 2)) (ah (e2 bv (ag 0) (eI 3)) (ah (e2 bv (ag 0) (eI 0)) (ah (e2 bv (ag 0) (eI 1)) (ah (e2 bv (ag 0) (eI 4)) aD)))))))
def B8:List W->List au->R W:=c9 1 Tp
theorem PZ(F:iX K "turned" "turned" ID f fd)  :c7 P w K mg base (iK P w) 1 f fd MQ (iZ K mg 1 B8):=
 bS (k:=0) F PD rfl fun fD A outer s H E hr=>(aH (bj (dY (aa (be (ae 0) aB) (aa (be (ae 0) aB) (aa (be (ae 0) aB) (aa (be (ae 0) aB) (aa (be (ae 0) aB) ar))))))))
def Tq:FS:=(cS (e2 cO (e2 cO (rC (ag 0) gN (eX (ag 1))) (fK (ah (fK (ah (e2 bv (e2 bv (ag 0) (ag 1)) (eI 0)) (ah (ag 2) aD))) aD))) (rC (ag 0) (eX (e2 cO (ag 1) (eI 1))) gN)))
def B9:List W->List au->R W:=c9 3 Tq
theorem P0(F:iX K "with_marks" "with_marks" IF f fd)  :c7 P w K mg base (iK P w) 1 f fd MR (iZ K mg 3 B9):=
 bS (k:=0) F PF rfl fun fD A outer s H E hr=>(aH (bj (bC cF (bC cF (ma (ae 0) fg (du (ae 1))) (dY (aa (dY (aa (be (be (ae 0) (ae 1)) aB) (aa (ae 2) ar))) ar))) (ma (ae 0) (du (bC cF (ae 1) aB)) fg))))
def Tr:FS:=(aM (bd 3 (b8 2 rL (ah (e2 bv (ag 2) (eI 0)) (ah (e2 bv (ag 2) (eI 1)) aD)))) (aM (bd 4 (b8 2 rL (ah (e2 bv (ag 2) (eI 2)) (ah (e2 bv (ag 2) (eI 3)) aD)))) (aM (bd 5 (e2 lF (e2 lF (e2 bv (ag 2) (eI 1)) (bK dH (ah (e2 bv (ag 3) (eI 0)) aD))) (bK dH (ah (e2 bv (ag 3) (eI 1)) aD)))) (aM (bd 6 (e2 cO (ag 5) (bK dH (ah (e2 bv (ag 3) (eI 0)) aD)))) (aM (gA (eP (e2 kz (e2 bv (ag 2) (eI 4)) (eC (.str [108,101,102,116])))) (aM (bd 7 (b8 2 pM (ah (ag 0) (ah (e2 bv (ag 4) (eI 0)) aD)))) (cS (fK (ah (e2 cO (e2 cO (rC (ag 1) gN (eX (ag 5))) (ag 7)) (rC (ag 1) (eX (ag 6)) gN)) (ah (bK dH (ah (ag 7) aD)) aD))))) bX) (aM (bd 7 (b8 2 pM (ah (ag 0) (ah (e2 bv (ag 4) (eI 1)) aD)))) (cS (fK (ah (e2 cO (e2 cO (rC (ag 1) gN (eX (ag 6))) (ag 7)) (rC (ag 1) (eX (e2 bv (ag 2) (eI 1))) gN)) (ah (bK dH (ah (ag 7) aD)) aD))))))))))
def y_:List W->List au->R W:=c9 8 Tr
theorem P1(F:iX K "branch_rooms" "branch_rooms" IG f fd)(B:Bl mg)(xN:bR P w K mg base 5 "branches_at" 2 rL)(rO:bR P w K mg base 3 "rooms_of" 2 pM):c7 P w K mg base (iK P w) 6 f fd MS (iZ K mg 3 y_):=
 bS (k:=5) F sm rfl fun fD A outer s H E hr=>(av (sS 3 sm (bz xN hr #[0] (aa (be (ae 2) aB) (aa (be (ae 2) aB) ar)))) (av (sS 4 sm (bz xN hr #[0] (aa (be (ae 2) aB) (aa (be (ae 2) aB) ar)))) (av (sS 5 sm (bC j4 (bC j4 (be (ae 2) aB) (bT dP B.len bM (aa (be (ae 3) aB) ar))) (bT dP B.len bM (aa (be (ae 3) aB) ar)))) (av (sS 6 sm (bC cF (ae 5) (bT dP B.len bM (aa (be (ae 3) aB) ar)))) (av (cI (cw (je hr) (be (ae 2) aB) e_) (av (sS 7 sm (bz rO hr #[0] (aa (ae 0) (aa (be (ae 4) aB) ar)))) (aH (bj (dY (aa (bC cF (bC cF (ma (ae 1) fg (du (ae 5))) (ae 7)) (ma (ae 1) (du (ae 6)) fg)) (aa (bT dP B.len bM (aa (ae 7) ar)) ar)))))) bP) (av (sS 7 sm (bz rO hr #[0] (aa (ae 0) (aa (be (ae 4) aB) ar)))) (aH (bj (dY (aa (bC cF (bC cF (ma (ae 1) fg (du (ae 6))) (ae 7)) (ma (ae 1) (du (be (ae 2) aB)) fg)) (aa (bT dP B.len bM (aa (ae 7) ar)) ar)))))))))))
def Ts:FS:=(aM (bd 4 (b8 1 xn (ah (ag 1) aD))) (aM (bd 5 (b8 1 Jm (ah (ag 1) aD))) (aM (bd 6 (bK yQ (ah (ag 2) aD))) (aM (bd 7 (eI 0)) (aM (bd 8 (ag 3)) (aM (oF (eP (iC (ag 8))) (aM (bd 9 (b8 4 tP (ah (ag 0) (ah (e2 bv (e2 bv (ag 1) (ag 8)) (eI 1)) (ah (e2 bv (ag 4) (ag 8)) (ah (ag 6) aD)))))) (aM (bd 7 (e2 cO (ag 7) (eI 1))) (aM (gA (eP (e2 kz (ag 9) (e2 bv (ag 6) (ag 8)))) DD bX) (aM (By (ag 6) (ag 8) (ag 9) rE) (bd 8 (b8 2 Gs (ah (ag 5) (ah (ag 8) aD))))))))) (cS (fK (ah (bK jf (ah (ag 6) aD)) (ah (ag 7) aD))))))))))
def B_:List W->List au->R W:=c9 10 Ts
theorem P2(F:iX K "climbed" "climbed" IH f fd)(B:Bl mg)(vO:bR P w K mg base 2 "links_of" 1 xn)(zn:bR P w K mg base 2 "room_at" 4 tP)(QP:bR P w K mg base 1 "up_from" 2 Gs)(QM:bR P w K mg base 3 "ups_of" 1 Jm):c7 P w K mg base (iK P w) 4 f fd MU (iZ K mg 4 B_):=
 bS (k:=3) F oK rfl fun fD A outer s H E hr=>(av (sS 4 oK (bz vO hr #[0] (aa (ae 1) ar))) (av (sS 5 oK (bz QM hr #[0] (aa (ae 1) ar))) (av (sS 6 oK (gj OX B.list boot_list (aa (ae 2) ar))) (av (sS 7 oK aB) (av (sS 8 oK (ae 3)) (av (wJ (js (ae 8)) (av (sS 9 oK (bz zn hr #[0] (aa (ae 0) (aa (be (be (ae 1) (ae 8)) aB) (aa (be (ae 4) (ae 8)) (aa (ae 6) ar)))))) (av (sS 7 oK (bC cF (ae 7) aB)) (av (cI (cw (je hr) (ae 9) (be (ae 6) (ae 8))) (aH HH) bP) (av (DG DF (ae 9) (ae 6) (ae 8)) (aH (sS 8 oK (bz QP hr #[0] (aa (ae 5) (aa (ae 8) ar)))))))))) (aH (bj (dY (aa (gj k7 B.tuple fx (aa (ae 6) ar)) (aa (ae 7) ar)))))))))))
def pN:FS:=(aM (qi "Kept" "machine" (ag 0) (ag 1)) (aM (qi "Kept" "tree" (ag 0) (ag 2)) (aM (qi "Kept" "rooms" (ag 0) (b8 2 pM (ah (ag 1) (ah (ag 2) aD)))) (aM (qi "Kept" "many" (ag 0) (bK dH (ah (ag 2) aD))) (aM (qi "Kept" "standing" (ag 0) (l8 aD)) (qi "Kept" "taken_back" (ag 0) (l8 aD)))))))
def fZ:List W->List au->R W:=c9 3 pN
theorem uY(F:iX K "__init__" "Kept.__init__" lJ f fd)(B:Bl mg)(O:Ow K mg)(rO:bR P w K mg base 3 "rooms_of" 2 pM):c7 P w K mg base (iK P w) 4 f fd pJ (iZ K mg 3 fZ):=
 bS (k:=3) F uP rfl fun fD A outer s H E hr=>(av (lH O.Kept (ae 0) (ae 1)) (av (lH O.Kept (ae 0) (ae 2)) (av (lH O.Kept (ae 0) (bz rO hr #[0] (aa (ae 1) (aa (ae 2) ar)))) (av (lH O.Kept (ae 0) (bT dP B.len bM (aa (ae 2) ar))) (av (lH O.Kept (ae 0) (jL ar)) (aH (lH O.Kept (ae 0) (jL ar))))))))
def kP:FS:=(aM (gA (eP (zO (e2 bv (ag 1) (eI 1)))) (aM (qi "Kept" "rooms" (ag 0) (b8 2 pM (ah (jh "Kept" "machine" (ag 0)) (ah (e2 bv (ag 1) (eI 2)) aD)))) (qi "Kept" "many" (ag 0) (bK dH (ah (e2 bv (ag 1) (eI 2)) aD)))) (aM (bd 2 (fK (ah (jh "Kept" "rooms" (ag 0)) (ah (eI 0) aD)))) (aM (gA (eP (iC (e2 bv (ag 1) (eI 4)))) (bd 2 (b8 3 y_ (ah (jh "Kept" "machine" (ag 0)) (ah (jh "Kept" "rooms" (ag 0)) (ah (ag 1) aD))))) bX) (aM (bd 3 (b8 4 B_ (ah (jh "Kept" "machine" (ag 0)) (ah (e2 bv (ag 1) (eI 2)) (ah (e2 bv (ag 2) (eI 0)) (ah (e2 bv (ag 1) (eI 3)) aD)))))) (aM (qi "Kept" "rooms" (ag 0) (e2 bv (ag 3) (eI 0))) (qi "Kept" "many" (ag 0) (e2 cO (e2 bv (ag 2) (eI 1)) (e2 bv (ag 3) (eI 1))))))))) (qi "Kept" "tree" (ag 0) (e2 bv (ag 1) (eI 2))))
def dB:List W->List au->R W:=c9 4 kP
theorem tQ(F:iX K "carry_out" "Kept.carry_out" kM f fd)(B:Bl mg)(O:Ow K mg)(Kj:bR P w K mg base 6 "branch_rooms" 3 y_)(Km:bR P w K mg base 4 "climbed" 4 B_)(rO:bR P w K mg base 3 "rooms_of" 2 pM):c7 P w K mg base (iK P w) 7 f fd nX (iZ K mg 2 dB):=
 bS (k:=6) F iE rfl fun fD A outer s H E hr=>(av (cI (DB #[19]) (av (lH O.Kept (ae 0) (bz rO hr #[0] (aa #[17] (aa #[19] ar)))) (aH (lH O.Kept (ae 0) (bT dP B.len bM (aa #[19] ar))))) (av (sS 2 iE (dY (aa #[17] (aa aB ar)))) (av (cI (js #[19]) (aH (sS 2 iE (bz Kj hr #[0] (aa #[17] (aa #[17] (aa (ae 1) ar)))))) bP) (av (sS 3 iE (bz Km hr #[0] (aa #[17] (aa #[19] (aa (be (ae 2) aB) (aa #[19] ar)))))) (av (lH O.Kept (ae 0) (be (ae 3) aB)) (aH (lH O.Kept (ae 0) (bC cF (be (ae 2) aB) (be (ae 3) aB))))))))) (aH (lH O.Kept (ae 0) #[19])))
def qu:FS:=(aM (dq (ig "Kept" "carry_out" 2 dB (ag 0) (ah (ag 1) aD))) (aM (dq (oG cv (jh "Kept" "standing" (ag 0)) (ah (ag 1) aD))) (qi "Kept" "taken_back" (ag 0) (l8 aD))))
def d_:List W->List au->R W:=c9 2 qu
theorem vK(F:iX K "do_deed" "Kept.do_deed" mx f fd)(O:Ow K mg)(dC:iz P w K mg base 7 "Kept" "carry_out" 2 dB):c7 P w K mg base (iK P w) 8 f fd qk (iZ K mg 2 d_):=
 bS (k:=7) F vG rfl fun fD A outer s H E hr=>(av (cJ (kK dC hr #[0] (ae 0) (aa (ae 1) ar))) (av (cJ (nR PySem.F.slot_list_append PySem.F.type_list_append dr #[17] (aa (ae 1) ar))) (aH (lH O.Kept (ae 0) (jL ar)))))
def uZ:FS:=(dq (ig "Kept" "do_deed" 2 d_ (ag 0) (ah (fK (ah (jh "Kept" "tree" (ag 0)) (ah (ag 1) (ah (b8 3 B9 (ah (jh "Kept" "tree" (ag 0)) (ah (ag 1) (ah (ag 2) aD)))) (ah (ag 1) (ah (eC .non) aD)))))) aD)))
def eU:List W->List au->R W:=c9 3 uZ
theorem tU(F:iX K "mark_deed" "Kept.mark_deed" kN f fd)(O:Ow K mg)(eh:iz P w K mg base 8 "Kept" "do_deed" 2 d_)(Kn:bR P w K mg base 1 "with_marks" 3 B9):c7 P w K mg base (iK P w) 9 f fd nY (iZ K mg 3 eU):=
 bS (k:=8) F tJ rfl fun fD A outer s H E hr=>(aH (cJ (kK eh hr #[0] (ae 0) (aa (dY (aa #[17] (aa (ae 1) (aa (bz Kn hr #[0] (aa #[17] (aa (ae 1) (aa (ae 2) ar)))) (aa (ae 1) (aa qb ar)))))) ar))))
def D5:FS:=(aM (dq (b8 2 Au (ah (jh "Kept" "tree" (ag 0)) (ah (ag 1) aD)))) (dq (ig "Kept" "mark_deed" 3 eU (ag 0) (ah (ag 1) (ah (b8 1 Jk (ah (e2 cO (e2 bv (e2 bv (jh "Kept" "tree" (ag 0)) (ag 1)) (eI 1)) (ag 2)) aD)) aD)))))
def kQ:List W->List au->R W:=c9 3 D5
theorem B'(F:iX K "put" "Kept.put" su f fd)(O:Ow K mg)(fI:iz P w K mg base 9 "Kept" "mark_deed" 3 eU)(AM:bR P w K mg base 1 "check_place" 2 Au)(Q1:bR P w K mg base 1 "in_order" 1 Jk):c7 P w K mg base (iK P w) 10 f fd xb (iZ K mg 3 kQ):=
 bS (k:=9) F BV rfl fun fD A outer s H E hr=>(av (cJ (bz AM hr #[0] (aa #[17] (aa (ae 1) ar)))) (aH (cJ (kK fI hr #[0] (ae 0) (aa (ae 1) (aa (bz Q1 hr #[0] (aa (bC cF (be (be #[17] (ae 1)) aB) (ae 2)) ar)) ar))))))
def Cb:FS:=(aM (dq (b8 2 Au (ah (jh "Kept" "tree" (ag 0)) (ah (ag 1) aD)))) (dq (ig "Kept" "mark_deed" 3 eU (ag 0) (ah (ag 1) (ah (Fb (e2 bv (e2 bv (jh "Kept" "tree" (ag 0)) (ag 1)) (eI 1)) (ag 2)) aD)))))
def jP:List W->List au->R W:=c9 3 Cb
theorem Av(F:iX K "take" "Kept.take" ql f fd)(O:Ow K mg)(fI:iz P w K mg base 9 "Kept" "mark_deed" 3 eU)(AM:bR P w K mg base 1 "check_place" 2 Au):c7 P w K mg base (iK P w) 10 f fd vw (iZ K mg 3 jP):=
 bS (k:=9) F Ag rfl fun fD A outer s H E hr=>(av (cJ (bz AM hr #[0] (aa #[17] (aa (ae 1) ar)))) (aH (cJ (kK fI hr #[0] (ae 0) (aa (ae 1) (aa (Pm (be (be #[17] (ae 1)) aB) (ae 2)) ar))))))
def yk:FS:=(aM (bd 4 (b8 4 B6 (ah (jh "Kept" "tree" (ag 0)) (ah (ag 1) (ah (ag 2) (ah (ag 3) aD)))))) (dq (ig "Kept" "do_deed" 2 d_ (ag 0) (ah (fK (ah (jh "Kept" "tree" (ag 0)) (ah (ag 1) (ah (ag 4) (ah (e2 lF (e2 cO (ag 1) (bK dH (ah (ag 4) aD))) (bK dH (ah (jh "Kept" "tree" (ag 0)) aD))) (ah (ag 2) aD)))))) aD))))
def iq:List W->List au->R W:=c9 5 yk
theorem xo(F:iX K "branch" "Kept.branch" nD f fd)(B:Bl mg)(O:Ow K mg)(eh:iz P w K mg base 8 "Kept" "do_deed" 2 d_)(Kx:bR P w K mg base 6 "branch_put" 4 B6):c7 P w K mg base (iK P w) 9 f fd rH (iZ K mg 4 iq):=
 bS (k:=8) F qm rfl fun fD A outer s H E hr=>(av (sS 4 qm (bz Kx hr #[0] (aa #[17] (aa (ae 1) (aa (ae 2) (aa (ae 3) ar)))))) (aH (cJ (kK eh hr #[0] (ae 0) (aa (dY (aa #[17] (aa (ae 1) (aa (ae 4) (aa (bC j4 (bC cF (ae 1) (bT dP B.len bM (aa (ae 4) ar))) (bT dP B.len bM (aa #[17] ar))) (aa (ae 2) ar)))))) ar)))))
def Aw:FS:=(dq (ig "Kept" "do_deed" 2 d_ (ag 0) (ah (fK (ah (jh "Kept" "tree" (ag 0)) (ah (eC .non) (ah (ag 1) (ah (eC .non) (ah (eC .non) aD)))))) aD)))
def gl:List W->List au->R W:=c9 2 Aw
theorem yl(F:iX K "whole" "Kept.whole" oM f fd)(O:Ow K mg)(eh:iz P w K mg base 8 "Kept" "do_deed" 2 d_):c7 P w K mg base (iK P w) 9 f fd tK (iZ K mg 2 gl):=
 bS (k:=8) F yf rfl fun fD A outer s H E hr=>(aH (cJ (kK eh hr #[0] (ae 0) (aa (dY (aa #[17] (aa qb (aa (ae 1) (aa qb (aa qb ar)))))) ar))))
def qv:FS:=(aM (gA (eP (e2 kz (bK dH (ah (jh "Kept" "standing" (ag 0)) aD)) (eI 0))) (uL "NothingDone") bX) (aM (bd 1 (oG q9 (jh "Kept" "standing" (ag 0)) aD)) (aM (dq (ig "Kept" "carry_out" 2 dB (ag 0) (ah (b8 1 B8 (ah (ag 1) aD)) aD))) (dq (oG cv (jh "Kept" "taken_back" (ag 0)) (ah (ag 1) aD))))))
def gn:List W->List au->R W:=c9 2 qv
theorem Ax(F:iX K "back" "Kept.back" qo f fd)(B:Bl mg)(C:Cls K mg)(O:Ow K mg)(dC:iz P w K mg base 7 "Kept" "carry_out" 2 dB)(Kp:bR P w K mg base 1 "turned" 1 B8):c7 P w K mg base (iK P w) 8 f fd vx (iZ K mg 1 gn):=
 bS (k:=7) F tL rfl fun fD A outer s H E hr=>(av (cI (cw (je hr) (bT dP B.len bM (aa #[17] ar)) aB) (aH (tm C.NothingDone)) bP) (av (sS 1 tL (vo PySem.F.slot_list_pop PySem.F.type_list_pop qh #[17])) (av (cJ (kK dC hr #[0] (ae 0) (aa (bz Kp hr #[0] (aa (ae 1) ar)) ar))) (aH (cJ (nR PySem.F.slot_list_append PySem.F.type_list_append dr #[17] (aa (ae 1) ar)))))))
def oP:FS:=(aM (gA (eP (e2 kz (bK dH (ah (jh "Kept" "taken_back" (ag 0)) aD)) (eI 0))) (uL "NothingDone") bX) (aM (bd 1 (oG q9 (jh "Kept" "taken_back" (ag 0)) aD)) (aM (dq (ig "Kept" "carry_out" 2 dB (ag 0) (ah (ag 1) aD))) (dq (oG cv (jh "Kept" "standing" (ag 0)) (ah (ag 1) aD))))))
def hZ:List W->List au->R W:=c9 2 oP
theorem ym(F:iX K "again" "Kept.again" oN f fd)(B:Bl mg)(C:Cls K mg)(O:Ow K mg)(dC:iz P w K mg base 7 "Kept" "carry_out" 2 dB):c7 P w K mg base (iK P w) 8 f fd tM (iZ K mg 1 hZ):=
 bS (k:=7) F rJ rfl fun fD A outer s H E hr=>(av (cI (cw (je hr) (bT dP B.len bM (aa #[17] ar)) aB) (aH (tm C.NothingDone)) bP) (av (sS 1 rJ (vo PySem.F.slot_list_pop PySem.F.type_list_pop qh #[17])) (av (cJ (kK dC hr #[0] (ae 0) (aa (ae 1) ar))) (aH (cJ (nR PySem.F.slot_list_append PySem.F.type_list_append dr #[17] (aa (ae 1) ar)))))))
def vL:FS:=(cS (jh "Kept" "tree" (ag 0)))
def ii:List W->List au->R W:=c9 1 vL
theorem u0(F:iX K "tree_now" "Kept.tree_now" lK f fd)(O:Ow K mg) :c7 P w K mg base (iK P w) 1 f fd pK (iZ K mg 1 ii):=
 bS (k:=0) F uS rfl fun fD A outer s H E hr=>(aH (bj #[17]))
def u3:FS:=(cS (jh "Kept" "rooms" (ag 0)))
def gQ:List W->List au->R W:=c9 1 u3
theorem tV(F:iX K "rooms_now" "Kept.rooms_now" kO f fd)(O:Ow K mg) :c7 P w K mg base (iK P w) 1 f fd nZ (iZ K mg 1 gQ):=
 bS (k:=0) F tN rfl fun fD A outer s H E hr=>(aH (bj #[17]))
def vM:FS:=(cS (e2 bv (e2 bv (jh "Kept" "machine" (ag 0)) (eI 1)) (GO (eP (e2 Gb (bK dH (ah (jh "Kept" "rooms" (ag 0)) aD)) (eI 0))) (e2 bv (jh "Kept" "rooms" (ag 0)) (sf (eI 1))) (eI 0))))
def ij:List W->List au->R W:=c9 1 vM
theorem u4(F:iX K "lets_now" "Kept.lets_now" lM f fd)(B:Bl mg)(O:Ow K mg) :c7 P w K mg base (iK P w) 1 f fd pL (iZ K mg 1 ij):=
 bS (k:=0) F uU rfl fun fD A outer s H E hr=>(aH (bj (be (be #[17] aB) (DA (cw x8 (bT dP B.len bM (aa #[17] ar)) aB) (be #[17] (wN aB)) aB))))
def Tt:FS:=(aM (gA (eP (e2 kz (bK dH (ah (ag 0) aD)) (eI 0))) (cS (eI 0)) bX) (cS (e2 bv (ag 0) (e2 iY (ag 1) (bK dH (ah (ag 0) aD))))))
def my:List W->List au->R W:=c9 2 Tt
theorem P3(F:iX K "_law_cell" "_law_cell" II f fd)(B:Bl mg) :c7 P w K mg base (iK P w) 1 f fd MV (iZ K mg 2 my):=
 bS (k:=0) F PH rfl fun fD A outer s H E hr=>(av (cI (cw (je hr) (bT dP B.len bM (aa (ae 0) ar)) aB) (aH (bj aB)) bP) (aH (bj (be (ae 0) (bC ic (ae 1) (bT dP B.len bM (aa (ae 0) ar)))))))
def Tu:FS:=(aM (bd 3 (e2 iY (e2 jd (e2 cO (e2 cO (e2 cO (ag 0) (e2 jd (e2 jd (eI 7) (ag 1)) (ag 1))) (e2 jd (eI 13) (ag 1))) (ag 2)) (eI 69621)) (eI 2147483647))) (cS (e2 iY (e2 jd (e2 iY (e2 cO (e2 cO (e2 jd (ag 3) (e2 cO (e2 vk (ag 3) (eI 1009)) (eI 3))) (e2 jd (eI 31) (ag 1))) (ag 2)) (eI 2147483629)) (eI 48271)) (eI 1000000007))))
def tW:List W->List au->R W:=c9 4 Tu
theorem P4(F:iX K "_law_mixed" "_law_mixed" IJ f fd)  :c7 P w K mg base (iK P w) 1 f fd MW (iZ K mg 3 tW):=
 bS (k:=0) F IK rfl fun fD A outer s H E hr=>(av (sS 3 IK (bC ic (bC j8 (bC cF (bC cF (bC cF (ae 0) (bC j8 (bC j8 aB (ae 1)) (ae 1))) (bC j8 aB (ae 1))) (ae 2)) aB) aB)) (aH (bj (bC ic (bC j8 (bC ic (bC cF (bC cF (bC j8 (ae 3) (bC cF (bC uE (ae 3) aB) aB)) (bC j8 aB (ae 1))) (ae 2)) aB) aB) aB))))
def Nk:FS:=(aM (bd 3 (l8 aD)) (aM (bd 4 (eI 0)) (aM (gA (eP (e2 OV (ag 0) (e2 R_ (eI 10) (eI 18)))) (bd 4 (ag 0)) bX) (aM (mU (dQ (ah (ag 1) aD)) (kJ 5) (gA (eP (e2 Gb (ag 4) (eI 0))) (aM (dq (oG cv (ag 3) (ah (e2 iY (ag 4) (eI 64)) aD))) (bd 4 (e2 vk (ag 4) (eI 64)))) (dq (oG cv (ag 3) (ah (b8 3 tW (ah (ag 0) (ah (ag 5) (ah (ag 2) aD)))) aD))))) (cS (ag 3))))))
def mz:List W->List au->R W:=c9 6 Nk
theorem P5(F:iX K "_law_draws" "_law_draws" IL f fd)(B:Bl mg)(xS:bR P w K mg base 1 "_law_mixed" 3 tW):c7 P w K mg base (iK P w) 2 f fd MX (iZ K mg 3 mz):=
 bS (k:=1) F uV rfl fun fD A outer s H E hr=>(av (sS 3 uV (jL ar)) (av (sS 4 uV aB) (av (cI (cw Lw (ae 0) (bC Sa aB aB)) (aH (sS 4 uV (ae 0))) bP) (av (iL (ip B.range (aa (ae 1) ar)) (sG 5 uV) (aH (cI (cw x8 (ae 4) aB) (av (cJ (nR PySem.F.slot_list_append PySem.F.type_list_append dr (ae 3) (aa (bC ic (ae 4) aB) ar))) (aH (sS 4 uV (bC uE (ae 4) aB)))) (aH (cJ (nR PySem.F.slot_list_append PySem.F.type_list_append dr (ae 3) (aa (bz xS hr #[0] (aa (ae 0) (aa (ae 5) (aa (ae 2) ar)))) ar))))))) (aH (bj (ae 3)))))))
def Cc(Ue:List W->List au->R W):FS:=(aM (gA (eP (wS "tuple" (ag 1))) (aM (gA (F_ (A8 (eP (wS "tuple" (ag 0)))) (eP (e2 KB (bK dH (ah (ag 0) aD)) (bK dH (ah (ag 1) aD))))) (cS (eC (.bl false))) bX) (aM (mU (dQ (ah (bK dH (ah (ag 1) aD)) aD)) (kJ 2) (gA (A8 (eP (b8 2 Ue (ah (e2 bv (ag 0) (ag 2)) (ah (e2 bv (ag 1) (ag 2)) aD))))) (cS (eC (.bl false))) bX)) (cS (eC (.bl true))))) bX) (aM (gA (eP (zO (ag 1))) (cS (zO (ag 0))) bX) (aM (gA (eP (wS "bool" (ag 1))) (cS (zN (wS "bool" (ag 0)) (e2 kz (ag 0) (ag 1)))) bX) (aM (gA (eP (wS "int" (ag 1))) (cS (zN (wS "int" (ag 0)) (zN (Lr (wS "bool" (ag 0))) (e2 kz (ag 0) (ag 1))))) bX) (cS (zN (wS "str" (ag 0)) (e2 kz (ag 0) (ag 1))))))))
def j_:Nat->List W->List au->R W
 |0=>fun _ _=>.bad
 |k+1=>c9 3 (Cc (j_ k))
theorem Fc{J':Addr}{Q3:FuncData}(zq:iX K "_law_same" "_law_same" IM J' Q3)(CV:mg "_law_same"=some (.ref J'))(B:Bl mg) :∀k:Nat,bR P w K mg base (0+k) "_law_same" 2 (j_ k)
 |0=>HP (ps:=IN) zq CV rfl (fun _ _ _ _ _ _ us hl=>match us,hl with|[_,_],_=>rfl)
 |k+1=>by
  have rQ:=Fc zq CV B  k
  exact zP (ps:=IN) zq CV rfl (fun _ _ _ _ _ _ us hl=>match us,hl with|[_,_],_=>rfl) (bS (k:=0+k) zq IP rfl fun fD A outer s H E hr=>(av (cI (hV (vp B.isinstance B.tuple fx (ae 1))) (av (cI (zM (yO (kI (hV (vp B.isinstance B.tuple fx (ae 0)))) (uD (cw (OW hr) (bT dP B.len bM (aa (ae 0) ar)) (bT dP B.len bM (aa (ae 1) ar)))))) (aH (bj oz)) bP) (av (iL (ip B.range (aa (bT dP B.len bM (aa (ae 1) ar)) ar)) (sG 2 IP) (aH (cI (kI (hV (bz rQ hr #[0] (aa (be (ae 0) (ae 2)) (aa (be (ae 1) (ae 2)) ar))))) (aH (bj oz)) bP))) (aH (bj oz)))) bP) (av (cI (DB (ae 1)) (aH (bj (R7 (ae 0)))) bP) (av (cI (hV (vp B.isinstance B.bool vc (ae 1))) (aH (bj (yP (vp B.isinstance B.bool vc (ae 0)) (Bs (sY (je hr) (ae 0) (ae 1)))))) bP) (av (cI (hV (vp B.isinstance B.int qN (ae 1))) (aH (bj (yP (vp B.isinstance B.int qN (ae 0)) (yP (R6 (vp B.isinstance B.bool vc (ae 0))) (Bs (sY (je hr) (ae 0) (ae 1))))))) bP) (aH (bj (yP (vp B.isinstance B.str boot_str (ae 0)) (Bs (sY (je hr) (ae 0) (ae 1)))))))))))
def Nl:FS:=(aM (bd 3 (eC (.str [65,66,67,68,69,70,71,72,73,74,75,76,77,78,79,80,81,82,83,84,85,86,87,88,89,90,97,98,99,100,101,102,103,104,105,106,107,108,109,110,111,112,113,114,115,116,117,118,119,120,121,122]))) (aM (bd 4 (eC (.str []))) (aM (mU (ie (b8 3 mz (ah (ag 0) (ah (ag 1) (ah (ag 2) aD))))) (kJ 5) (aM (bd 6 (e2 iY (ag 5) (bK dH (ah (ag 3) aD)))) (aM (bd 4 (e2 cO (ag 4) (e2 bv (ag 3) (ag 6)))) (bd 3 (e2 cO (rC (ag 3) gN (eX (ag 6))) (rC (ag 3) (eX (e2 cO (ag 6) (eI 1))) gN)))))) (cS (ag 4)))))
def za:List W->List au->R W:=c9 7 Nl
theorem P6(F:iX K "_law_pool" "_law_pool" IQ f fd)(B:Bl mg)(qG:bR P w K mg base 2 "_law_draws" 3 mz):c7 P w K mg base (iK P w) 3 f fd MY (iZ K mg 3 za):=
 bS (k:=2) F sw rfl fun fD A outer s H E hr=>(av (sS 3 sw e_) (av (sS 4 sw e_) (av (iL (nv (bz qG hr #[0] (aa (ae 0) (aa (ae 1) (aa (ae 2) ar))))) (sG 5 sw) (av (sS 6 sw (bC ic (ae 5) (bT dP B.len bM (aa (ae 3) ar)))) (av (sS 4 sw (bC cF (ae 4) (be (ae 3) (ae 6)))) (aH (sS 3 sw (bC cF (ma (ae 3) fg (du (ae 6))) (ma (ae 3) (du (bC cF (ae 6) aB)) fg))))))) (aH (bj (ae 4))))))
def Nm:FS:=(cS (KC pH (eC (.str [])) (ah (bK lG (ah (lg [none,some 0,some 1] (dQ (ah (bK dH (ah (ag 0) aD)) aD)) (kJ 0) (eP (e2 kz (e2 HC (e2 OT (ag 2) (ag 0)) (eI 1)) (eI 1))) (e2 bv (ag 1) (ag 0))) aD)) aD)))
def Cd:List W->List au->R W:=c9 2 Nm
theorem P7(F:iX K "_law_marks" "_law_marks" IR f fd)(B:Bl mg) :c7 P w K mg base (iK P w) 1 f fd MZ (iZ K mg 2 Cd):=
 bS (k:=0) F PJ rfl fun fD A outer s H E hr=>(aH (bj (LA PySem.F.slot_str_join PySem.F.type_str_join vT e_ (aa (bT zU B.sorted qM (aa (DJ (nm:=["_law_k","_law_pool_here","_law_number"]) (cap:=[none,some 0,some 1]) (by first|rfl|kernel_rfl) rfl (ip B.range (aa (bT dP B.len bM (aa (ae 0) ar)) ar)) (fun _ _ _ _ _=>(sC 0)) (fun _ _ _ _ _=>(E3 (cw (je hr) (bC OU (bC Sb (ae 2) (ae 0)) aB) aB))) (fun _ _ _ _ _=>(be (ae 1) (ae 0)))) ar)) ar))))
def Nn:FS:=(aM (bd 2 (l8 aD)) (aM (bd 3 (eI 0)) (aM (mU (ie (ag 0)) (kJ 4) (aM (bd 5 (e2 iY (ag 4) (eI 4))) (aM (gA (eP (e2 Gb (e2 vk (e2 cO (ag 5) (eI 1)) (eI 2)) (ag 3))) (bd 5 (eI 0)) bX) (aM (dq (oG cv (ag 2) (ah (fK (ah (ag 5) (ah (b8 2 Cd (ah (ag 1) (ah (e2 iY (e2 vk (ag 4) (eI 4)) (eI 16)) aD))) aD))) aD))) (bd 3 (e2 lF (e2 cO (ag 3) (eI 1)) (e2 vk (e2 cO (ag 5) (eI 1)) (eI 2)))))))) (aM (oF (eP (e2 Gb (ag 3) (eI 1))) (aM (dq (oG cv (ag 2) (ah (fK (ah (eI 3) (ah (e2 bv (e2 bv (ag 2) (e2 lF (ag 3) (eI 1))) (eI 1)) aD))) aD))) (bd 3 (e2 lF (ag 3) (eI 1))))) (cS (bK jf (ah (ag 2) aD)))))))
def xp:List W->List au->R W:=c9 6 Nn
theorem P8(F:iX K "_law_tree" "_law_tree" IS f fd)(B:Bl mg)(J_:bR P w K mg base 1 "_law_marks" 2 Cd):c7 P w K mg base (iK P w) 2 f fd M0 (iZ K mg 2 xp):=
 bS (k:=1) F qp rfl fun fD A outer s H E hr=>(av (sS 2 qp (jL ar)) (av (sS 3 qp aB) (av (iL (nv (ae 0)) (sG 4 qp) (av (sS 5 qp (bC ic (ae 4) aB)) (av (cI (cw x8 (bC uE (bC cF (ae 5) aB) aB) (ae 3)) (aH (sS 5 qp aB)) bP) (av (cJ (nR PySem.F.slot_list_append PySem.F.type_list_append dr (ae 2) (aa (dY (aa (ae 5) (aa (bz J_ hr #[0] (aa (ae 1) (aa (bC ic (bC uE (ae 4) aB) aB) ar))) ar))) ar))) (aH (sS 3 qp (bC j4 (bC cF (ae 3) aB) (bC uE (bC cF (ae 5) aB) aB)))))))) (av (wJ (cw x8 (ae 3) aB) (av (cJ (nR PySem.F.slot_list_append PySem.F.type_list_append dr (ae 2) (aa (dY (aa aB (aa (be (be (ae 2) (bC j4 (ae 3) aB)) aB) ar))) ar))) (aH (sS 3 qp (bC j4 (ae 3) aB))))) (aH (bj (gj k7 B.tuple fx (aa (ae 2) ar))))))))
def No:FS:=(aM (bd 1 (l8 aD)) (aM (bd 2 (l8 aD)) (aM (mU (dQ (ah (bK dH (ah (ag 0) aD)) aD)) (kJ 3) (aM (bd 4 (eC .non)) (aM (bd 5 (eC .non)) (aM (gA (eP (e2 OV (e2 bv (e2 bv (ag 0) (ag 3)) (eI 0)) (eI 2))) (bd 5 (oG q9 (ag 1) aD)) bX) (aM (gA (eP (e2 kz (e2 iY (e2 bv (e2 bv (ag 0) (ag 3)) (eI 0)) (eI 2)) (eI 1))) (bd 4 (oG q9 (ag 1) aD)) bX) (aM (dq (oG cv (ag 2) (ah (fK (ah (ag 4) (ah (ag 5) aD))) aD))) (dq (oG cv (ag 1) (ah (ag 3) aD))))))))) (cS (ag 2)))))
def Ce:List W->List au->R W:=c9 6 No
theorem P9(F:iX K "_law_links" "_law_links" IT f fd)(B:Bl mg) :c7 P w K mg base (iK P w) 1 f fd M1 (iZ K mg 1 Ce):=
 bS (k:=0) F qr rfl fun fD A outer s H E hr=>(av (sS 1 qr (jL ar)) (av (sS 2 qr (jL ar)) (av (iL (ip B.range (aa (bT dP B.len bM (aa (ae 0) ar)) ar)) (sG 3 qr) (av (sS 4 qr qb) (av (sS 5 qr qb) (av (cI (cw Lw (be (be (ae 0) (ae 3)) aB) aB) (aH (sS 5 qr (vo PySem.F.slot_list_pop PySem.F.type_list_pop qh (ae 1)))) bP) (av (cI (cw (je hr) (bC ic (be (be (ae 0) (ae 3)) aB) aB) aB) (aH (sS 4 qr (vo PySem.F.slot_list_pop PySem.F.type_list_pop qh (ae 1)))) bP) (av (cJ (nR PySem.F.slot_list_append PySem.F.type_list_append dr (ae 2) (aa (dY (aa (ae 4) (aa (ae 5) ar))) ar))) (aH (cJ (nR PySem.F.slot_list_append PySem.F.type_list_append dr (ae 1) (aa (ae 3) ar)))))))))) (aH (bj (ae 2))))))
def Np:FS:=(aM (bd 4 (bK jf (ah (lg [none,some 3] (dQ (ah (ag 1) aD)) (kJ 0) x_ (e2 kz (e2 iY (e2 bv (ag 1) (ag 0)) (eI 2)) (eI 1))) aD))) (aM (bd 5 (l8 aD)) (aM (bd 6 (ag 1)) (aM (mU (dQ (ah (e2 Bu (eI 1) (bK dH (ah (ag 0) aD))) aD)) (kJ 7) (aM (bd 8 (l8 aD)) (aM (mU (dQ (ah (ag 1) aD)) (kJ 9) (aM (dq (oG cv (ag 8) (ah (bK jf (ah (lg [none,some 2,some 3,some 6] (dQ (ah (ag 1) aD)) (kJ 0) x_ (e2 iY (e2 bv (ag 2) (e2 cO (ag 3) (ag 0))) (ag 1))) aD)) aD))) (bd 6 (e2 cO (ag 6) (ag 1))))) (dq (oG cv (ag 5) (ah (bK jf (ah (ag 8) aD)) aD)))))) (cS (fK (ah (ag 0) (ah (ag 4) (ah (bK jf (ah (ag 5) aD)) aD)))))))))
def Cf:List W->List au->R W:=c9 10 Np
theorem P_(F:iX K "_law_machine" "_law_machine" IU f fd)(B:Bl mg) :c7 P w K mg base (iK P w) 1 f fd M2 (iZ K mg 4 Cf):=
 bS (k:=0) F qs rfl fun fD A outer s H E hr=>(av (sS 4 qs (gj k7 B.tuple fx (aa (DJ (nm:=["_law_k","_law_draws_here"]) (cap:=[none,some 3]) (by first|rfl|kernel_rfl) rfl (ip B.range (aa (ae 1) ar)) (fun _ _ _ _ _=>(sC 0)) (fun _ _ _ _ _=>vU) (fun _ _ _ _ _=>(sY (je hr) (bC ic (be (ae 1) (ae 0)) aB) aB))) ar))) (av (sS 5 qs (jL ar)) (av (sS 6 qs (ae 1)) (av (iL (ip B.range (aa (bC Mz aB (bT dP B.len bM (aa (ae 0) ar))) ar)) (sG 7 qs) (av (sS 8 qs (jL ar)) (av (iL (ip B.range (aa (ae 1) ar)) (sG 9 qs) (av (cJ (nR PySem.F.slot_list_append PySem.F.type_list_append dr (ae 8) (aa (gj k7 B.tuple fx (aa (DJ (nm:=["_law_r","_law_top","_law_draws_here","_law_at"]) (cap:=[none,some 2,some 3,some 6]) (by first|rfl|kernel_rfl) rfl (ip B.range (aa (ae 1) ar)) (fun _ _ _ _ _=>(sC 0)) (fun _ _ _ _ _=>vU) (fun _ _ _ _ _=>(bC ic (be (ae 2) (bC cF (ae 3) (ae 0))) (ae 1)))) ar)) ar))) (aH (sS 6 qs (bC cF (ae 6) (ae 1)))))) (aH (cJ (nR PySem.F.slot_list_append PySem.F.type_list_append dr (ae 5) (aa (gj k7 B.tuple fx (aa (ae 8) ar)) ar))))))) (aH (bj (dY (aa (ae 0) (aa (ae 4) (aa (gj k7 B.tuple fx (aa (ae 5) ar)) ar))))))))))
def Nq:FS:=(aM (bd 2 (eI 0)) (aM (mU (ie (ag 0)) (kJ 3) (bd 2 (e2 cO (e2 jd (eI 2) (ag 2)) (bK yZ (ah (e2 (GP false) (ag 3) (ag 1)) aD))))) (cS (ag 2))))
def zb:List W->List au->R W:=c9 4 Nq
theorem P'(F:iX K "_law_letter" "_law_letter" IV f fd)(B:Bl mg) :c7 P w K mg base (iK P w) 1 f fd M3 (iZ K mg 2 zb):=
 bS (k:=0) F An rfl fun fD A outer s H E hr=>(av (sS 2 An aB) (av (iL (nv (ae 0)) (sG 3 An) (aH (sS 2 An (bC cF (bC j8 aB (ae 2)) (gj DN B.int qN (aa (sY (Ly hr) (ae 3) (ae 1)) ar)))))) (aH (bj (ae 2)))))
def Nr:FS:=(aM (bd 2 (l8 aD)) (aM (bd 3 (l8 aD)) (aM (mU (ie (ag 1)) (HI 2 (gs (kJ 4) (gs (kJ 5) rD))) (aM (bd 6 (eI 0)) (aM (bd 7 (eI 0)) (aM (gA (eP (e2 OV (ag 4) (eI 2))) (bd 7 (oG q9 (ag 2) aD)) bX) (aM (gA (eP (e2 kz (e2 iY (ag 4) (eI 2)) (eI 1))) (bd 6 (oG q9 (ag 2) aD)) bX) (aM (dq (oG cv (ag 2) (ah (e2 bv (e2 bv (e2 bv (e2 bv (ag 0) (eI 2)) (b8 2 zb (ah (e2 bv (ag 0) (eI 0)) (ah (ag 5) aD)))) (ag 6)) (ag 7)) aD))) (dq (oG cv (ag 3) (ah (e2 bv (ag 2) (sf (eI 1))) aD))))))))) (cS (ag 3)))))
def xq:List W->List au->R W:=c9 8 Nr
theorem Qa(F:iX K "_law_run" "_law_run" IW f fd) (Kg:bR P w K mg base 1 "_law_letter" 2 zb):c7 P w K mg base (iK P w) 2 f fd M4 (iZ K mg 2 xq):=
 bS (k:=1) F oO rfl fun fD A outer s H E hr=>(av (sS 2 oO (jL ar)) (av (sS 3 oO (jL ar)) (av (iL (nv (ae 1)) (oE rfl (d8 (sG 4 oO) (d8 (sG 5 oO) md))) (av (sS 6 oO aB) (av (sS 7 oO aB) (av (cI (cw Lw (ae 4) aB) (aH (sS 7 oO (vo PySem.F.slot_list_pop PySem.F.type_list_pop qh (ae 2)))) bP) (av (cI (cw (je hr) (bC ic (ae 4) aB) aB) (aH (sS 6 oO (vo PySem.F.slot_list_pop PySem.F.type_list_pop qh (ae 2)))) bP) (av (cJ (nR PySem.F.slot_list_append PySem.F.type_list_append dr (ae 2) (aa (be (be (be (be (ae 0) aB) (bz Kg hr #[0] (aa (be (ae 0) aB) (aa (ae 5) ar)))) (ae 6)) (ae 7)) ar))) (aH (cJ (nR PySem.F.slot_list_append PySem.F.type_list_append dr (ae 3) (aa (be (ae 2) (wN aB)) ar)))))))))) (aH (bj (ae 3))))))
def Nt:FS:=(aM (gA (eP (e2 kz (bK dH (ah (ag 1) aD)) (eI 0))) (cS (e2 bv (e2 bv (ag 0) (eI 1)) (eI 0))) bX) (cS (e2 bv (e2 bv (ag 0) (eI 1)) (e2 bv (b8 2 xq (ah (ag 0) (ah (ag 1) aD))) (sf (eI 1))))))
def Cg:List W->List au->R W:=c9 2 Nt
theorem Qb(F:iX K "_law_lets" "_law_lets" IX f fd)(B:Bl mg)(zu:bR P w K mg base 2 "_law_run" 2 xq):c7 P w K mg base (iK P w) 3 f fd M5 (iZ K mg 2 Cg):=
 bS (k:=2) F PK rfl fun fD A outer s H E hr=>(av (cI (cw (je hr) (bT dP B.len bM (aa (ae 1) ar)) aB) (aH (bj (be (be (ae 0) aB) aB))) bP) (aH (bj (be (be (ae 0) aB) (be (bz zu hr #[0] (aa (ae 0) (aa (ae 1) ar))) (wN aB))))))
def Nu:FS:=(aM (bd 1 (l8 aD)) (aM (mU (ie (ag 0)) (HI 2 (gs (kJ 2) (gs (kJ 3) rD))) (aM (bd 4 (eI 1)) (aM (gA (eP (iC (ag 2))) (bd 4 (e2 cO (ag 4) (e2 bv (ag 1) (ag 2)))) bX) (aM (gA (eP (iC (ag 3))) (bd 4 (e2 cO (ag 4) (e2 bv (ag 1) (ag 3)))) bX) (dq (oG cv (ag 1) (ah (ag 4) aD))))))) (cS (ag 1))))
def Ch:List W->List au->R W:=c9 5 Nu
theorem Qc(F:iX K "_law_sizes" "_law_sizes" IY f fd)  :c7 P w K mg base (iK P w) 1 f fd M6 (iZ K mg 1 Ch):=
 bS (k:=0) F sy rfl fun fD A outer s H E hr=>(av (sS 1 sy (jL ar)) (av (iL (nv (ae 0)) (oE rfl (d8 (sG 2 sy) (d8 (sG 3 sy) md))) (av (sS 4 sy aB) (av (cI (js (ae 2)) (aH (sS 4 sy (bC cF (ae 4) (be (ae 1) (ae 2))))) bP) (av (cI (js (ae 3)) (aH (sS 4 sy (bC cF (ae 4) (be (ae 1) (ae 3))))) bP) (aH (cJ (nR PySem.F.slot_list_append PySem.F.type_list_append dr (ae 1) (aa (ae 4) ar)))))))) (aH (bj (ae 1)))))
def Tw:FS:=(aM (bd 2 (b8 1 Ce (ah (ag 0) aD))) (aM (bd 3 (b8 1 Ch (ah (ag 2) aD))) (aM (bd 4 (ag 1)) (aM (gA (eP (iC (e2 bv (e2 bv (ag 2) (ag 1)) (eI 1)))) (bd 4 (e2 lF (ag 1) (e2 bv (ag 3) (e2 bv (e2 bv (ag 2) (ag 1)) (eI 1))))) bX) (aM (bd 5 (ag 4)) (aM (gA (eP (iC (e2 bv (e2 bv (ag 2) (ag 1)) (eI 0)))) (bd 5 (e2 lF (ag 4) (e2 bv (ag 3) (e2 bv (e2 bv (ag 2) (ag 1)) (eI 0))))) bX) (cS (fK (ah (ag 5) (ah (ag 4) aD))))))))))
def Ci:List W->List au->R W:=c9 6 Tw
theorem Qd(F:iX K "_law_bounds" "_law_bounds" IZ f fd) (Ks:bR P w K mg base 1 "_law_links" 1 Ce)(Kl:bR P w K mg base 1 "_law_sizes" 1 Ch):c7 P w K mg base (iK P w) 2 f fd M7 (iZ K mg 2 Ci):=
 bS (k:=1) F sD rfl fun fD A outer s H E hr=>(av (sS 2 sD (bz Ks hr #[0] (aa (ae 0) ar))) (av (sS 3 sD (bz Kl hr #[0] (aa (ae 2) ar))) (av (sS 4 sD (ae 1)) (av (cI (js (be (be (ae 2) (ae 1)) aB)) (aH (sS 4 sD (bC j4 (ae 1) (be (ae 3) (be (be (ae 2) (ae 1)) aB))))) bP) (av (sS 5 sD (ae 4)) (av (cI (js (be (be (ae 2) (ae 1)) aB)) (aH (sS 5 sD (bC j4 (ae 4) (be (ae 3) (be (be (ae 2) (ae 1)) aB))))) bP) (aH (bj (dY (aa (ae 5) (aa (ae 4) ar)))))))))))
def Tx:FS:=(aM (wH (b8 2 Ci (ah (ag 0) (ah (ag 1) aD))) (HI 2 (gs (kJ 4) (gs (kJ 5) rD)))) (aM (bd 6 (rC (ag 0) (eX (ag 4)) (eX (ag 5)))) (aM (bd 7 (rC (ag 0) (eX (ag 5)) (eX (ag 1)))) (aM (gA (eP (e2 kz (ag 2) (eC (.str [108,101,102,116])))) (bd 6 (ag 3)) (bd 7 (ag 3))) (aM (bd 8 (fK (ah (e2 cO (bK yZ (ah (e2 Gb (bK dH (ah (ag 6) aD)) (eI 0)) aD)) (e2 jd (eI 2) (bK yZ (ah (e2 Gb (bK dH (ah (ag 7) aD)) (eI 0)) aD)))) (ah (e2 bv (e2 bv (ag 0) (ag 1)) (eI 1)) aD)))) (cS (e2 cO (e2 cO (e2 cO (e2 cO (rC (ag 0) gN (eX (ag 4))) (ag 6)) (ag 7)) (fK (ah (ag 8) aD))) (rC (ag 0) (eX (e2 cO (ag 1) (eI 1))) gN))))))))
def Cj:List W->List au->R W:=c9 9 Tx
theorem Qe(F:iX K "_law_branched" "_law_branched" I_ f fd)(B:Bl mg)(Kv:bR P w K mg base 2 "_law_bounds" 2 Ci):c7 P w K mg base (iK P w) 3 f fd M8 (iZ K mg 4 Cj):=
 bS (k:=2) F qt rfl fun fD A outer s H E hr=>(av (DE (bz Kv hr #[0] (aa (ae 0) (aa (ae 1) ar))) (oE rfl (d8 (sG 4 qt) (d8 (sG 5 qt) md)))) (av (sS 6 qt (ma (ae 0) (du (ae 4)) (du (ae 5)))) (av (sS 7 qt (ma (ae 0) (du (ae 5)) (du (ae 1)))) (av (cI (cw (je hr) (ae 2) e_) (aH (sS 6 qt (ae 3))) (aH (sS 7 qt (ae 3)))) (av (sS 8 qt (dY (aa (bC cF (gj DN B.int qN (aa (sY x8 (bT dP B.len bM (aa (ae 6) ar)) aB) ar)) (bC j8 aB (gj DN B.int qN (aa (sY x8 (bT dP B.len bM (aa (ae 7) ar)) aB) ar)))) (aa (be (be (ae 0) (ae 1)) aB) ar)))) (aH (bj (bC cF (bC cF (bC cF (bC cF (ma (ae 0) fg (du (ae 4))) (ae 6)) (ae 7)) (dY (aa (ae 8) ar))) (ma (ae 0) (du (bC cF (ae 1) aB)) fg)))))))))
def Nv:FS:=(aM (bd 1 (b8 3 mz (ah (b8 2 my (ah (ag 0) (ah (eI 0) aD))) (ah (eI 4) (ah (eI 100003) aD))))) (aM (bd 2 (b8 3 za (ah (b8 2 my (ah (ag 0) (ah (eI 1) aD))) (ah (eI 4) (ah (eI 200017) aD))))) (aM (bd 3 (e2 cO (eI 1) (e2 iY (e2 bv (ag 1) (eI 0)) (eI 4)))) (aM (bd 4 (KC pH (eC (.str [])) (ah (bK lG (ah (rC (ag 2) gN (eX (e2 iY (e2 bv (ag 1) (eI 1)) (eI 3)))) aD)) aD))) (aM (gA (eP (e2 kz (ag 3) (eI 4))) (bd 4 (rC (ag 4) gN (eX (eI 1)))) bX) (aM (bd 5 (e2 cO (ag 3) (e2 jd (e2 jd (ag 3) (ag 3)) (e2 Bu (eI 1) (bK dH (ah (ag 4) aD)))))) (aM (bd 6 (b8 4 Cf (ah (ag 4) (ah (ag 3) (ah (ag 3) (ah (b8 3 mz (ah (b8 2 my (ah (ag 0) (ah (eI 2) aD))) (ah (ag 5) (ah (eI 300007) aD)))) aD)))))) (aM (bd 7 (e2 iY (e2 bv (ag 1) (eI 2)) (eI 8))) (aM (gA (eP (e2 kz (e2 iY (e2 bv (ag 1) (eI 3)) (eI 4)) (eI 1))) (bd 7 (e2 iY (e2 bv (ag 1) (eI 2)) (eI 41))) bX) (cS (fK (ah (ag 6) (ah (b8 2 xp (ah (b8 3 mz (ah (b8 2 my (ah (ag 0) (ah (eI 3) aD))) (ah (ag 7) (ah (eI 400009) aD)))) (ah (ag 2) aD))) (ah (ag 2) aD))))))))))))))
def Ck:List W->List au->R W:=c9 8 Nv
theorem Qf(F:iX K "_law_start" "_law_start" Ja f fd)(B:Bl mg)(n9:bR P w K mg base 1 "_law_cell" 2 my)(qG:bR P w K mg base 2 "_law_draws" 3 mz)(Ka:bR P w K mg base 1 "_law_machine" 4 Cf)(Ke:bR P w K mg base 3 "_law_pool" 3 za)(zm:bR P w K mg base 2 "_law_tree" 2 xp):c7 P w K mg base (iK P w) 4 f fd M9 (iZ K mg 1 Ck):=
 bS (k:=3) F nE rfl fun fD A outer s H E hr=>(av (sS 1 nE (bz qG hr #[0] (aa (bz n9 hr #[0] (aa (ae 0) (aa aB ar))) (aa aB (aa aB ar))))) (av (sS 2 nE (bz Ke hr #[0] (aa (bz n9 hr #[0] (aa (ae 0) (aa aB ar))) (aa aB (aa aB ar))))) (av (sS 3 nE (bC cF aB (bC ic #[19] aB))) (av (sS 4 nE (LA PySem.F.slot_str_join PySem.F.type_str_join vT e_ (aa (bT zU B.sorted qM (aa (ma (ae 2) fg (du (bC ic #[19] aB))) ar)) ar))) (av (cI (cw (je hr) (ae 3) aB) (aH (sS 4 nE (ma (ae 4) fg (du aB)))) bP) (av (sS 5 nE (bC cF (ae 3) (bC j8 (bC j8 (ae 3) (ae 3)) (bC Mz aB (bT dP B.len bM (aa (ae 4) ar)))))) (av (sS 6 nE (bz Ka hr #[0] (aa (ae 4) (aa (ae 3) (aa (ae 3) (aa (bz qG hr #[0] (aa (bz n9 hr #[0] (aa (ae 0) (aa aB ar))) (aa (ae 5) (aa aB ar)))) ar)))))) (av (sS 7 nE (bC ic #[19] aB)) (av (cI (cw (je hr) (bC ic #[19] aB) aB) (aH (sS 7 nE (bC ic #[19] aB))) bP) (aH (bj (dY (aa (ae 6) (aa (bz zm hr #[0] (aa (bz qG hr #[0] (aa (bz n9 hr #[0] (aa (ae 0) (aa aB ar))) (aa (ae 7) (aa aB ar)))) (aa (ae 2) ar))) (aa (ae 2) ar)))))))))))))))
def Nw:FS:=(aM (bd 5 (b8 3 mz (ah (b8 2 my (ah (ag 0) (ah (e2 cO (eI 4) (ag 1)) aD))) (ah (eI 12) (ah (e2 cO (eI 500009) (e2 jd (eI 101) (ag 1))) aD))))) (aM (bd 6 (b8 2 xp (ah (rC (ag 5) (eX (eI 6)) (eX (e2 cO (eI 6) (e2 iY (e2 bv (ag 5) (eI 5)) (eI 6))))) (ah (ag 4) aD)))) (aM (bd 7 (e2 iY (e2 bv (ag 5) (eI 0)) (ag 2))) (aM (gA (eP (e2 kz (ag 7) (eI 8))) (cS (fK (ah (eC (.str [98,97,99,107])) aD))) bX) (aM (gA (eP (e2 kz (ag 7) (eI 9))) (cS (fK (ah (eC (.str [97,103,97,105,110])) aD))) bX) (aM (gA (F_ (eP (e2 kz (ag 7) (eI 7))) (eP (e2 kz (bK dH (ah (ag 3) aD)) (eI 0)))) (cS (fK (ah (eC (.str [119,104,111,108,101])) (ah (ag 6) aD)))) bX) (aM (bd 8 (e2 iY (e2 cO (e2 jd (eI 64) (e2 bv (ag 5) (eI 1))) (e2 bv (ag 5) (eI 2))) (bK dH (ah (ag 3) aD)))) (aM (gA (eP (e2 Lv (ag 7) (eI 4))) (cS (fK (ah (e2 bv (l8 (ah (eC (.str [112,117,116])) (ah (eC (.str [116,97,107,101])) aD))) (e2 vk (ag 7) (eI 2))) (ah (ag 8) (ah (e2 bv (ag 4) (e2 iY (e2 bv (ag 5) (eI 3)) (eI 4))) aD))))) bX) (cS (fK (ah (eC (.str [98,114,97,110,99,104])) (ah (ag 8) (ah (e2 bv (l8 (ah (eC (.str [108,101,102,116])) (ah (eC (.str [114,105,103,104,116])) aD))) (e2 iY (e2 bv (ag 5) (eI 4)) (eI 2))) (ah (ag 6) aD))))))))))))))
def rM:List W->List au->R W:=c9 9 Nw
theorem Qg(F:iX K "_law_planned" "_law_planned" Jb f fd)(B:Bl mg)(n9:bR P w K mg base 1 "_law_cell" 2 my)(qG:bR P w K mg base 2 "_law_draws" 3 mz)(zm:bR P w K mg base 2 "_law_tree" 2 xp):c7 P w K mg base (iK P w) 3 f fd M_ (iZ K mg 5 rM):=
 bS (k:=2) F xg rfl fun fD A outer s H E hr=>(av (sS 5 xg (bz qG hr #[0] (aa (bz n9 hr #[0] (aa (ae 0) (aa (bC cF aB (ae 1)) ar))) (aa aB (aa (bC cF aB (bC j8 aB (ae 1))) ar))))) (av (sS 6 xg (bz zm hr #[0] (aa (ma (ae 5) (du aB) (du (bC cF aB (bC ic (be (ae 5) aB) aB)))) (aa (ae 4) ar)))) (av (sS 7 xg (bC ic (be (ae 5) aB) (ae 2))) (av (cI (cw (je hr) (ae 7) aB) (aH (bj (dY (aa e_ ar)))) bP) (av (cI (cw (je hr) (ae 7) aB) (aH (bj (dY (aa e_ ar)))) bP) (av (cI (zM (yO (cw (je hr) (ae 7) aB) (uD (cw (je hr) (bT dP B.len bM (aa (ae 3) ar)) aB)))) (aH (bj (dY (aa e_ (aa (ae 6) ar))))) bP) (av (sS 8 xg (bC ic (bC cF (bC j8 aB (be (ae 5) aB)) (be (ae 5) aB)) (bT dP B.len bM (aa (ae 3) ar)))) (av (cI (cw w_lt (ae 7) aB) (aH (bj (dY (aa (be (jL (aa e_ (aa e_ ar))) (bC uE (ae 7) aB)) (aa (ae 8) (aa (be (ae 4) (bC ic (be (ae 5) aB) aB)) ar)))))) bP) (aH (bj (dY (aa e_ (aa (ae 8) (aa (be (jL (aa e_ (aa e_ ar))) (bC ic (be (ae 5) aB) aB)) (aa (ae 6) ar)))))))))))))))
def Tz:FS:=(aM (gA (eP (e2 kz (e2 bv (ag 1) (eI 0)) (eC (.str [119,104,111,108,101])))) (cS (e2 bv (ag 1) (eI 1))) bX) (aM (gA (eP (e2 kz (e2 bv (ag 1) (eI 0)) (eC (.str [98,114,97,110,99,104])))) (cS (b8 4 Cj (ah (ag 0) (ah (e2 bv (ag 1) (eI 1)) (ah (e2 bv (ag 1) (eI 2)) (ah (e2 bv (ag 1) (eI 3)) aD)))))) bX) (aM (wH (e2 bv (ag 0) (e2 bv (ag 1) (eI 1))) (HI 2 (gs (kJ 2) (gs (kJ 3) rD)))) (aM (wH (lg [none,some 1] (ie (ag 3)) (kJ 0) (eP (e2 KB (ag 0) (e2 bv (ag 1) (eI 2)))) (ag 0)) (kJ 3)) (aM (gA (eP (e2 kz (e2 bv (ag 1) (eI 0)) (eC (.str [112,117,116])))) (dq (oG cv (ag 3) (ah (e2 bv (ag 1) (eI 2)) aD))) bX) (cS (e2 cO (e2 cO (rC (ag 0) gN (eX (e2 bv (ag 1) (eI 1)))) (fK (ah (fK (ah (ag 2) (ah (KC pH (eC (.str [])) (ah (bK lG (ah (ag 3) aD)) aD)) aD))) aD))) (rC (ag 0) (eX (e2 cO (e2 bv (ag 1) (eI 1)) (eI 1))) gN))))))))
def qw:List W->List au->R W:=c9 4 Tz
theorem Qh(F:iX K "_law_changed" "_law_changed" Jc f fd)(B:Bl mg)(J9:bR P w K mg base 3 "_law_branched" 4 Cj):c7 P w K mg base (iK P w) 4 f fd M' (iZ K mg 2 qw):=
 bS (k:=3) F Aq rfl fun fD A outer s H E hr=>(av (cI (cw (je hr) #[19] e_) (aH (bj #[19])) bP) (av (cI (cw (je hr) #[19] e_) (aH (bj (bz J9 hr #[0] (aa (ae 0) (aa #[19] (aa #[19] (aa #[19] ar))))))) bP) (av (DE (be (ae 0) #[19]) (oE rfl (d8 (sG 2 Aq) (d8 (sG 3 Aq) md)))) (av (r_ (sG 3 Aq) (nm:=["_law_letter_here","_law_deed"]) (cap:=[none,some 1]) (by first|rfl|kernel_rfl) rfl (nv (ae 3)) (fun _ _ _ _ _=>(sC 0)) (fun _ _ _ _ _=>(E3 (cw (OW hr) (ae 0) #[19]))) (fun _ _ _ _ _=>(ae 0))) (av (cI (cw (je hr) #[19] e_) (aH (cJ (nR PySem.F.slot_list_append PySem.F.type_list_append dr (ae 3) (aa #[19] ar)))) bP) (aH (bj (bC cF (bC cF (ma (ae 0) fg (du #[19])) (dY (aa (dY (aa (ae 2) (aa (LA PySem.F.slot_str_join PySem.F.type_str_join vT e_ (aa (bT zU B.sorted qM (aa (ae 3) ar)) ar)) ar))) ar))) (ma (ae 0) (du (bC cF #[19] aB)) fg)))))))))
def Jp:FS:=(aM (gA (eP (e2 kz (e2 bv (ag 1) (eI 0)) (eC (.str [112,117,116])))) (cS (ig "Kept" "put" 3 kQ (ag 0) (ah (e2 bv (ag 1) (eI 1)) (ah (e2 bv (ag 1) (eI 2)) aD)))) bX) (aM (gA (eP (e2 kz (e2 bv (ag 1) (eI 0)) (eC (.str [116,97,107,101])))) (cS (ig "Kept" "take" 3 jP (ag 0) (ah (e2 bv (ag 1) (eI 1)) (ah (e2 bv (ag 1) (eI 2)) aD)))) bX) (aM (gA (eP (e2 kz (e2 bv (ag 1) (eI 0)) (eC (.str [98,114,97,110,99,104])))) (cS (ig "Kept" "branch" 4 iq (ag 0) (ah (e2 bv (ag 1) (eI 1)) (ah (e2 bv (ag 1) (eI 2)) (ah (e2 bv (ag 1) (eI 3)) aD))))) bX) (aM (gA (eP (e2 kz (e2 bv (ag 1) (eI 0)) (eC (.str [119,104,111,108,101])))) (cS (ig "Kept" "whole" 2 gl (ag 0) (ah (e2 bv (ag 1) (eI 1)) aD))) bX) (aM (gA (eP (e2 kz (e2 bv (ag 1) (eI 0)) (eC (.str [98,97,99,107])))) (cS (ig "Kept" "back" 1 gn (ag 0) aD)) bX) (cS (ig "Kept" "again" 1 hZ (ag 0) aD)))))))
def ik:List W->List au->R W:=c9 2 Jp
theorem Qi(F:iX K "_law_doing" "_law_doing" Jd f fd) (o_:iz P w K mg base 8 "Kept" "again" 1 hZ)(jQ:iz P w K mg base 8 "Kept" "back" 1 gn)(nH:iz P w K mg base 9 "Kept" "branch" 4 iq)(sL:iz P w K mg base 10 "Kept" "put" 3 kQ)(qD:iz P w K mg base 10 "Kept" "take" 3 jP)(i9:iz P w K mg base 9 "Kept" "whole" 2 gl):c7 P w K mg base (iK P w) 11 f fd Na (iZ K mg 2 ik):=
 bS (k:=10) F PL rfl fun fD A outer s H E hr=>(av (cI (cw (je hr) #[19] e_) (aH (bj (kK sL hr #[0] (ae 0) (aa #[19] (aa #[19] ar))))) bP) (av (cI (cw (je hr) #[19] e_) (aH (bj (kK qD hr #[0] (ae 0) (aa #[19] (aa #[19] ar))))) bP) (av (cI (cw (je hr) #[19] e_) (aH (bj (kK nH hr #[0] (ae 0) (aa #[19] (aa #[19] (aa #[19] ar)))))) bP) (av (cI (cw (je hr) #[19] e_) (aH (bj (kK i9 hr #[0] (ae 0) (aa #[19] ar)))) bP) (av (cI (cw (je hr) #[19] e_) (aH (bj (qU jQ hr #[0] (ae 0)))) bP) (aH (bj (qU o_ hr #[0] (ae 0)))))))))
def TB:FS:=(aM (mU (dQ (ah (eI 3) aD)) (kJ 4) (aM (bd 5 (e2 iY (e2 cO (ag 3) (ag 4)) (eI 3))) (aM (gA (KA (eP (e2 kz (ag 5) (eI 0))) (A8 (eP (b8 2 (j_ 40) (ah (ig "Kept" "rooms_now" 1 gQ (ag 0) aD) (ah (bK jf (ah (b8 2 xq (ah (ag 1) (ah (ag 2) aD))) aD)) aD)))))) (cS (eC (.bl false))) bX) (aM (gA (KA (eP (e2 kz (ag 5) (eI 1))) (A8 (eP (b8 2 (j_ 40) (ah (ig "Kept" "lets_now" 1 ij (ag 0) aD) (ah (b8 2 Cg (ah (ag 1) (ah (ag 2) aD))) aD)))))) (cS (eC (.bl false))) bX) (gA (KA (eP (e2 kz (ag 5) (eI 2))) (A8 (eP (b8 2 (j_ 40) (ah (ig "Kept" "tree_now" 1 ii (ag 0) aD) (ah (ag 2) aD)))))) (cS (eC (.bl false))) bX))))) (cS (eC (.bl true))))
def qx:List W->List au->R W:=c9 6 TB
theorem Qj(F:iX K "_law_stands" "_law_stands" Je f fd)(B:Bl mg)(lP:iz P w K mg base 1 "Kept" "lets_now" 1 ij)(kR:iz P w K mg base 1 "Kept" "rooms_now" 1 gQ)(lQ:iz P w K mg base 1 "Kept" "tree_now" 1 ii)(Ku:bR P w K mg base 3 "_law_lets" 2 Cg)(zu:bR P w K mg base 2 "_law_run" 2 xq)(rQ:bR P w K mg base 40 "_law_same" 2 (j_ 40)):c7 P w K mg base (iK P w) 41 f fd Nb (iZ K mg 4 qx):=
 bS (k:=40) F D3 rfl fun fD A outer s H E hr=>(av (iL (ip B.range (aa aB ar)) (sG 4 D3) (av (sS 5 D3 (bC ic (bC cF (ae 3) (ae 4)) aB)) (av (cI (zM (Dz (cw (je hr) (ae 5) aB) (zL (kI (hV (bz rQ hr #[0] (aa (qU kR hr #[0] (ae 0)) (aa (gj k7 B.tuple fx (aa (bz zu hr #[0] (aa (ae 1) (aa (ae 2) ar))) ar)) ar)))))))) (aH (bj oz)) bP) (av (cI (zM (Dz (cw (je hr) (ae 5) aB) (zL (kI (hV (bz rQ hr #[0] (aa (qU lP hr #[0] (ae 0)) (aa (bz Ku hr #[0] (aa (ae 1) (aa (ae 2) ar))) ar)))))))) (aH (bj oz)) bP) (aH (cI (zM (Dz (cw (je hr) (ae 5) aB) (zL (kI (hV (bz rQ hr #[0] (aa (qU lQ hr #[0] (ae 0)) (aa (ae 2) ar)))))))) (aH (bj oz)) bP)))))) (aH (bj oz)))
def Nx:FS:=(aM (bd 2 (eC .non)) (aM (HR (bd 2 (b8 2 ik (ah (ag 0) (ah (ag 1) aD)))) rK 3 (bd 2 (fK (ah (eC (.str [114,101,102,117,115,101,100])) (ah (wU gu (ag 3)) (ah (wU jE (ag 3)) (ah (wU iN (ag 3)) (ah (wU fM (ag 3)) (ah (wU xk (ag 3)) aD))))))))) (cS (ag 2))))
def Cm:List W->List au->R W:=c9 4 Nx
theorem Ql(F:iX K "_law_refused" "_law_refused" Jf f fd)(B:Bl mg)(C:Cls K mg)(rN:bR P w K mg base 11 "_law_doing" 2 ik):c7 P w K mg base (iK P w) 12 f fd Nc (iZ K mg 2 Cm):=
 bS (k:=11) F xj rfl fun fD A outer s H E hr=>(av (sS 2 xj qb) (av (O6 (i:=3) C.catch_TrunkError xj.nd rfl (Or.inl rfl) (fun _ _=>(aH (sS 2 xj (bz rN hr #[0] (aa (ae 0) (aa (ae 1) ar)))))) (fun _=>(aH (sS 2 xj (dY (aa e_ (aa (Ss B.isinstance B.ValueError LU C.isi_ValueError (ae 3)) (aa (C.isi_NoPlace.elim fun _ h=>HY B.isinstance h.1 h.2 (ae 3)) (aa (C.isi_TooGreat.elim fun _ h=>HY B.isinstance h.1 h.2 (ae 3)) (aa (C.isi_NothingDone.elim fun _ h=>HY B.isinstance h.1 h.2 (ae 3)) (aa (C.isi_t0.elim fun _ h=>h.elim fun _ h=>h.elim fun _ h=>h.elim fun _ h=>h.elim fun _ h=>h.elim fun _ h=>O9 B.isinstance (.cons h.1 rfl #[3] (.cons h.2.1 rfl #[3] (.cons h.2.2.1 rfl #[3] (.cons h.2.2.2.1 rfl #[3] (.cons h.2.2.2.2.1 rfl #[3] (.cons h.2.2.2.2.2.1 rfl #[3] .nil)))))) h.2.2.2.2.2.2 (ao rfl) (ae 3)) ar))))))))))) (aH (bj (ae 2)))))
def Ny:FS:=(aM (oF (eP (e2 KB (ag 3) (ag 4))) (aM (bd 5 (fK (ah (eC (.str [98,97,99,107])) aD))) (aM (bd 6 (e2 lF (ag 3) (eI 1))) (aM (gA (eP (e2 Lv (ag 3) (ag 4))) (aM (bd 5 (fK (ah (eC (.str [97,103,97,105,110])) aD))) (bd 6 (e2 cO (ag 3) (eI 1)))) bX) (aM (gA (F_ (eP (iC (b8 2 ik (ah (ag 0) (ah (ag 5) aD))))) (A8 (eP (b8 4 qx (ah (ag 0) (ah (ag 1) (ah (e2 bv (ag 2) (ag 6)) (ah (ag 6) aD)))))))) (cS (eC (.bl false))) bX) (bd 3 (ag 6))))))) (cS (eC (.bl true))))
def vy:List W->List au->R W:=c9 7 Ny
theorem Qm(F:iX K "_law_walked" "_law_walked" Jg f fd) (rN:bR P w K mg base 11 "_law_doing" 2 ik)(rP:bR P w K mg base 41 "_law_stands" 4 qx):c7 P w K mg base (iK P w) 42 f fd Nd (iZ K mg 5 vy):=
 bS (k:=41) F uW rfl fun fD A outer s H E hr=>(av (wJ (cw (OW hr) (ae 3) (ae 4)) (av (sS 5 uW (dY (aa e_ ar))) (av (sS 6 uW (bC j4 (ae 3) aB)) (av (cI (cw w_lt (ae 3) (ae 4)) (av (sS 5 uW (dY (aa e_ ar))) (aH (sS 6 uW (bC cF (ae 3) aB)))) bP) (av (cI (zM (yO (js (bz rN hr #[0] (aa (ae 0) (aa (ae 5) ar)))) (uD (kI (hV (bz rP hr #[0] (aa (ae 0) (aa (ae 1) (aa (be (ae 2) (ae 6)) (aa (ae 6) ar)))))))))) (aH (bj oz)) bP) (aH (sS 3 uW (ae 6)))))))) (aH (bj oz)))
def Nz:FS:=(aM (bd 4 (fK (ah (eC (.str [114,101,102,117,115,101,100])) (ah (eC (.bl true)) (ah (eC (.bl false)) (ah (eC (.bl false)) (ah (eC (.bl true)) (ah (eC (.bl false)) aD)))))))) (cS (zN (b8 2 (j_ 40) (ah (b8 2 Cm (ah (ag 0) (ah (ag 3) aD))) (ah (ag 4) aD))) (b8 4 qx (ah (ag 0) (ah (ag 1) (ah (ag 2) (ah (eI 1) aD))))))))
def xr:List W->List au->R W:=c9 5 Nz
theorem Qn(F:iX K "_law_none_left" "_law_none_left" Jh f fd) (Kw:bR P w K mg base 12 "_law_refused" 2 Cm)(rQ:bR P w K mg base 40 "_law_same" 2 (j_ 40))(rP:bR P w K mg base 41 "_law_stands" 4 qx):c7 P w K mg base (iK P w) 42 f fd Nf (iZ K mg 4 xr):=
 bS (k:=41) F Ji rfl fun fD A outer s H E hr=>(av (sS 4 Ji (dY (aa e_ (aa oz (aa oz (aa oz (aa oz (aa oz ar)))))))) (aH (bj (yP (bz rQ hr #[0] (aa (bz Kw hr #[0] (aa (ae 0) (aa (ae 3) ar))) (aa (ae 4) ar))) (Bs (bz rP hr #[0] (aa (ae 0) (aa (ae 1) (aa (ae 2) (aa aB ar))))))))))
def NA:FS:=(aM (wH (b8 1 Ck (ah (ag 0) aD)) (HI 3 (gs (kJ 1) (gs (kJ 2) (gs (kJ 3) rD))))) (aM (bd 4 (BG "Kept" 3 fZ (ah (ag 1) (ah (ag 2) aD)))) (aM (bd 5 (BG "Kept" 3 fZ (ah (ag 1) (ah (ag 2) aD)))) (aM (bd 6 (l8 (ah (ag 2) aD))) (aM (bd 7 (bK Ge (ah (eI 58) (ah (bK DC (ah (eI 3) (ah (e2 lF (bK dH (ah (ag 0) aD)) (eI 5)) aD))) aD)))) (aM (mU (dQ (ah (ag 7) aD)) (kJ 8) (aM (bd 9 (b8 5 rM (ah (ag 0) (ah (ag 8) (ah (eI 8) (ah (e2 bv (ag 6) (sf (eI 1))) (ah (ag 3) aD))))))) (aM (bd 10 (b8 2 qw (ah (e2 bv (ag 6) (sf (eI 1))) (ah (ag 9) aD)))) (gA (eP (e2 Gi (bK dH (ah (ag 10) aD)) (eI 100))) (aM (dq (b8 2 ik (ah (ag 4) (ah (ag 9) aD)))) (dq (oG cv (ag 6) (ah (ag 10) aD)))) bX)))) (aM (dq (ig "Kept" "whole" 2 gl (ag 5) (ah (e2 bv (ag 6) (sf (eI 1))) aD))) (aM (bd 11 (e2 lF (e2 lF (bK dH (ah (ag 6) aD)) (eI 1)) (e2 iY (b8 3 tW (ah (b8 2 my (ah (ag 0) (ah (eI 1) aD))) (ah (eI 0) (ah (eI 600011) aD)))) (bK dH (ah (ag 6) aD))))) (aM (bd 12 (e2 cO (ag 11) (e2 iY (b8 3 tW (ah (b8 2 my (ah (ag 0) (ah (eI 2) aD))) (ah (eI 0) (ah (eI 700001) aD)))) (e2 lF (bK dH (ah (ag 6) aD)) (ag 11))))) (aM (gA (A8 (eP (b8 5 vy (ah (ag 4) (ah (ag 1) (ah (ag 6) (ah (e2 lF (bK dH (ah (ag 6) aD)) (eI 1)) (ah (ag 11) aD)))))))) (cS (eC (.bl false))) bX) (aM (gA (A8 (eP (b8 5 vy (ah (ag 4) (ah (ag 1) (ah (ag 6) (ah (ag 11) (ah (ag 12) aD)))))))) (cS (eC (.bl false))) bX) (aM (bd 9 (b8 5 rM (ah (ag 0) (ah (ag 7) (ah (eI 8) (ah (e2 bv (ag 6) (ag 12)) (ah (ag 3) aD))))))) (aM (bd 10 (b8 2 qw (ah (e2 bv (ag 6) (ag 12)) (ah (ag 9) aD)))) (aM (gA (eP (e2 Gb (bK dH (ah (ag 10) aD)) (eI 100))) (aM (bd 9 (fK (ah (eC (.str [119,104,111,108,101])) (ah (e2 bv (ag 6) (eI 0)) aD)))) (bd 10 (e2 bv (ag 6) (eI 0)))) bX) (aM (dq (b8 2 ik (ah (ag 4) (ah (ag 9) aD)))) (aM (bd 6 (e2 cO (rC (ag 6) gN (eX (e2 cO (ag 12) (eI 1)))) (l8 (ah (ag 10) aD)))) (aM (gA (A8 (eP (b8 4 xr (ah (ag 4) (ah (ag 1) (ah (ag 10) (ah (fK (ah (eC (.str [97,103,97,105,110])) aD)) aD))))))) (cS (eC (.bl false))) bX) (aM (gA (F_ (A8 (eP (b8 5 vy (ah (ag 4) (ah (ag 1) (ah (ag 6) (ah (e2 cO (ag 12) (eI 1)) (ah (eI 0) aD)))))))) (A8 (eP (b8 4 xr (ah (ag 4) (ah (ag 1) (ah (ag 2) (ah (fK (ah (eC (.str [98,97,99,107])) aD)) aD)))))))) (cS (eC (.bl false))) bX) (aM (gA (F_ (A8 (eP (b8 5 vy (ah (ag 4) (ah (ag 1) (ah (ag 6) (ah (eI 0) (ah (e2 cO (ag 12) (eI 1)) aD)))))))) (A8 (eP (b8 4 xr (ah (ag 4) (ah (ag 1) (ah (ag 10) (ah (fK (ah (eC (.str [97,103,97,105,110])) aD)) aD)))))))) (cS (eC (.bl false))) bX) (aM (dq (ig "Kept" "back" 1 gn (ag 5) aD)) (cS (zN (b8 4 qx (ah (ag 5) (ah (ag 1) (ah (ag 2) (ah (eI 1) aD))))) (b8 4 qx (ah (ag 4) (ah (ag 1) (ah (ag 10) (ah (eI 2) aD)))))))))))))))))))))))))))
def f_q45:List W->List au->R W:=c9 13 NA
theorem Qo(F:iX K "law" "law" tO f fd)(B:Bl mg)(jv:LP P w K mg base 4 "Kept" 3 fZ)(jQ:iz P w K mg base 8 "Kept" "back" 1 gn)(i9:iz P w K mg base 9 "Kept" "whole" 2 gl)(n9:bR P w K mg base 1 "_law_cell" 2 my)(Fu:bR P w K mg base 4 "_law_changed" 2 qw)(rN:bR P w K mg base 11 "_law_doing" 2 ik)(xS:bR P w K mg base 1 "_law_mixed" 3 tW)(CZ:bR P w K mg base 42 "_law_none_left" 4 xr)(Fv:bR P w K mg base 3 "_law_planned" 5 rM)(rP:bR P w K mg base 41 "_law_stands" 4 qx)(J8:bR P w K mg base 4 "_law_start" 1 Ck)(zp:bR P w K mg base 42 "_law_walked" 5 vy):c7 P w K mg base (iK P w) 43 f fd Jj (iZ K mg 1 f_q45):=
 bS (k:=42) F iA rfl fun fD A outer s H E hr=>(av (DE (bz J8 hr #[0] (aa (ae 0) ar)) (oE rfl (d8 (sG 1 iA) (d8 (sG 2 iA) (d8 (sG 3 iA) md))))) (av (sS 4 iA (Ia jv hr #[0] (aa (ae 1) (aa (ae 2) ar)))) (av (sS 5 iA (Ia jv hr #[0] (aa (ae 1) (aa (ae 2) ar)))) (av (sS 6 iA (jL (aa (ae 2) ar))) (av (sS 7 iA (bT Sf B.min boot_min (aa aB (aa (bT Se B.max boot_max (aa aB (aa (bC j4 (bT dP B.len bM (aa (ae 0) ar)) aB) ar))) ar)))) (av (iL (ip B.range (aa (ae 7) ar)) (sG 8 iA) (av (sS 9 iA (bz Fv hr #[0] (aa (ae 0) (aa (ae 8) (aa aB (aa (be (ae 6) (wN aB)) (aa (ae 3) ar))))))) (av (sS 10 iA (bz Fu hr #[0] (aa (be (ae 6) (wN aB)) (aa (ae 9) ar)))) (aH (cI (cw Sn (bT dP B.len bM (aa (ae 10) ar)) aB) (av (cJ (bz rN hr #[0] (aa (ae 4) (aa (ae 9) ar)))) (aH (cJ (nR PySem.F.slot_list_append PySem.F.type_list_append dr (ae 6) (aa (ae 10) ar))))) bP))))) (av (cJ (kK i9 hr #[0] (ae 5) (aa (be (ae 6) (wN aB)) ar))) (av (sS 11 iA (bC j4 (bC j4 (bT dP B.len bM (aa (ae 6) ar)) aB) (bC ic (bz xS hr #[0] (aa (bz n9 hr #[0] (aa (ae 0) (aa aB ar))) (aa aB (aa aB ar)))) (bT dP B.len bM (aa (ae 6) ar))))) (av (sS 12 iA (bC cF (ae 11) (bC ic (bz xS hr #[0] (aa (bz n9 hr #[0] (aa (ae 0) (aa aB ar))) (aa aB (aa aB ar)))) (bC j4 (bT dP B.len bM (aa (ae 6) ar)) (ae 11))))) (av (cI (kI (hV (bz zp hr #[0] (aa (ae 4) (aa (ae 1) (aa (ae 6) (aa (bC j4 (bT dP B.len bM (aa (ae 6) ar)) aB) (aa (ae 11) ar)))))))) (aH (bj oz)) bP) (av (cI (kI (hV (bz zp hr #[0] (aa (ae 4) (aa (ae 1) (aa (ae 6) (aa (ae 11) (aa (ae 12) ar)))))))) (aH (bj oz)) bP) (av (sS 9 iA (bz Fv hr #[0] (aa (ae 0) (aa (ae 7) (aa aB (aa (be (ae 6) (ae 12)) (aa (ae 3) ar))))))) (av (sS 10 iA (bz Fu hr #[0] (aa (be (ae 6) (ae 12)) (aa (ae 9) ar)))) (av (cI (cw x8 (bT dP B.len bM (aa (ae 10) ar)) aB) (av (sS 9 iA (dY (aa e_ (aa (be (ae 6) aB) ar)))) (aH (sS 10 iA (be (ae 6) aB)))) bP) (av (cJ (bz rN hr #[0] (aa (ae 4) (aa (ae 9) ar)))) (av (sS 6 iA (bC cF (ma (ae 6) fg (du (bC cF (ae 12) aB))) (jL (aa (ae 10) ar)))) (av (cI (kI (hV (bz CZ hr #[0] (aa (ae 4) (aa (ae 1) (aa (ae 10) (aa (dY (aa e_ ar)) ar))))))) (aH (bj oz)) bP) (av (cI (zM (yO (kI (hV (bz zp hr #[0] (aa (ae 4) (aa (ae 1) (aa (ae 6) (aa (bC cF (ae 12) aB) (aa aB ar)))))))) (uD (kI (hV (bz CZ hr #[0] (aa (ae 4) (aa (ae 1) (aa (ae 2) (aa (dY (aa e_ ar)) ar)))))))))) (aH (bj oz)) bP) (av (cI (zM (yO (kI (hV (bz zp hr #[0] (aa (ae 4) (aa (ae 1) (aa (ae 6) (aa aB (aa (bC cF (ae 12) aB) ar)))))))) (uD (kI (hV (bz CZ hr #[0] (aa (ae 4) (aa (ae 1) (aa (ae 10) (aa (dY (aa e_ ar)) ar)))))))))) (aH (bj oz)) bP) (av (cJ (qU jQ hr #[0] (ae 5))) (aH (bj (yP (bz rP hr #[0] (aa (ae 5) (aa (ae 1) (aa (ae 2) (aa aB ar))))) (Bs (bz rP hr #[0] (aa (ae 4) (aa (ae 1) (aa (ae 10) (aa aB ar)))))))))))))))))))))))))))))
end
noncomputable abbrev lO(n:Nat):Option W:=some (.loc n)
noncomputable abbrev iO(q:Int):Option W:=some (.int q)
theorem Qp(ns:List α)(hl:0<ns.length)(k:Int):∃c∈ns,uw ns (k%((ns.length:Nat):Int))=some c:=by
 have h0:0<=k%((ns.length:Nat):Int):=jB _ #[0]
 have h1:k%((ns.length:Nat):Int)<ns.length:=mQ _ #[0]
 obtain⟨m,hm⟩:=Int.eq_ofNat_of_zero_le h0
 rw[hm]at h1 ⊢
 have h2:m<ns.length:=by omega
 exact⟨ns[m],dS _,fX (by simp[h2])⟩
theorem oQ(h:st[n]?=some (.ro (ns.map W.int)))(k:Int):∃c,my [.loc n,.int k] st=.ok (.int c) st:=by
 by_cases hn:ns=[]
 ·subst hn
  refine⟨0,?_⟩
  apply qV;apply si;apply dh
  ·(repeat' (first|with_reducible exact oI (tF h)|walk_at "ev1"))
  ·(walk_at "evs")
 ·have hl:0<ns.length:=List.length_pos_iff.mpr hn
  obtain⟨c,hc,e⟩:=Qp (ns.map W.int) (by simpa using hl) k
  obtain⟨c,_,rfl⟩:=c8.mp hc
  refine⟨c,?_⟩
  apply qV;apply c5
  ·apply cC
   ·(repeat' (first|with_reducible exact oI (tF h)|walk_at "ev1"))
    rw[bq,aE];omega
   ·(walk_at "evs")
  ·(repeat' (first|with_reducible exact oI (tF h)|with_reducible exact jO (tF h) e|walk_at "ev1"))
   rw[aE];omega
theorem xu(c k s:Int)(hk:-(2^64)<k/\k<2^64)(st:List au):∃r,0<=r/\tW [.int c,.int k,.int s] st=.ok (.int r) st:=by
 have big:∀q:Int,0<=q%2147483647/\q%2147483647<2147483647:=fun q=>⟨jB _ #[3],mQ _ #[3]⟩
 refine⟨(((c+7*k*k+13*k+s)*69621%2147483647*((c+7*k*k+13*k+s)*69621%2147483647/1009+3)+31*k+s)%2147483629*48271)%1000000007,jB _ #[3],?_⟩
 apply qV;apply c5
 ·(walk_at "evs")<;>first|exact .inl #[3]|exact .inr #[3]|exact .inr hk
 ·(walk_at "evs")<;>first|exact .inl #[3]|exact .inr #[3]|exact .inl (by have:=big ((c+7*k*k+13*k+s)*69621);omega)
theorem qy(c s:Int)(m:Nat)(hm:m<=1000)(st:List au):∃ds:List Int,ds.length=m/\(∀d∈ds,0<=d)/\mz [.int c,.int m,.int s] st=.ok #[5] (st++[.lst (ds.map W.int)]):=by
 suffices hh:k_ (A9 fun w bh=>∃j x,w=.loc (st.length+j)/\bh=st++x/\j=0/\∃ds:List Int,x=[.lst (ds.map W.int)]/\ds.length=m/\∀d∈ds,0<=d) (Nk ([W.int c,.int m,.int s].map some++List.replicate (6-3) none) st) by
  obtain⟨j,x,⟨rfl,ds,rfl,h1,h2⟩,e⟩:=vW hh
  exact⟨ds,h1,h2,e⟩
 apply az
 ·(walk_at "evs")
 apply az
 ·(walk_at "evs")
 have main:∀r0:Int,k_ (A9 fun w bh=>∃j x,w=.loc (st.length+j)/\bh=st++x/\j=0/\∃ds:List Int,x=[.lst (ds.map W.int)]/\ds.length=m/\∀d∈ds,0<=d)
   (aM (mU (dQ (ah (ag 1) aD)) (kJ 5) (gA (eP (e2 Gb (ag 4) (eI 0))) (aM (dq (oG cv (ag 3) (ah (e2 iY (ag 4) (eI 64)) aD))) (bd 4 (e2 vk (ag 4) (eI 64)))) (dq (oG cv (ag 3) (ah (b8 3 tW (ah (ag 0) (ah (ag 5) (ah (ag 2) aD)))) aD))))) (cS (ag 3))
   [some (.int c),some (.int m),some (.int s),some #[5],some (.int r0),none] (st++[.lst []])):=by
  intro r0
  refine gD (fun i ρ bh=>∃(r:Int) (o:Option W) (ds:List Int),ρ=[some (.int c),some (.int m),some (.int s),some #[5],some (.int r),o]/\bh=st++[.lst (ds.map W.int)]/\ds.length=i/\∀d∈ds,0<=d) (j9 (by(walk_at "evs");rfl) #[0])
   ⟨r0,none,[],rfl,rfl,rfl,by simp⟩ (fun _ _ _ _=>trivial) ?_ ?_
  ·rintro i w ρ bh hw ⟨r,o,ds,rfl,rfl,hd,h⟩
   obtain⟨hi,rfl⟩:=kL hw
   refine⟨_,rfl,?_⟩
   have iF:(st++[au.lst (ds.map W.int)])[st.length]?=some (.lst (ds.map W.int)):=by rw[dR];rfl
   have hsh:(ds.map W.int).length<nQ:=by rw[aE,hd];show i<1000000;omega
   by_cases hr:0<r
   ·apply vt
    ·(walk_at "evs");simpa using hr
    apply az
    ·(repeat' (first|with_reducible exact d9 iF|with_reducible exact pI iF hsh|walk_at "ev1"))
    rw[fY]
    apply dm
    ·(walk_at "evs")
    ·refine⟨_,_,rfl,r/64,_,ds++[r%64],rfl,by simp,by simp[hd],fun d hd'=>?_⟩
     rcases aV.mp hd' with hd'|hd'
     ·exact h d hd'
     ·rw[aZ.mp hd'];exact jB _ #[3]
   ·obtain⟨q,hq,e⟩:=xu c (0+i) s #[0] (st++[au.lst (ds.map W.int)])
    apply m9
    ·(walk_at "evs");simpa using hr
    apply dm
    ·(repeat' (first|with_reducible exact d9 iF|with_reducible exact pI iF hsh|with_reducible exact e|walk_at "ev1"))
    ·refine⟨_,_,rfl,r,_,ds++[q],rfl,by rw[fY];simp,by simp[hd],fun d hd'=>?_⟩
     rcases aV.mp hd' with hd'|hd'
     ·exact h d hd'
     ·rw[aZ.mp hd'];exact hq
  ·rintro ρ bh ⟨r,o,ds,rfl,rfl,hd,h⟩
   apply bQ
   ·(walk_at "evs")
   ·exact⟨_,_,rfl,0,_,rfl,rfl,rfl,ds,rfl,by rw[hd];simpa using fL 0 m,h⟩
 by_cases hc:(10:Int)^18<=c
 ·apply az
  ·apply dh
   ·(walk_at "evs")<;>simpa using hc
   ·(walk_at "evs")
  ·exact main c
 ·apply az
  ·apply cC
   ·(walk_at "evs")<;>simpa using hc
   ·(walk_at "evs")
  ·exact main 0
noncomputable abbrev LL:List Nat:=[65,66,67,68,69,70,71,72,73,74,75,76,77,78,79,80,81,82,83,84,85,86,87,88,89,90,97,98,99,100,101,102,103,104,105,106,107,108,109,110,111,112,113,114,115,116,117,118,119,120,121,122]
theorem LV(c s:Int)(m:Nat)(hm:m<=52)(st:List au):∃l:List Nat,l.length=m/\l.Nodup/\(∀d∈l,d∈LL)/\za [.int c,.int m,.int s] st=.ok (.str l) st:=by
 suffices hh:k_ (A9 fun w bh=>(∃x,bh=st++x)/\undWs st.length [w]=true/\∃l:List Nat,w=.str l/\l.length=m/\l.Nodup/\∀d∈l,d∈LL) (Nl ([W.int c,.int m,.int s].map some++List.replicate (7-3) none) st) by
  obtain⟨w,⟨l,rfl,h1,h2,h3⟩,e⟩:=tH hh
  exact⟨l,h1,h2,h3,e⟩
 obtain⟨ds,h1,h2,e⟩:=qy c s m #[0] st
 apply az
 ·(walk_at "evs")
 apply az
 ·(walk_at "evs")
 have iF:lstOf (st++[au.lst (ds.map W.int)]) st.length=some (ds.map W.int):=bY (by rw[dR];rfl)
 refine gD (fun i ρ bh=>∃(r f:List Nat) (o o2:Option W),ρ=[iO c,iO m,iO s,some (.str r),some (.str f),o,o2]/\bh=st++[.lst (ds.map W.int)]/\f.length=i/\r.length+i=52/\(f++r).Perm LL) (z_ (by(repeat' (first|with_reducible exact e|walk_at "ev1"))) iF)
  ⟨LL,[],none,none,rfl,rfl,rfl,rfl,.refl _⟩ (fun i ρ bh h=>?_) ?_ ?_
 ·obtain⟨r,f,o,o2,rfl,rfl,_⟩:=h
  exact iF
 ·rintro i w ρ bh hw ⟨r,f,o,o2,rfl,rfl,hf,hr,hfl⟩
  obtain⟨d,hd,rfl⟩:∃d,ds[i]?=some d/\w=.int d:=by
   simp only[aG,fE]at hw
   obtain⟨d,h1,rfl⟩:=hw
   exact⟨d,h1,rfl⟩
  have hi:i<m:=by rw[<- h1];exact(ax.mp hd).1
  obtain⟨q,hq,eq⟩:=hX (q:=d) (n:=r.length) #[0]
  have hL:r.length<=nQ:=by show _<=1000000;omega
  have hLf:f.length<=nQ:=by show _<=1000000;omega
  have hat:uw r (d%(r.length:Int))=some r[q]:=by rw[eq];exact fX (by simp[hq])
  refine⟨_,rfl,?_⟩
  apply az
  ·(repeat' (first|with_reducible exact zY hL|walk_at "ev1"))
   show 0<(r.length:Int);omega
  apply az
  ·have ha:f.length+[r[q]].length<=nQ:=by show _+1<=1000000;omega
   (repeat' (first|with_reducible exact Ie hL hat|with_reducible exact DP ha|walk_at "ev1"))
  apply dm
  ·(repeat' (first|with_reducible exact Ig hL|walk_at "ev1"))
   rw[eq,m_ #[0],show((q:Int)+1)=((q+1:Nat):Int)from rfl,tI #[0],aF,cm]
   show _<=1000000;omega
  ·refine⟨_,_,rfl,_,_,_,_,rfl,rfl,by simp[hf],?_,?_⟩
   ·rw[eq,m_ #[0],show((q:Int)+1)=((q+1:Nat):Int)from rfl,tI #[0],ai,aF,cm]
    omega
   ·rw[eq,m_ #[0],show((q:Int)+1)=((q+1:Nat):Int)from rfl,tI #[0]]
    refine List.Perm.trans ?_ hfl
    rw[al]
    refine pZ f ?_
    have e:r=r.take q++r[q]::r.drop (q+1):=by rw[<- dE hq,List.take_append_drop]
    have e2:(r[q]::(r.take q++r.drop (q+1))).Perm r:=(List.perm_middle.symm).trans (by rw[<- e])
    exact e2
 ·rintro ρ bh ⟨r,f,o,o2,rfl,rfl,hf,hr,hfl⟩
  apply bQ
  ·(walk_at "evs")
  ·exact⟨_,_,rfl,⟨_,rfl⟩,rfl,f,rfl,by rw[hf];simpa using h1,(nn.mp (hfl.nodup_iff.mpr #[3])).1,fun d hd=>hfl.mem_iff.mp (bB _ hd)⟩
structure Pl where
 b:Nat
 m:List Nat
noncomputable def Pl.w(p:Pl):W:=.tup [.int p.b,.str p.m]
def cb(t:List Pl):W:=.tup (t.map Pl.w)
inductive St(n:Nat):List Nat->Nat->List Nat->Nat->Option Nat×Option Nat->Prop
 |z {S:List Nat}:St n S 0 (1::S) 1 (none,none)
 |l {a:Nat} {S:List Nat}:St n (a::S) 1 ((1+a)::S) (1+a) (some (n-1),none)
 |r {a:Nat} {S:List Nat}:St n (a::S) 2 ((1+a)::S) (1+a) (none,some (n-1))
 |b {c a:Nat} {S:List Nat}:St n (c::a::S) 3 ((1+c+a)::S) (1+c+a) (some (n-1-c),some (n-1))
inductive Gr:List Pl->List Nat->List Nat->List #[8]->Prop
 |nil:Gr [] [] [] []
 |snoc {ps:List Pl} {S S' sz:List Nat} {lk:List (Option Nat×Option Nat)} {b k:Nat} {m:List Nat} {x:Option Nat×Option Nat}:Gr ps S sz lk->St ps.length S b S' k x->Gr (ps++[⟨b,m⟩]) S' (sz++[k]) (lk++[x])
def At(sz:List Nat):List Nat->Nat->Prop
 |[],n=>n=0
 |a::S,n=>sz[n-1]?=some a/\a<=n/\1<=a/\At sz S (n-a)
theorem At.app{sz x:List Nat}:∀{S:List Nat} {n:Nat},n<=sz.length->At sz S n->At (sz++x) S n
 |[],_,_,h=>h
 |a::S,n,hn,⟨h1,h2,h3,h4⟩=>⟨by rw[aR (by omega)];exact h1,h2,h3,At.app (by omega) h4⟩
theorem St.at'{sz S':List Nat}{b:Nat}{x:Option Nat×Option Nat}(h:St n S b S' k x)(hn:sz.length=n)(ha:At sz S n):At (sz++[k]) S' (n+1):=by
 have hk:(sz++[k])[n+1-1]?=some k:=by rw[Nat.add_sub_cancel,<- hn];simp
 cases h with
 |z=>exact⟨hk,by omega,by omega,by rw[Nat.add_sub_cancel];exact ha.app (by omega)⟩
 |@l a S=>exact⟨hk,by have:=ha.2.1;omega,by omega,by rw[show n+1-(1+a)=n-a by omega];exact ha.2.2.2.app (by omega)⟩
 |@r a S=>exact⟨hk,by have:=ha.2.1;omega,by omega,by rw[show n+1-(1+a)=n-a by omega];exact ha.2.2.2.app (by omega)⟩
 |@b c a S=>exact⟨hk,by have:=ha.2.1;have:=ha.2.2.2.2.1;omega,by omega,by rw[show n+1-(1+c+a)=n-c-a by omega];exact ha.2.2.2.2.2.2.app (by omega)⟩
theorem Gr.ok{ps:List Pl}{sz:List Nat}{lk:List #[8]}(h:Gr ps S sz lk):sz.length=ps.length/\lk.length=ps.length/\At sz S ps.length:=by
 induction h with
 |nil=>exact⟨rfl,rfl,rfl⟩
 |snoc _ hs ih=>
  obtain⟨h1,h2,h3⟩:=ih
  exact⟨by simp[h1],by simp[h2],by rw[ai];exact hs.at' h1 h3⟩
theorem Gr.step{ps:List Pl}{sz:List Nat}{lk:List #[8]}(h:Gr ps S sz lk):∀i,i<ps.length->∃S1 S2 p k x,Gr (ps.take i) S1 (sz.take i) (lk.take i)/\ps[i]?=some p/\sz[i]?=some k/\lk[i]?=some x/\St i S1 p.b S2 k x/\Gr (ps.take (i+1)) S2 (sz.take (i+1)) (lk.take (i+1)):=by
 induction h with
 |nil=>intro i hi;simp at hi
 |@snoc ps S S' sz lk b k m x hg hs ih=>
  intro i hi
  obtain⟨l1,l2,_⟩:=hg.ok
  by_cases e:i=ps.length
  ·subst e
   refine⟨S,S',⟨b,m⟩,k,x,?_,by simp,by rw[<- l1];simp,by rw[<- l2];simp,hs,?_⟩
   ·rw[gZ,<- l1,gZ]
    rw[l1,<- l2,gZ];exact hg
   ·rw[bn #[15],bn (by simp[l1]),bn (by simp[l2])]
    exact .snoc hg hs
  ·have hi':i<ps.length:=by simp at hi;omega
   obtain⟨S1,S2,p,k1,x1,g1,q1,q2,q3,hs1,g2⟩:=ih i hi'
   refine⟨S1,S2,p,k1,x1,?_,by rw[aR hi'];exact q1,by rw[aR #[0]];exact q2,by rw[aR #[0]];exact q3,hs1,?_⟩
   ·rw[b_ #[0],b_ #[0],b_ #[0]];exact g1
   ·rw[b_ #[0],b_ #[0],b_ #[0]];exact g2
theorem Gr.cut{ps:List Pl}{sz:List Nat}{lk:List #[8]}(h:Gr ps S sz lk)(hi:i<ps.length):∃(p:Pl) (L R:Nat),ps[i]?=some p/\sz[i]?=some (1+L+R)/\L+R<=i/\p.b<=3/\(0<L↔p.b%2=1)/\(0<R↔2<=p.b)/\(2<=p.b->1<=i/\sz[i-1]?=some R):=by
 obtain⟨S1,S2,p,k,x,g1,q1,q2,q3,hs,_⟩:=h.step i hi
 obtain⟨l1,l2,ha⟩:=g1.ok
 have gC:(ps.take i).length=i:=by rw[aF];omega
 rw[gC]at ha
 obtain⟨b,m⟩:=p
 have get:∀j a,1<=i->j=i-1->(sz.take i)[j]?=some a->sz[j]?=some a:=fun j a hi1 hj e=>by
  rw[cy #[0]]at e;exact e
 cases hs with
 |z=>exact⟨⟨0,m⟩,0,0,q1,q2,by omega,by simp,by simp,by simp,by simp⟩
 |@l a S=>
  have ha1:(sz.take i)[i-1]?=some a:=ha.1
  have ha2:a<=i:=ha.2.1
  have ha3:1<=a:=ha.2.2.1
  exact⟨⟨1,m⟩,a,0,q1,q2,by omega,by simp,by simp;omega,by simp,by simp⟩
 |@r a S=>
  have ha1:(sz.take i)[i-1]?=some a:=ha.1
  have ha2:a<=i:=ha.2.1
  have ha3:1<=a:=ha.2.2.1
  exact⟨⟨2,m⟩,0,a,q1,by rw[q2],by omega,by simp,by simp,by simp;omega,fun _=>⟨by omega,get _ _ #[0] rfl ha1⟩⟩
 |@b c a S=>
  have ha1:(sz.take i)[i-1]?=some c:=ha.1
  have ha2:c<=i:=ha.2.1
  have ha3:1<=c:=ha.2.2.1
  have hb2:a<=i-c:=ha.2.2.2.2.1
  have hb3:1<=a:=ha.2.2.2.2.2.1
  exact⟨⟨3,m⟩,a,c,q1,by rw[q2];congr 1<;>omega,by omega,by simp,by simp;omega,by simp;omega,fun _=>⟨by omega,get _ _ #[0] rfl ha1⟩⟩
theorem TC{b:Nat}(h:b<=3)(st:List au):GP false (.int b) (.tup [.int 1,.int 3]) st=.ok (.bl (decide (b%2=1))) st:=by
 obtain rfl|rfl|rfl|rfl:b=0\/b=1\/b=2\/b=3:=by omega
 all_goals rfl
theorem TD{b:Nat}(h:b<=3)(st:List au):GP false (.int b) (.tup [.int 2,.int 3]) st=.ok (.bl (decide (2<=b))) st:=by
 obtain rfl|rfl|rfl|rfl:b=0\/b=1\/b=2\/b=3:=by omega
 all_goals rfl
theorem LW{p:Pl}(h:p.b<=3)(st:List au):As [p.w] st=.ok (.bl (decide (p.b%2=1))) st:=by
 have:=TC h st
 have i0:bv p.w (.int 0) st=.ok (.int p.b) st:=rfl
 apply fj
 apply bQ
 ·(walk_at "evs")
 ·exact⟨_,_,rfl,rfl,rfl⟩
theorem Cn{p:Pl}(h:p.b<=3)(st:List au):xl [p.w] st=.ok (.bl (decide (2<=p.b))) st:=by
 have:=TD h st
 have i0:bv p.w (.int 0) st=.ok (.int p.b) st:=rfl
 apply fj
 apply bQ
 ·(walk_at "evs")
 ·exact⟨_,_,rfl,rfl,rfl⟩
noncomputable def oW:Option Nat->W
 |none=>.non
 |some k=>.int k
def jF(x:Option Nat×Option Nat):W:=.tup [oW x.1,oW x.2]
noncomputable def jW:List Nat->Nat->List Nat
 |[],_=>[]
 |a::S,n=>(n-1)::jW S (n-a)
theorem i8:∀(S:List Nat) (n:Nat),(jW S n).length=S.length
 |[],_=>rfl
 |a::S,n=>by simp[jW,i8 S]
theorem At.le{sz:List Nat}:∀{S:List Nat} {n:Nat},At sz S n->S.length<=n
 |[],_,_=>bZ _
 |a::S,n,⟨_,h2,h3,h4⟩=>by have:=At.le h4;simp;omega
theorem St.det{S1 S2:List Nat}{b k1 k2:Nat}{x1 x2:Option Nat×Option Nat}(h1:St n S b S1 k1 x1)(h2:St n S b S2 k2 x2):S1=S2/\k1=k2/\x1=x2:=by
 cases h1<;>cases h2<;>exact⟨rfl,rfl,rfl⟩
theorem Gr.det{ps:List Pl}{sz:List Nat}{lk:List #[8]}(h:Gr ps S sz lk):∀{UM:List Pl} {S' VG:List Nat} {Q9:List #[8]},Gr UM S' VG Q9->ps=UM->S=S':=by
 induction h with
 |nil=>
  intro UM S' VG Q9 h' e
  cases h' with
  |nil=>rfl
  |snoc _ _=>simp at e
 |snoc hg hs ih=>
  intro UM S' VG Q9 h' e
  cases h' with
  |nil=>simp at e
  |snoc hg' hs'=>
   have e2:=List.append_inj' e rfl
   have:=ih hg' e2.1
   subst this
   have e3:Pl.mk _ _=Pl.mk _ _:=List.head_eq_of_cons_eq e2.2
   injection e3 with eb em
   subst eb
   rw[<- e2.1]at hs'
   exact(hs.det hs').1
noncomputable def cZ(l:List Nat):List W:=l.map fun k:Nat=>W.int k
section
variable{ps:List Pl}{sz:List Nat}{lk:List #[8]}
theorem tX(h:Gr ps S sz lk)(hn:ps.length<=1000)(st:List au):xn [cb ps] st=.ok (.tup (lk.map jF)) st:=by
 obtain⟨l1,l2,_⟩:=h.ok
 have hu:∀(l:List #[8]) (n:Nat),undWs n (l.map jF)=true:=by
  intro l n
  induction l with
  |nil=>rfl
  |cons x r ih=>
   obtain⟨a,b⟩:=x
   simp only[bt,undWs,ih,dM,jF,W.und]
   cases a<;>cases b<;>rfl
 refine fv (N:=7) (ws:=[cb ps]) (body:=Td) ?_ (by simp[undWs,W.und,hu])
 apply az
 ·(walk_at "evs")
 apply az
 ·(walk_at "evs")
 rw[show(st++[au.lst []]).length=st.length+1 by simp,show st++[au.lst []]++[au.lst []]=st++[au.lst [],au.lst []] by simp]
 refine gD (fun i ρ bh=>∃(S1:List Nat) (o3 o4 o5 o6:Option W),ρ=[some (cb ps),some #[5],some (.loc (st.length+1)),o3,o4,o5,o6]/\bh=st++[.lst ((lk.take i).map jF),.lst (cZ (jW S1 i).reverse)]/\Gr (ps.take i) S1 (sz.take i) (lk.take i)/\i<=ps.length) (k:=(m7 (ps.map Pl.w),none))
  (by show se (ah (ag 0) aD) _ _=_;unfold se;rfl) ⟨[],none,none,none,none,rfl,rfl,.nil,bZ _⟩ (fun _ _ _ _=>trivial) ?_ ?_
 ·rintro i w ρ bh hw ⟨S1,o3,o4,o5,o6,rfl,rfl,hg,hi⟩
  obtain⟨y,hy,rfl⟩:=uJ hw
  have hip:i<ps.length:=by have:=(ax.mp hy).1;simpa using this
  obtain⟨S1',S2,p,k,x,g1,q1,q2,q3,hs,g2⟩:=h.step i hip
  rw[aG,q1]at hy
  cases hy
  refine⟨_,rfl,?_⟩
  have hS:=hg.det g1 rfl
  subst hS
  obtain⟨lz,ll,ha⟩:=g1.ok
  have hti:(ps.take i).length=i:=by rw[aF];omega
  rw[hti]at ha lz ll
  have hSl:=ha.le
  obtain⟨p',L,R,q1',q2',_,hb3,hL,hR,_⟩:=h.cut hip
  rw[q1]at q1';cases q1'
  have hlk:lk.take (i+1)=lk.take i++[x]:=by rw[kr,q3];rfl
  have hrt:=fun st=>Cn (p:=p) hb3 st
  have hlf:=fun st=>LW (p:=p) hb3 st
  have pop:∀(A:List W) (B:List Nat) (q:Nat),q9 (.loc (st.length+1)) [] (st++[.lst A,.lst (cZ (q::B).reverse)])=.ok (.int q) (st++[.lst A,.lst (cZ B.reverse)]):=fun A B q=>by
   have hc:(st++[au.lst A,.lst (cZ (q::B).reverse)])[st.length+1]?=some (.lst (cZ B.reverse++[.int q])):=by rw[iD];simp[cZ]
   rw[BK hc,nT];rfl
  have isl:∀(A:List W) (B:List W),mw (st++[.lst A,.lst B]) (.loc (st.length+1))=true:=fun A B=>d9 (by rw[iD];rfl)
  have isl0:∀(A:List W) (B:List W),mw (st++[.lst A,.lst B]) #[5]=true:=fun A B=>d9 (by rw[dR];rfl)
  have app:∀(A:List W) (B:List Nat) (q:Nat),B.length<1000->cv (.loc (st.length+1)) [.int q] (st++[.lst A,.lst (cZ B.reverse)])=.ok .non (st++[.lst A,.lst (cZ (q::B).reverse)]):=fun A B q hB=>by
   have hc:(st++[au.lst A,.lst (cZ B.reverse)])[st.length+1]?=some (.lst (cZ B.reverse)):=by rw[iD];rfl
   rw[pI hc (by simp[cZ];show _<1000000;omega),nT]
   simp[cZ]
  have app0:∀(B:List W) (w:W),cv #[5] [w] (st++[.lst ((lk.take i).map jF),.lst B])=.ok .non (st++[.lst ((lk.take i).map jF++[w]),.lst B]):=fun B w=>by
   have hc:(st++[au.lst ((lk.take i).map jF),.lst B])[st.length]?=some (.lst ((lk.take i).map jF)):=by rw[dR];rfl
   rw[pI hc (by simp;show _<1000000;omega),fY];rfl
  have kT:∀(o3 o4 o5 o6:Option W) (B:List Nat),B=jW S2 (i+1)->KD (fun ρ bh=>∃(S1:List Nat) (o3 o4 o5 o6:Option W),ρ=[some (cb ps),some #[5],some (.loc (st.length+1)),o3,o4,o5,o6]/\bh=st++[.lst ((lk.take (i+1)).map jF),.lst (cZ (jW S1 (i+1)).reverse)]/\Gr (ps.take (i+1)) S1 (sz.take (i+1)) (lk.take (i+1))/\i+1<=ps.length)
    (.nx [some (cb ps),some #[5],some (.loc (st.length+1)),o3,o4,o5,o6] (st++[.lst ((lk.take i).map jF++[jF x]),.lst (cZ B.reverse)])):=by
   rintro o3 o4 o5 o6 B rfl
   exact⟨_,_,rfl,S2,_,_,_,_,rfl,by rw[hlk];simp,g2,by omega⟩
  obtain⟨b,m⟩:=p
  have hiS:∀T:List Nat,T.length<=i->(jW T i).length<1000:=fun T hT=>by rw[i8];omega
  cases hs with
  |@z=>
   have hr:xl [(Pl.mk 0 m).w]=fun st=>.ok (.bl false) st:=funext hrt
   have hl:As [(Pl.mk 0 m).w]=fun st=>.ok (.bl false) st:=funext hlf
   have a1:=app ((lk.take i).map jF) (jW S1 i) i (hiS _ hSl)
   have a2:=app0 (cZ (i::jW S1 i).reverse) (.tup [.non,.non])
   apply az
   ·apply bb
    apply tw
    ·(repeat' (first|with_reducible exact mR hr _|walk_at "ev1"))
    ·(walk_at "evs")
   apply az
   ·apply bb
    apply tw
    ·(repeat' (first|with_reducible exact mR hl _|walk_at "ev1"))
    ·(walk_at "evs")
   apply az
   ·(repeat' (first|with_reducible exact isl _ _|walk_at "ev1"))
   apply dm
   ·(repeat' (first|with_reducible exact isl0 _ _|walk_at "ev1"))
   ·exact kT _ _ _ _ (i::jW S1 i) rfl
  |@l a S=>
   have hr:xl [(Pl.mk 1 m).w]=fun st=>.ok (.bl false) st:=funext hrt
   have hl:As [(Pl.mk 1 m).w]=fun st=>.ok (.bl true) st:=funext hlf
   have hSl':S.length<=i:=by simp at hSl;omega
   have p1:=pop ((lk.take i).map jF) (jW S (i-a)) (i-1)
   have a1:=app ((lk.take i).map jF) (jW S (i-a)) i (by rw[i8];omega)
   have a2:=app0 (cZ (i::jW S (i-a)).reverse) (.tup [.int (i-1:Nat),.non])
   apply az
   ·apply bb
    apply tw
    ·(repeat' (first|with_reducible exact mR hr _|walk_at "ev1"))
    ·(walk_at "evs")
   apply az
   ·apply bb
    apply tu
    ·(repeat' (first|with_reducible exact mR hl _|walk_at "ev1"))
    ·exact jV kv (isl _ _) aQ p1
   apply az
   ·(repeat' (first|with_reducible exact isl _ _|walk_at "ev1"))
   apply dm
   ·(repeat' (first|with_reducible exact isl0 _ _|walk_at "ev1"))
   ·exact kT _ _ _ _ (i::jW S (i-a)) (by simp only[jW];congr 1;congr 1;omega)
  |@r a S=>
   have hr:xl [(Pl.mk 2 m).w]=fun st=>.ok (.bl true) st:=funext hrt
   have hl:As [(Pl.mk 2 m).w]=fun st=>.ok (.bl false) st:=funext fun st=>(hlf st).trans (by rw[show decide ((Pl.mk 2 m).b%2=1)=false from by simp])
   have hSl':S.length<=i:=by simp at hSl;omega
   have p1:=pop ((lk.take i).map jF) (jW S (i-a)) (i-1)
   have a1:=app ((lk.take i).map jF) (jW S (i-a)) i (by rw[i8];omega)
   have a2:=app0 (cZ (i::jW S (i-a)).reverse) (.tup [.non,.int (i-1:Nat)])
   apply az
   ·apply bb
    apply tu
    ·(repeat' (first|with_reducible exact mR hr _|walk_at "ev1"))
    ·exact jV kv (isl _ _) aQ p1
   apply az
   ·apply bb
    apply tw
    ·(repeat' (first|with_reducible exact mR hl _|walk_at "ev1"))
    ·(walk_at "evs")
   apply az
   ·(repeat' (first|with_reducible exact isl _ _|walk_at "ev1"))
   apply dm
   ·(repeat' (first|with_reducible exact isl0 _ _|walk_at "ev1"))
   ·exact kT _ _ _ _ (i::jW S (i-a)) (by simp only[jW];congr 1;congr 1;omega)
  |@b c a S=>
   have hr:xl [(Pl.mk 3 m).w]=fun st=>.ok (.bl true) st:=funext hrt
   have hl:As [(Pl.mk 3 m).w]=fun st=>.ok (.bl true) st:=funext fun st=>(hlf st).trans (by rw[show decide ((Pl.mk 3 m).b%2=1)=true from by simp])
   have hSl':S.length<=i:=by simp at hSl;omega
   have hca:(i-c-1)=(i-1-c):=by omega
   have p1:=pop ((lk.take i).map jF) ((i-1-c)::jW S (i-c-a)) (i-1)
   have p2:=pop ((lk.take i).map jF) (jW S (i-c-a)) (i-1-c)
   have a1:=app ((lk.take i).map jF) (jW S (i-c-a)) i (by rw[i8];omega)
   have a2:=app0 (cZ (i::jW S (i-c-a)).reverse) (.tup [.int (i-1-c:Nat),.int (i-1:Nat)])
   have ht:jW (c::a::S) i=(i-1)::(i-1-c)::jW S (i-c-a):=by simp only[jW,hca]
   rw[ht]
   apply az
   ·apply bb
    apply tu
    ·(repeat' (first|with_reducible exact mR hr _|walk_at "ev1"))
    ·exact jV kv (isl _ _) aQ p1
   apply az
   ·apply bb
    apply tu
    ·(repeat' (first|with_reducible exact mR hl _|walk_at "ev1"))
    ·exact jV kv (isl _ _) aQ p2
   apply az
   ·(repeat' (first|with_reducible exact isl _ _|walk_at "ev1"))
   apply dm
   ·(repeat' (first|with_reducible exact isl0 _ _|walk_at "ev1"))
   ·exact kT _ _ _ _ (i::jW S (i-c-a)) (by simp only[jW];congr 1;congr 1;omega)
 ·rintro ρ bh ⟨S1,o3,o4,o5,o6,rfl,rfl,hg,hi⟩
  have gC:(m7 (ps.map Pl.w)).length=ps.length:=by simp[m7]
  have hc:(st++[au.lst ((lk.take (m7 (ps.map Pl.w),(none:Option (Nat×List W))).1.length).map jF),.lst (cZ (jW S1 (m7 (ps.map Pl.w),(none:Option (Nat×List W))).1.length).reverse)])[st.length]?=some (.lst (lk.map jF)):=by
   rw[dR]
   show some (au.lst ((lk.take (m7 (ps.map Pl.w)).length).map jF))=_
   rw[gC,bn #[0]]
  apply bQ
  ·(repeat' (first|with_reducible exact oJ (bY hc)|walk_at "ev1"))
  ·exact⟨_,_,rfl,rfl,_,rfl⟩
end
theorem mB(t:List Pl)(n:Nat):(cb t).und n=true:=by
 unfold cb W.und
 induction t with
 |nil=>rfl
 |cons x r ih=>simp only[bt,undWs,ih,dM];simp[Pl.w,W.und,undWs]
theorem gR(a:List Pl)(st:List au):dH [cb a] st=.ok (.int a.length) st:=by
 unfold cb
 rw[DQ,aE]
theorem tY{a:List Pl}{p:Pl}(h:a[q]?=some p)(st:List au):bv (cb a) (.int q) st=.ok p.w st:=nV (fX (by simp[h]))
theorem D6(p:Pl)(st:List au):bv p.w (.int 1) st=.ok (.str p.m) st:=rfl
theorem Qq(p:Pl)(st:List au):bv p.w (.int 0) st=.ok (.int p.b) st:=rfl
section
variable{ps:List Pl}{sz:List Nat}{lk:List #[8]}
theorem Gu(h:Gr ps S sz lk)(hn:ps.length<=1000)(st:List au):∃x,(∃A,x=[au.lst A,.lst (lk.map jF)])/\Ce [cb ps] st=.ok (.loc (st.length+1)) (st++x):=by
 obtain⟨l1,l2,_⟩:=h.ok
 suffices hh:k_ (A9 fun w bh=>∃j x,w=.loc (st.length+j)/\bh=st++x/\j=1/\∃A,x=[au.lst A,.lst (lk.map jF)]) (No ([cb ps].map some++List.replicate (6-1) none) st) by
  obtain⟨j,x,⟨rfl,h1⟩,e⟩:=vW hh
  exact⟨x,h1,e⟩
 apply az
 ·(walk_at "evs")
 apply az
 ·(walk_at "evs")
 rw[show(st++[au.lst []]).length=st.length+1 by simp,show st++[au.lst []]++[au.lst []]=st++[au.lst [],au.lst []] by simp]
 refine gD (fun i ρ bh=>∃(S1:List Nat) (o3 o4 o5:Option W),ρ=[some (cb ps),some #[5],some (.loc (st.length+1)),o3,o4,o5]/\bh=st++[.lst (cZ (jW S1 i).reverse),.lst ((lk.take i).map jF)]/\Gr (ps.take i) S1 (sz.take i) (lk.take i)/\i<=ps.length)
  (j9 (q:=(ps.length:Int)) (st1:=st++[au.lst [],au.lst []]) (am (cr kn (gR ps _)) aQ) #[0]) ⟨[],none,none,none,rfl,rfl,.nil,bZ _⟩ (fun _ _ _ _=>trivial) ?_ ?_
 ·rintro i w ρ bh hw ⟨S1,o3,o4,o5,rfl,rfl,hg,hi⟩
  obtain⟨hip,rfl⟩:=kL hw
  rw[cf]at hip
  obtain⟨S1',S2,p,k,x,g1,q1,q2,q3,hs,g2⟩:=h.step i hip
  refine⟨_,rfl,?_⟩
  have hS:=hg.det g1 rfl
  subst hS
  obtain⟨lz,ll,ha⟩:=g1.ok
  have hti:(ps.take i).length=i:=by rw[aF];omega
  rw[hti]at ha lz ll
  have hSl:=ha.le
  have hlk:lk.take (i+1)=lk.take i++[x]:=by rw[kr,q3];rfl
  have it:∀s:List au,bv (cb ps) (.int (0+(i:Int))) s=.ok p.w s:=fun s=>by rw[uj];exact tY q1 s
  have pop:∀(A:List W) (B:List Nat) (q:Nat),q9 #[5] [] (st++[.lst (cZ (q::B).reverse),.lst A])=.ok (.int q) (st++[.lst (cZ B.reverse),.lst A]):=fun A B q=>by
   have hc:(st++[au.lst (cZ (q::B).reverse),.lst A])[st.length]?=some (.lst (cZ B.reverse++[.int q])):=by rw[dR];simp[cZ]
   rw[BK hc,fY];rfl
  have isl:∀(A:List W) (B:List W),mw (st++[.lst A,.lst B]) (.loc (st.length+1))=true:=fun A B=>d9 (by rw[iD];rfl)
  have isl0:∀(A:List W) (B:List W),mw (st++[.lst A,.lst B]) #[5]=true:=fun A B=>d9 (by rw[dR];rfl)
  have app:∀(A:List W) (B:List Nat),B.length<1001->cv #[5] [.int (0+(i:Int))] (st++[.lst (cZ B.reverse),.lst A])=.ok .non (st++[.lst (cZ (i::B).reverse),.lst A]):=fun A B hB=>by
   have hc:(st++[au.lst (cZ B.reverse),.lst A])[st.length]?=some (.lst (cZ B.reverse)):=by rw[dR];rfl
   rw[pI hc (by simp[cZ];show _<1000000;omega),fY]
   simp[cZ]
  have app1:∀(B:List W) (w:W),cv (.loc (st.length+1)) [w] (st++[.lst B,.lst ((lk.take i).map jF)])=.ok .non (st++[.lst B,.lst ((lk.take i).map jF++[w])]):=fun B w=>by
   have hc:(st++[au.lst B,.lst ((lk.take i).map jF)])[st.length+1]?=some (.lst ((lk.take i).map jF)):=by rw[iD];rfl
   rw[pI hc (by simp;show _<1000000;omega),nT];rfl
  have T1:∀(k:Bool) (ρ:cW) (s:List au),decide ((2:Int)<=(p.b:Int))=k->ρ[0]?=some (some (cb ps))->ρ[3]?=some (some (.int (0+(i:Int))))->eP (e2 OV (e2 bv (e2 bv (ag 0) (ag 3)) (eI 0)) (eI 2)) ρ s=.ok k s:=fun k ρ s e h0 h3=>aY (bw (bw (bw (kB h0) (kB h3) (it s)) bJ (Qq p s)) bJ (BJ e))
  have T2:∀(k:Bool) (ρ:cW) (s:List au),(((p.b:Int)%2)==1)=k->ρ[0]?=some (some (cb ps))->ρ[3]?=some (some (.int (0+(i:Int))))->eP (e2 kz (e2 iY (e2 bv (e2 bv (ag 0) (ag 3)) (eI 0)) (eI 2)) (eI 1)) ρ s=.ok k s:=fun k ρ s e h0 h3=>aY (bw (bw (bw (bw (kB h0) (kB h3) (it s)) bJ (Qq p s)) bJ (jn #[3])) bJ (gk e))
  have kT:∀(o3 o4 o5:Option W) (B:List Nat),i::B=jW S2 (i+1)->KD (fun ρ bh=>∃(S1:List Nat) (o3 o4 o5:Option W),ρ=[some (cb ps),some #[5],some (.loc (st.length+1)),o3,o4,o5]/\bh=st++[.lst (cZ (jW S1 (i+1)).reverse),.lst ((lk.take (i+1)).map jF)]/\Gr (ps.take (i+1)) S1 (sz.take (i+1)) (lk.take (i+1))/\i+1<=ps.length)
    (.nx [some (cb ps),some #[5],some (.loc (st.length+1)),o3,o4,o5] (st++[.lst (cZ (i::B).reverse),.lst ((lk.take i).map jF++[jF x])])):=by
   rintro o3 o4 o5 B e
   exact⟨_,_,rfl,S2,_,_,_,rfl,by rw[hlk,e];simp,g2,by omega⟩
  have put:∀(lw u_:W) (o3:Option W) (B:List Nat),o3=some (.int (0+(i:Int)))->B.length<1001->jF x=.tup [lw,u_]->i::B=jW S2 (i+1) ->
    k_ (KD (fun ρ bh=>∃(S1:List Nat) (o3 o4 o5:Option W),ρ=[some (cb ps),some #[5],some (.loc (st.length+1)),o3,o4,o5]/\bh=st++[.lst (cZ (jW S1 (i+1)).reverse),.lst ((lk.take (i+1)).map jF)]/\Gr (ps.take (i+1)) S1 (sz.take (i+1)) (lk.take (i+1))/\i+1<=ps.length))
     (aM (dq (oG cv (ag 2) (ah (fK (ah (ag 4) (ah (ag 5) aD))) aD))) (dq (oG cv (ag 1) (ah (ag 3) aD))) [some (cb ps),some #[5],some (.loc (st.length+1)),o3,some lw,some u_] (st++[.lst (cZ B.reverse),.lst ((lk.take i).map jF)])):=by
   intro lw u_ o3 B e3 hB hx hT
   subst e3
   have a1:=app1 (cZ B.reverse) (.tup [lw,u_])
   have a2:=app ((lk.take i).map jF++[.tup [lw,u_]]) B hB
   have ff:=kT (some (.int (0+(i:Int)))) (some lw) (some u_) B hT
   rw[hx]at ff
   apply az
   ·exact dX (jV kv (isl _ _) (am (eR (am kv kn) (ao rfl)) aQ) a1)
   apply dm
   ·exact dX (jV kv (isl0 _ _) kn a2)
   ·exact ff
  apply az
  ·exact bb bJ
  apply az
  ·exact bb bJ
  obtain⟨b,m⟩:=p
  cases hs with
  |@z=>
   apply bD
   ·exact T1 false _ _ rfl rfl rfl
   apply bW
   apply bD
   ·exact T2 false _ _ rfl rfl rfl
   apply bW
   exact put _ _ _ (jW S1 i) rfl (by rw[i8];omega) rfl rfl
  |@l a S=>
   apply bD
   ·exact T1 false _ _ rfl rfl rfl
   apply bW
   apply az
   ·exact dh (T2 true _ _ rfl rfl rfl) (bb (jV kv (isl0 _ _) aQ (pop _ (jW S (i-a)) (i-1))))
   exact put _ _ _ (jW S (i-a)) rfl (by rw[i8];simp at hSl;omega) rfl (by simp only[jW];congr 1;congr 1;omega)
  |@r a S=>
   apply az
   ·exact dh (T1 true _ _ rfl rfl rfl) (bb (jV kv (isl0 _ _) aQ (pop _ (jW S (i-a)) (i-1))))
   apply bD
   ·exact T2 false _ _ (by show((2:Int)%2==1)=false;decide) rfl rfl
   apply bW
   exact put _ _ _ (jW S (i-a)) rfl (by rw[i8];simp at hSl;omega) rfl (by simp only[jW];congr 1;congr 1;omega)
  |@b c a S=>
   apply az
   ·exact dh (T1 true _ _ rfl rfl rfl) (bb (jV kv (isl0 _ _) aQ (pop _ (jW (a::S) (i-c)) (i-1))))
   apply az
   ·exact dh (T2 true _ _ (by show((3:Int)%2==1)=true;decide) rfl rfl) (bb (jV kv (isl0 _ _) aQ (pop _ (jW S (i-c-a)) (i-c-1))))
   exact put _ _ _ (jW S (i-c-a)) rfl (by rw[i8];simp at hSl;omega) (by show W.tup [.int ((i-1-c:Nat):Int),_]=_;rw[show i-1-c=i-c-1 by omega];rfl) (by simp only[jW];congr 1;congr 1;omega)
 ·rintro ρ bh ⟨S1,o3,o4,o5,rfl,rfl,hg,hi⟩
  rw[show(gO 0 (ps.length:Int).toNat,(none:Option (Nat×List W))).fst.length=lk.length by rw[l2];simp[fL],cK]
  apply bQ
  ·(walk_at "evs")
  ·exact⟨_,_,rfl,1,_,rfl,rfl,rfl,_,rfl⟩
end
theorem tZ{s:List au}{p:Nat}{c:au}(h:st <+: s)(hp:st.length<=p):st <+: s.set p c:=by
 obtain⟨x,rfl⟩:=h
 rw[show p=st.length+(p-st.length) by omega,nT]
 exact a_ _ _
theorem Ay{s y:List au}(h:st <+: s):st <+: s++y:=h.trans (a_ _ _)
theorem pre_get{s:List au}{c:au}(h:st <+: s)(e:st[i]?=some c):s[i]?=some c:=by
 obtain⟨x,rfl⟩:=h
 exact dJ e
theorem fw{s:List au}{p:Nat}{c d:au}(h:s[p]?=some d):(s.set p c)[p]?=some c:=by
 rw[b9 (ax.mp h).1]
theorem cQ{s:List au}{p:Nat}{c:au}(h:p≠q):(s.set p c)[q]?=s[q]?:=cM h
theorem ec{s:List au}{p:Nat}{c:au}(h:s[p]?=some c):p<s.length:=(ax.mp h).1
theorem dG{s:List au}{c:au}:(s++[c])[s.length]?=some c:=by rw[dR];rfl
noncomputable def Az(l:List Int):List W:=l.map W.int
theorem vZ{s:List au}{p:Nat}{ds:List Int}{d:Int}(h:s[p]?=some (.lst (Az ds)))(e:ds[i]?=some d):bv (.loc p) (.int i) s=.ok (.int d) s:=jO (bY h) (fX (by rw[Az,aG,e];rfl))
theorem Jq(h:lstOf st n=some (ls.map W.str))(hl:ls.length<64):lG [.loc n] st=.ok #[5] (st++[.lst ((jN ls).map W.str)]):=by
 show qS [.loc n] st=_
 unfold qS
 simp only[h,eZ,yU]
 rw[aK hl]
theorem xw{a b:List (List Nat)}(h:a.Perm b):(a.map List.length).sum=(b.map List.length).sum:=by
 induction h with
 |nil=>rfl
 |cons x _ ih=>simp only[bt,rY,ih]
 |swap x y l=>simp only[bt,rY];omega
 |trans _ _ ih1 ih2=>rw[ih1,ih2]
theorem t5(l:List Nat):(((l.map fun c=>[c])).map List.length).sum=l.length:=by
 induction l with
 |nil=>rfl
 |cons a r ih=>simp only[bt,rY,b6,ih,List.length_nil];omega
def D7(l:List Nat):List Nat:=mv [] (jN (l.map fun c=>[c]))
theorem Fd(l:List Nat):(D7 l).length=l.length:=by
 unfold D7;rw[nP,List.length_flatten,xw (hW _),t5]
theorem Jr(l:List Nat):(D7 l).Perm l:=by
 unfold D7;rw[nP]
 have h:(jN (l.map fun c=>[c])).flatten.Perm (l.map fun c=>[c]).flatten:=(hW _).flatten
 refine h.trans (.of_eq ?_)
 induction l with
 |nil=>rfl
 |cons a r ih=>
  have ih':=ih ((hW _).flatten)
  simp only[bt,nq,ih',List.cons_append,eK]
theorem Fe{fe:FE}{s1:List au}(h:fe ρ st=.ok (.loc n) s1)(hc:lstOf s1 n=some ((l.map fun c=>[c]).map W.str))(hl:l.length<64) :
  KC pH (eC (.str [])) (ah (bK lG (ah fe aD)) aD) ρ st=.ok (.str (D7 l)) (s1++[.lst ((jN (l.map fun c=>[c])).map W.str)]):=by
 have hs:=Jq hc (by simpa using hl)
 have hcell2:lstOf (s1++[au.lst ((jN (l.map fun c=>[c])).map W.str)]) s1.length=some ((jN (l.map fun c=>[c])).map W.str):=bY dG
 have hj:=DR (sep:=[]) hcell2 (by rw[xw (hW _),t5];show _<=1000000;simp;omega)
 exact LQ bJ rfl (am (cr (am h aQ) hs) aQ) hj
section
variable{fs:FA}
theorem LX(V:β->W)(Pb:Nat->β->Prop)(hr:fs ρ st=.ok [.int n] st)(hn:n<=100000)(h:∀i:Nat,i<n->∃b,Pb i b/\el ((uI cap ρ).set 0 (some (.int i))) st=.ok (V b) st) :
  ∃r:List β,r.length=n/\(∀i b,r[i]?=some b->Pb i b)/\lg cap (dQ fs) (kJ 0) x_ el ρ st=.ok #[5] (st++[.lst (r.map V)]):=by
 let f:Fin n->β:=fun i=>Classical.choose (h i i.2)
 have hf:∀i:Fin n,Pb i (f i)/\el ((uI cap ρ).set 0 (some (.int (i:Nat)))) st=.ok (V (f i)) st:=fun i=>Classical.choose_spec (h i i.2)
 let Y:W->W:=fun w=>match w with
  |.int z=>if hz:z.toNat<n then V (f ⟨z.toNat,hz⟩)else .non
  |_=>.non
 have ir:dQ fs ρ st=.ok (gO 0 n,none) st:=by
  have:=j9 hr #[0]
  rw[cf]at this
  exact this
 have hc:=Fa (fi:=dQ fs) (f:=kJ 0) (el:=el) (cap:=cap) (ρ:=ρ) Y ir (by rw[fL];show _<=1000000;omega) trivial fun w hw=>by
  obtain⟨i,hi,rfl⟩:=y6 hw
  refine⟨_,rfl,?_⟩
  rw[show((0:Int)+(i:Int))=(i:Int) by omega]
  show _=R.ok (if hz:(i:Int).toNat<n then V (f ⟨(i:Int).toNat,hz⟩)else .non) st
  rw[dif_pos (show(i:Int).toNat<n by omega)]
  exact(hf ⟨i,hi⟩).2
 refine⟨List.ofFn f,by simp,fun i b hb=>?_,?_⟩
 ·obtain⟨h1,h2⟩:=ax.mp hb
  rw[List.getElem_ofFn]at h2
  rw[<- h2]
  exact(hf ⟨i,by simpa using h1⟩).1
 ·rw[hc]
  have e:(gO 0 n).map Y=(List.ofFn f).map V:=by
   refine List.ext_getElem (by simp[fL]) fun i h1 h2=>?_
   have hi:i<n:=by simpa[fL]using h1
   rw[oo,oo,List.getElem_ofFn]
   unfold gO
   rw[oo,List.getElem_range,show((0:Int)+(i:Int))=(i:Int) by omega]
   show(if hz:(i:Int).toNat<n then V (f ⟨(i:Int).toNat,hz⟩)else .non)=_
   rw[dif_pos (show(i:Int).toNat<n by omega)]
  rw[e]
theorem Js(V:β->W)(Pb:Nat->β->Prop)(hr:fs ρ st=.ok [.int n] st)(hn:n<=100000)(h:∀i:Nat,i<n->∃b,Pb i b/\el ((uI cap ρ).set 0 (some (.int i))) st=.ok (V b) st) :
  ∃r:List β,r.length=n/\(∀i b,r[i]?=some b->Pb i b)/\bK jf (ah (lg cap (dQ fs) (kJ 0) x_ el) aD) ρ st=.ok (.tup (r.map V)) (st++[.lst (r.map V)]):=by
 obtain⟨r,h1,h2,e⟩:=LX (cap:=cap) (el:=el) V Pb hr hn h
 exact⟨r,h1,h2,cr (am e aQ) (oJ (bY dG))⟩
end
structure Mc where
 nm:List Nat
 gd:List Bool
 tb:List (List (List Nat))
noncomputable def gB(r:List Nat):W:=.tup (r.map fun k=>W.int (k:Nat))
def yn(t:List (List Nat)):W:=.tup (t.map gB)
def Mc.w(M:Mc):W:=.tup [.str M.nm,.tup (M.gd.map W.bl),.tup (M.tb.map yn)]
def V6(n:Nat)(t:List (List Nat)):Prop:=t.length=n/\∀r∈t,r.length=n/\∀k∈r,k<n
structure ng(M:Mc)(n:Nat):Prop where
 gd:M.gd.length=n
 tb:M.tb.length=2^M.nm.length
 t:∀t∈M.tb,V6 n t
theorem v0(r:List Nat)(n:Nat):(gB r).und n=true:=by
 unfold gB W.und
 induction r with
 |nil=>rfl
 |cons x r ih=>simp only[bt,undWs,ih,dM];rfl
theorem LY(t:List (List Nat))(n:Nat):(yn t).und n=true:=by
 unfold yn W.und
 induction t with
 |nil=>rfl
 |cons x r ih=>simp only[bt,undWs,ih,dM];exact v0 x n
theorem Jt(t:List (List (List Nat)))(n:Nat):undWs n (t.map yn)=true:=by
 induction t with
 |nil=>rfl
 |cons x r ih=>simp only[bt,undWs,ih,dM];exact LY x n
theorem LZ(t:List Bool)(n:Nat):undWs n (t.map W.bl)=true:=by
 induction t with
 |nil=>rfl
 |cons x r ih=>simp only[bt,undWs,ih,dM];rfl
theorem Ju(M:Mc)(n:Nat):M.w.und n=true:=by
 unfold Mc.w
 simp[W.und,undWs,Jt,LZ]
theorem Hl{c:Nat}(h:c<=100):Bu (.int 1) (.int c) st=.ok (.int ((2^c:Nat):Int)) st:=by
 have:=jn (C:=fun i j=>0<=j/\j<=1000000/\i.natAbs<2^64) (f:=fun i j=>i*2^j.toNat) (p:=1) (q:=(c:Int)) (st:=st) ⟨by omega,by omega,by decide⟩
 rw[show Bu (.int 1) (.int c) st=_ from this]
 simp
theorem qA{s:List au}{p:Nat}{y:W}(h:s[p]?=some (.lst ws))(hl:ws.length<1000000):cv (.loc p) [y] s=.ok .non (s.set p (.lst (ws++[y]))):=pI h hl
theorem Qr(h:q<n):EK n (q:Int)=some q:=by
 unfold EK
 rw[aK #[0],aK #[0]];simp
theorem D8{s:List au}{p q:Nat}{v:W}(h:s[p]?=some (.lst ws))(hq:q<ws.length):rE (.loc p) (.int q) v s=some (s.set p (.lst (ws.set q v))):=Pi h (Qr hq)
theorem Qs{s:List au}:yQ [.tup ws] s=.ok (.loc s.length) (s++[.lst ws]):=rfl
noncomputable def nW(l:List Nat):List W:=l.map fun k=>W.int (k:Nat)
theorem NB{s:List au}{p:Nat}(h:s[p]?=some (.lst (nW l)))(e:l[i]?=some k):bv (.loc p) (.int i) s=.ok (.int k) s:=jO (bY h) (fX (by rw[nW,aG,e];rfl))
theorem Jv{s:List au}(e:l[i]?=some k):bv (gB l) (.int i) s=.ok (.int k) s:=nV (fX (by rw[aG,e];rfl))
theorem Jw{s:List au}{t:List (List Nat)}{r:List Nat}(e:t[i]?=some r):bv (yn t) (.int i) s=.ok (gB r) s:=nV (fX (by rw[aG,e];rfl))
theorem zc{f:FG}{ρ':cW}{w:W}(h:fe ρ st=.ok w st1)(h2:f w ρ=some ρ'):wH fe f ρ st=.nx ρ' st1:=by
 unfold wH;rw[h];simp only[R.stmt_ok];rw[h2]
theorem Jx{c:Nat}:GP false (.str [c]) (.str l) st=.ok (.bl (decide (c∈l))) st:=rfl
theorem AA{st1:List au}(h:fe ρ st=.ok (.str l) st1):ie fe ρ st=.ok (jg l,none) st1:=by unfold ie;rw[h];rfl
theorem Co{w:W}(h:(jg l)[i]?=some w):∃c,l[i]?=some c/\w=.str [c]:=by
 simp only[jg,aG,fE]at h
 obtain⟨c,h1,rfl⟩:=h
 exact⟨c,h1,rfl⟩
theorem u5(l:List Nat):(jg l).length=l.length:=by simp[jg]
theorem ml{l:List α}{c:α}(h:l[i]?=some c):l.take (i+1)=l.take i++[c]:=by
 rw[List.take_succ,h];rfl
noncomputable def lN(m:List Nat)(l:List Nat):Nat:=l.foldl (fun a c=>2*a+if c∈m then 1 else 0) 0
theorem zd(m l:List Nat)(c:Nat):lN m (l++[c])=2*lN m l+if c∈m then 1 else 0:=by unfold lN;rw[List.foldl_append];rfl
theorem Ff(m:List Nat)(l:List Nat):lN m l<2^l.length:=by
 have key:∀(l:List Nat) (a k:Nat),a<2^k->l.foldl (fun a c=>2*a+if c∈m then 1 else 0) a<2^(k+l.length):=by
  intro l
  induction l with
  |nil=>intro a k h;simpa using h
  |cons c r ih=>
   intro a k h
   have:=ih (2*a+if c∈m then 1 else 0) (k+1) (by rw[Nat.pow_succ];split<;>omega)
   rw[List.foldl_cons,b6,show k+(r.length+1)=k+1+r.length by omega];exact this
 have:=key l 0 0 #[15]
 simpa[lN]using this
theorem Gv(names m:List Nat)(st:List au):Jl [.str names,.str m] st=.ok (.int (lN m names:Nat)) st:=by
 refine fv (N:=4) (ws:=[.str names,.str m]) (body:=S9) ?_ rfl
 apply az
 ·(walk_at "evs")
 refine gD (fun i ρ s=>∃o3:Option W,ρ=[some (.str names),some (.str m),some (.int (lN m (names.take i):Nat)),o3]/\s=st) (AA (st1:=st) kv) ⟨none,rfl,rfl⟩ (fun _ _ _ _=>trivial) ?_ ?_
 ·rintro i w ρ s hw ⟨o3,rfl,rfl⟩
  obtain⟨c,hc,rfl⟩:=Co hw
  refine⟨_,rfl,?_⟩
  have e:=zd m (names.take i) c
  rw[<- ml hc]at e
  apply az
  ·exact bb (bw kv bJ (sk (.inr #[3])))
  by_cases h:c∈m
  ·have t1:decide (c∈m)=true:=bG h
   rw[aK h]at e
   apply vt
   ·exact aY (bw kv kv (by rw[Jx,t1]))
   apply dm
   ·exact bb (bw kv bJ dN)
   ·exact⟨_,_,rfl,_,by rw[e,gf,jA,pE];rfl,rfl⟩
  ·have t1:decide (c∈m)=false:=a7 h
   rw[aU h]at e
   apply m9
   ·exact aY (bw kv kv (by rw[Jx,t1]))
   apply dm
   ·exact c_
   ·exact⟨_,_,rfl,_,by rw[e,gf,jA,pE];rfl,rfl⟩
 ·rintro ρ s ⟨o3,rfl,rfl⟩
  apply bQ
  ·(walk_at "evs")
  ·exact⟨_,_,rfl,by rw[show(jg names,(none:Option (Nat×List W))).fst.length=names.length from u5 names,cK],[],by simp⟩
theorem D9(names m:List Nat)(st:List au):zb [.str names,.str m] st=.ok (.int (lN m names:Nat)) st:=by
 refine fv (N:=4) (ws:=[.str names,.str m]) (body:=Nq) ?_ rfl
 apply az
 ·(walk_at "evs")
 refine gD (fun i ρ s=>∃o3:Option W,ρ=[some (.str names),some (.str m),some (.int (lN m (names.take i):Nat)),o3]/\s=st) (AA (st1:=st) kv) ⟨none,rfl,rfl⟩ (fun _ _ _ _=>trivial) ?_ ?_
 ·rintro i w ρ s hw ⟨o3,rfl,rfl⟩
  obtain⟨c,hc,rfl⟩:=Co hw
  refine⟨_,rfl,?_⟩
  have e:=zd m (names.take i) c
  rw[<- ml hc]at e
  have bi:Gf [.bl (decide (c∈m))] s=.ok (.int ((if c∈m then 1 else 0:Nat):Int)) s:=by
   by_cases h:c∈m
   ·rw[bG h,aK h];rfl
   ·rw[a7 h,aU h];rfl
  apply dm
  ·exact bb (bw (bw bJ kv (sk (.inl #[3]))) (cr (am (bw kv kv Jx) aQ) bi) dN)
  ·exact⟨_,_,rfl,_,by rw[e,gf,jA];rfl,rfl⟩
 ·rintro ρ s ⟨o3,rfl,rfl⟩
  apply bQ
  ·(walk_at "evs")
  ·exact⟨_,_,rfl,by rw[show(jg names,(none:Option (Nat×List W))).fst.length=names.length from u5 names,cK],[],by simp⟩
noncomputable def AB(r:List Nat):Option Nat->Nat
 |none=>0
 |some k=>r.getD k 0
def v3(M:Mc)(r:List Nat)(m:List Nat)(x:Option Nat×Option Nat):Nat:=((M.tb.getD (lN m M.nm) []).getD (AB r x.1) []).getD (AB r x.2) 0
def Gw(M:Mc):List Pl->List #[8]->List Nat->List Nat
 |p::ps,x::xs,r=>Gw M ps xs (r++[v3 M r p.m x])
 |_,_,r=>r
def Jy(n:Nat)(x:Option Nat×Option Nat):Prop:=(∀k,x.1=some k->k<n)/\∀k,x.2=some k->k<n
theorem Cp(r:List Nat)(o:Option Nat)(p:Nat)(st:List au)(hc:st[p]?=some (.lst (nW r)))(ho:∀k,o=some k->k<r.length):y9 [.loc p,oW o] st=.ok (.int (AB r o:Nat)) st:=by
 cases o with
 |none=>
  apply fj
  apply bQ
  ·exact tu (aY (BI kv rfl)) bJ
  ·exact⟨_,_,rfl,rfl,rfl⟩
 |some k=>
  have hk:=ho k rfl
  have e:r[k]?=some (r.getD k 0):=by rw[aI,aj hk];rfl
  apply fj
  apply bQ
  ·exact tw (aY (BI kv rfl)) (bw kv kv (NB hc e))
  ·exact⟨_,_,rfl,rfl,rfl⟩
theorem Gr.lk{ps:List Pl}{sz:List Nat}{lk:List #[8]}(h:Gr ps S sz lk){x:Option Nat×Option Nat}(hx:lk[i]?=some x):Jy i x:=by
 obtain⟨_,l2,_⟩:=h.ok
 have hi:i<ps.length:=by have:=(ax.mp hx).1;omega
 obtain⟨S1,S2,p,k,x',g1,q1,q2,q3,hs,g2⟩:=h.step i hi
 rw[hx]at q3;cases q3
 obtain⟨_,_,ha⟩:=g1.ok
 rw[show(ps.take i).length=i by rw[aF];omega]at ha
 obtain⟨b,m⟩:=p
 cases hs with
 |z=>exact⟨fun k e=>by simp at e,fun k e=>by simp at e⟩
 |@l a S=>have:=ha.2.1;have:=ha.2.2.1;exact⟨fun k e=>by simp at e;omega,fun k e=>by simp at e⟩
 |@r a S=>have:=ha.2.1;have:=ha.2.2.1;exact⟨fun k e=>by simp at e,fun k e=>by simp at e;omega⟩
 |@b c a S=>have:=ha.2.1;have:=ha.2.2.1;exact⟨fun k e=>by simp at e;omega,fun k e=>by simp at e;omega⟩
theorem Cq(M:Mc)(p:Pl)(x:Option Nat×Option Nat):∀(ps:List Pl) (lk:List #[8]) (r:List Nat),ps.length=lk.length->Gw M (ps++[p]) (lk++[x]) r=Gw M ps lk r++[v3 M (Gw M ps lk r) p.m x]
 |[],[],r,_=>rfl
 |q::ps,y::lk,r,h=>by
  show Gw M (ps++[p]) (lk++[x]) _=_
  rw[Cq M p x ps lk _ (by simpa using h)];rfl
 |[],_::_,_,h=>by simp at h
 |_::_,[],_,h=>by simp at h
def gy(M:Mc)(ps:List Pl)(lk:List #[8]):List Nat:=Gw M ps lk []
theorem Jz{r:List Nat}{o:Option Nat}(hn:1<=n)(hr:∀k∈r,k<n)(ho:∀k,o=some k->k<r.length):AB r o<n:=by
 cases o with
 |none=>exact hn
 |some k=>
  have hk:=ho k rfl
  have e:r[k]?=some (r.getD k 0):=by rw[aI,aj hk];rfl
  exact hr _ (cz e)
theorem D_{M:Mc}{r:List Nat}{m:List Nat}{x:Option Nat×Option Nat}(hM:ng M n)(hn:1<=n)(hr:∀k∈r,k<n)(hx:Jy r.length x) :
  ∃t q,M.tb[lN m M.nm]?=some t/\t[AB r x.1]?=some q/\q[AB r x.2]?=some (v3 M r m x)/\v3 M r m x<n:=by
 have h1:lN m M.nm<M.tb.length:=by rw[hM.tb];exact Ff m M.nm
 have e1:M.tb[lN m M.nm]?=some (M.tb.getD (lN m M.nm) []):=by rw[aI,aj h1];rfl
 obtain⟨t1,t2⟩:=hM.t _ (cz e1)
 have h2:AB r x.1<(M.tb.getD (lN m M.nm) []).length:=by rw[t1];exact Jz hn hr hx.1
 have e2:(M.tb.getD (lN m M.nm) [])[AB r x.1]?=some ((M.tb.getD (lN m M.nm) []).getD (AB r x.1) []):=by rw[aI (l:=M.tb.getD (lN m M.nm) []),aj h2];rfl
 obtain⟨t3,t4⟩:=t2 _ (cz e2)
 have h3:AB r x.2<((M.tb.getD (lN m M.nm) []).getD (AB r x.1) []).length:=by rw[t3];exact Jz hn hr hx.2
 have e3:((M.tb.getD (lN m M.nm) []).getD (AB r x.1) [])[AB r x.2]?=some (v3 M r m x):=by unfold v3;rw[aI (l:=(M.tb.getD (lN m M.nm) []).getD (AB r x.1) []),aj h3];rfl
 exact⟨_,_,e1,e2,e3,t4 _ (cz e3)⟩
theorem JA{M:Mc}{t:List (List Nat)}(h:M.tb[k]?=some t)(st:List au):bv (.tup (M.tb.map yn)) (.int k) st=.ok (yn t) st:=nV (fX (by rw[aG,h];rfl))
theorem NC{M:Mc}{r:List Nat}{m:List Nat}{x:Option Nat×Option Nat}{p:Nat}(hM:ng M n)(hn:1<=n)(hr:∀k∈r,k<n)(hx:Jy r.length x)(st:List au)(hc:st[p]?=some (.lst (nW r))) :
  tP [M.w,.str m,jF x,.loc p] st=.ok (.int (v3 M r m x:Nat)) st:=by
 obtain⟨t,q,e1,e2,e3,_⟩:=D_ (m:=m) hM hn hr hx
 have g0:bv M.w (.int 0) st=.ok (.str M.nm) st:=rfl
 have g2:bv M.w (.int 2) st=.ok (.tup (M.tb.map yn)) st:=rfl
 have x0:bv (jF x) (.int 0) st=.ok (oW x.1) st:=rfl
 have x1:bv (jF x) (.int 1) st=.ok (oW x.2) st:=rfl
 have lt:=Gv M.nm m st
 have b1:=Cp r x.1 p st hc hx.1
 have b2:=Cp r x.2 p st hc hx.2
 apply fj
 apply az
 ·exact bb (bw (bw kv bJ g2) (bV (am (bw kv bJ g0) kn) lt rfl) (JA e1 st))
 apply bQ
 ·exact bw (bw kv (bV (am kv (am (bw kv bJ x0) aQ)) b1 rfl) (Jw e2)) (bV (am kv (am (bw kv bJ x1) aQ)) b2 rfl) (Jv e3)
 ·exact⟨_,_,rfl,rfl,rfl⟩
section
variable{ps:List Pl}{sz:List Nat}{lk:List #[8]}{M:Mc}
theorem oR(h:Gr ps S sz lk){p:Pl}{x:Option Nat×Option Nat}(hp:ps[i]?=some p)(hx:lk[i]?=some x):gy M (ps.take (i+1)) (lk.take (i+1))=gy M (ps.take i) (lk.take i)++[v3 M (gy M (ps.take i) (lk.take i)) p.m x]:=by
 obtain⟨_,l2,_⟩:=h.ok
 unfold gy
 rw[ml hp,ml hx,Cq M p x _ _ _ (by rw[aF,aF,l2])]
theorem oS(h:Gr ps S sz lk)(hM:ng M n)(hn:1<=n):∀i,i<=ps.length->(gy M (ps.take i) (lk.take i)).length=i/\∀k∈gy M (ps.take i) (lk.take i),k<n:=by
 obtain⟨_,l2,_⟩:=h.ok
 intro i
 induction i with
 |zero=>intro _;exact⟨rfl,by simp[gy,Gw]⟩
 |succ i ih=>
  intro hi
  obtain⟨h1,h2⟩:=ih #[0]
  obtain⟨p,hp⟩:∃p,ps[i]?=some p:=⟨_,aj #[0]⟩
  obtain⟨x,hx⟩:∃x,lk[i]?=some x:=⟨_,aj #[0]⟩
  obtain⟨_,_,_,_,_,e⟩:=D_ (m:=p.m) hM hn h2 (by rw[h1];exact h.lk hx)
  rw[oR h hp hx]
  refine⟨by simp[h1],fun k hk=>?_⟩
  rcases aV.mp hk with z|z
  ·exact h2 k z
  ·simp at z;subst z;exact e
theorem Qt{a b:List W}{w:W}(h:(sg a b)[i]?=some w):∃x y,a[i]?=some x/\b[i]?=some y/\w=.tup [x,y]:=wX h
theorem TF{fs:FA}{st1:List au}{xs ys:List W}(h:fs ρ st=.ok [.tup xs,.tup ys] st1):zV fs ρ st=.ok (sg xs ys,none) st1:=by unfold zV;rw[h];rfl
theorem JB(h:Gr ps S sz lk)(hl:ps.length<=900)(hM:ng M n)(hn:1<=n)(st:List au):pM [M.w,cb ps] st=.ok (gB (gy M ps lk)) st:=by
 obtain⟨_,l2,_⟩:=h.ok
 have lo:=tX h #[0] (st++[au.lst []])
 refine fv (N:=5) (ws:=[M.w,cb ps]) (body:=Nj) ?_ (by simp only[undWs,dM];exact v0 _ _)
 apply az
 ·(walk_at "evs")
 refine gD (fun i ρ s=>∃(o3 o4:Option W),ρ=[some M.w,some (cb ps),some #[5],o3,o4]/\st <+: s/\s[st.length]?=some (.lst (nW (gy M (ps.take i) (lk.take i))))/\i<=ps.length) (k:=(sg (ps.map Pl.w) (lk.map jF),none))
  (TF (st1:=st++[au.lst []]) (am kv (am (bV kn lo rfl) aQ))) ⟨none,none,rfl,a_ _ _,dG,bZ _⟩ (fun _ _ _ _=>trivial) ?_ ?_
 ·rintro i w ρ s hw ⟨o3,o4,rfl,hp,hc,hi⟩
  obtain⟨a,b,ha,hb,rfl⟩:=Qt hw
  have hip:i<ps.length:=by have:=(ax.mp ha).1;simpa using this
  obtain⟨p,AO⟩:∃p,ps[i]?=some p:=⟨_,aj hip⟩
  obtain⟨x,hx⟩:∃x,lk[i]?=some x:=⟨_,aj #[0]⟩
  rw[aG,AO]at ha;cases ha
  rw[aG,hx]at hb;cases hb
  refine⟨_,rfl,?_⟩
  obtain⟨r1,r2⟩:=oS (M:=M) h hM hn i hi
  have ra:=NC (m:=p.m) hM hn r2 (by rw[r1];exact h.lk hx) s hc
  have ap:=qA (y:=.int (v3 M (gy M (ps.take i) (lk.take i)) p.m x:Nat)) hc (by simp[nW];omega)
  apply dm
  ·exact dX (jV kv (d9 hc) (am (bV (am kv (am (bw kv bJ (D6 p s)) (am kv kn))) ra rfl) aQ) ap)
  ·refine⟨_,_,rfl,_,_,rfl,tZ hp (aA _),?_,by omega⟩
   rw[fw hc,oR h AO hx];simp[nW]
 ·rintro ρ s ⟨o3,o4,rfl,⟨x,rfl⟩,hc,hi⟩
  rw[show(sg (ps.map Pl.w) (lk.map jF),(none:Option (Nat×List W))).fst.length=ps.length by rw[wY];simp[l2],cK,show ps.length=lk.length by omega,cK]at hc
  apply bQ
  ·exact cr kn (oJ (bY hc))
  ·exact⟨_,_,rfl,rfl,x,rfl⟩
end
theorem Cr(l:List Nat)(k:Nat)(st:List au):j_ (k+1) [.str l,.str l] st=.ok (.bl true) st:=by
 refine fv (N:=3) (ws:=[.str l,.str l]) (body:=Cc (j_ k)) ?_ rfl
 (walk_at "go")
 apply bQ
 ·apply qW
  ·(walk_at "evs")
  ·(walk_at "evs")
 ·exact⟨_,_,rfl,by simp,[],by simp⟩
theorem t6{k:Nat}(hl:ws.length<=1000)(h:∀w∈ws,j_ k [w,w] st=.ok (.bl true) st):j_ (k+1) [.tup ws,.tup ws] st=.ok (.bl true) st:=by
 refine fv (N:=3) (ws:=[.tup ws,.tup ws]) (body:=Cc (j_ k)) ?_ rfl
 apply eT
 ·(walk_at "evs")
 apply uN
 apply bD
 ·apply m8
  ·(walk_at "evs")
  ·(walk_at "evs")
   simp
 apply bW
 apply uN
 refine gD (fun i ρ bh=>∃o,ρ=[some (.tup ws),some (.tup ws),o]/\bh=st) (j9 (by(walk_at "evs")) #[0]) ⟨none,rfl,rfl⟩ (fun _ _ _ _=>trivial) ?_ ?_
 ·rintro i w ρ bh hw ⟨o,rfl,rfl⟩
  obtain⟨hi,rfl⟩:=kL hw
  refine⟨_,rfl,?_⟩
  have hi':i<ws.length:=by simpa using hi
  have hat:bv (.tup ws) (.int (0+(i:Int))) bh=.ok ws[i] bh:=nV (by rw[uj];exact fX (by simp[hi']))
  have hs:=h ws[i] (dS _)
  apply m9
  ·(walk_at "evs")
  apply dm
  ·(walk_at "evs")
  ·exact⟨_,_,rfl,_,rfl,rfl⟩
 ·rintro ρ bh ⟨o,rfl,rfl⟩
  apply eJ
  ·(walk_at "evs")
  ·exact⟨_,_,rfl,rfl,[],by simp⟩
theorem ze(b:Bool)(k:Nat)(st:List au):j_ (k+1) [.bl b,.bl b] st=.ok (.bl true) st:=by
 have hb:kz (.bl b) (.bl b) st=.ok (.bl true) st:=SC #[15]
 refine fv (N:=3) (ws:=[.bl b,.bl b]) (body:=Cc (j_ k)) ?_ rfl
 apply bD
 ·(walk_at "evs")
 apply bW
 apply bD
 ·(walk_at "evs")
 apply bW
 apply eT
 ·(walk_at "evs")
 apply eJ
 ·apply qW
  ·(walk_at "evs")
  ·(walk_at "evs")
 ·exact⟨_,_,rfl,rfl,[],by simp⟩
theorem Ct(z:Int)(k:Nat)(st:List au):j_ (k+1) [.int z,.int z] st=.ok (.bl true) st:=by
 have hb:kz (.int z) (.int z) st=.ok (.bl true) st:=gk #[15]
 refine fv (N:=3) (ws:=[.int z,.int z]) (body:=Cc (j_ k)) ?_ rfl
 apply bD
 ·(walk_at "evs")
 apply bW
 apply bD
 ·(walk_at "evs")
 apply bW
 apply bD
 ·(walk_at "evs")
 apply bW
 apply eT
 ·(walk_at "evs")
 apply eJ
 ·apply qW
  ·(walk_at "evs")
  ·apply qW
   ·(walk_at "evs")
   ·(walk_at "evs")
 ·exact⟨_,_,rfl,by simp,[],by simp⟩
def Sm(w:W):Prop:=∀st,j_ 40 [w,w] st=.ok (.bl true) st
theorem TH(b:Bool):Sm (.bl b):=fun st=>ze b 39 st
theorem Qu(r:List Nat)(h:r.length<=1000):Sm (gB r):=fun st=>t6 (k:=39) (by simpa using h) fun w hw=>by
 obtain⟨z,_,rfl⟩:=c8.mp hw
 exact Ct _ _ _
section
variable{ps:List Pl}{sz:List Nat}{lk:List #[8]}{M:Mc}
theorem Cu{r:List Nat}{o:Option Nat}(h:∀j,o=some j->j<k):AB (r.take k) o=AB r o:=by
 cases o with
 |none=>rfl
 |some j=>show(r.take k).getD j 0=r.getD j 0;rw[aI,aI,cy (h j rfl)]
theorem zf(h:Gr ps S sz lk)(hM:ng M n)(hn:1<=n):∀i,i<=ps.length->(gy M ps lk).take i=gy M (ps.take i) (lk.take i):=by
 obtain⟨_,l2,_⟩:=h.ok
 have key:∀d i,i+d=ps.length->(gy M ps lk).take i=gy M (ps.take i) (lk.take i):=by
  intro d
  induction d with
  |zero=>
   intro i hi
   have e1:ps.take i=ps:=bn #[0]
   have e2:lk.take i=lk:=bn #[0]
   have hg:=(oS (M:=M) h hM hn i #[0]).1
   rw[e1,e2]at hg ⊢
   exact bn #[0]
  |succ d ih=>
   intro i hi
   have e:=ih (i+1) #[0]
   obtain⟨p,hp⟩:∃p,ps[i]?=some p:=⟨_,aj #[0]⟩
   obtain⟨x,hx⟩:∃x,lk[i]?=some x:=⟨_,aj #[0]⟩
   rw[oR h hp hx]at e
   have hg:=(oS (M:=M) h hM hn i #[0]).1
   have e2:=il (List.take i) e
   rw[mS,gc #[0],b_ #[0]]at e2
   rw[e2];exact bn #[0]
 intro i hi
 exact key (ps.length-i) i #[0]
theorem n5(h:Gr ps S sz lk)(hM:ng M n)(hn:1<=n):(gy M ps lk).length=ps.length/\∀k∈gy M ps lk,k<n:=by
 obtain⟨_,l2,_⟩:=h.ok
 have:=oS (M:=M) h hM hn ps.length (aA _)
 rw[cK,show ps.length=lk.length by omega,cK]at this
 exact⟨by rw[this.1];omega,this.2⟩
theorem JC(h:Gr ps S sz lk)(hM:ng M n)(hn:1<=n){i:Nat}{p:Pl}{x:Option Nat×Option Nat}(hp:ps[i]?=some p)(hx:lk[i]?=some x):(gy M ps lk)[i]?=some (v3 M (gy M ps lk) p.m x):=by
 have hi:i<ps.length:=(ax.mp hp).1
 have e:=zf (M:=M) h hM hn (i+1) #[0]
 rw[oR h hp hx,<- zf (M:=M) h hM hn i #[0]]at e
 have Q9:=h.lk hx
 have e3:v3 M ((gy M ps lk).take i) p.m x=v3 M (gy M ps lk) p.m x:=by unfold v3;rw[Cu Q9.1,Cu Q9.2]
 rw[e3]at e
 have hl:=(n5 (M:=M) h hM hn).1
 have:=il (fun l=>l[i]?) e
 simp only[cy (show i<i+1 by omega)]at this
 rw[this,aS (by rw[aF];omega),aF,show i-min i (gy M ps lk).length=0 by omega];rfl
def Cv(M:Mc)(ps:List Pl)(lk:List #[8]):Nat:=(gy M ps lk).getD (ps.length-1) 0
def L0(M:Mc)(ps:List Pl)(lk:List #[8]):Bool:=M.gd.getD (if 0<ps.length then Cv M ps lk else 0) false
theorem UF(h:Gr ps S sz lk)(hM:ng M n)(hn:1<=n)(h0:0<ps.length)(st:List au):bv (gB (gy M ps lk)) (.int (-1)) st=.ok (.int (Cv M ps lk:Nat)) st:=by
 have hl:=(n5 (M:=M) h hM hn).1
 refine nV ?_
 rw[show(-1:Int)=-((0:Nat)+1:Int) by rfl]
 refine w4 ?_
 rw[fU (by rw[aE];omega),aE,aG,hl,show ps.length-1-0=ps.length-1 by omega,aj #[0]]
 show some (W.int _)=some (W.int _)
 unfold Cv
 rw[aI,aj #[0]];rfl
theorem JD(hM:ng M n){k:Nat}(hk:k<n)(st:List au):bv (.tup (M.gd.map W.bl)) (.int k) st=.ok (.bl (M.gd.getD k false)) st:=
 nV (fX (by rw[aG,aj (by rw[hM.gd];exact hk),aI,aj (by rw[hM.gd];exact hk)];rfl))
theorem Qw(h:Gr ps S sz lk)(hM:ng M n)(hn:1<=n):(if 0<ps.length then Cv M ps lk else 0)<n:=by
 split
 ·rename_i h0
  obtain⟨hl,hr⟩:=n5 (M:=M) h hM hn
  unfold Cv
  rw[aI,aj #[0]]
  exact hr _ (dS _)
 ·exact hn
end
section
variable{ps:List Pl}{sz:List Nat}{lk:List #[8]}
theorem Qx{fs:FA}(h:fs ρ st=.ok [.tup ws] st1):se fs ρ st=.ok (m7 ws,none) st1:=by unfold se;rw[h];rfl
end
section
variable{ps:List Pl}{sz:List Nat}{lk:List #[8]}
theorem Fg(ps:List Pl)(hn:ps.length<=1000)(hρ:ρ[0]?=some (some (cb ps)))(st:List au):lg [none] (ie (ag 0)) (kJ 0) x_ (eC .non) ρ st=.ok #[5] (st++[.lst ((List.replicate ps.length none).map oW)]):=by
 have:=Fa (cap:=[none]) (f:=kJ 0) (el:=eC .non) (ρ:=ρ) (st:=st) (fun _=>.non) (zZ (fe:=ag 0) (ws:=ps.map Pl.w) (st1:=st) (kB hρ)) (by rw[aE];show _<=1000000;omega) trivial fun w _=>⟨_,rfl,bJ⟩
 rw[this,List.map_replicate,cq]
 congr 4
 exact List.map_const' ..
def Up(lk:List #[8])(f:Option Nat×Option Nat->Option Nat)(i:Nat)(l:List (Option Nat)):Prop:=
 (∀p u:Nat,l[p]?=some (some u)->∃x,lk[u]?=some x/\f x=some p)/\∀u x p,u<i->lk[u]?=some x->f x=some p->∃v,l[p]?=some (some v)
theorem Up.zero:Up lk f 0 (List.replicate k none):=⟨fun p u e=>by
 rw[jS]at e
 split at e<;>simp at e,fun u x p h=>absurd h #[0]⟩
theorem Up.skip{l:List (Option Nat)}{x:Option Nat×Option Nat}(h:Up lk f i l)(hx:lk[i]?=some x)(hf:f x=none):Up lk f (i+1) l:=⟨h.1,fun u y p hu hy hp=>by
 by_cases e:u=i
 ·subst e;rw[hx]at hy;cases hy;rw[hf]at hp;cases hp
 ·exact h.2 u y p #[0] hy hp⟩
theorem Up.put{l:List (Option Nat)}{x:Option Nat×Option Nat}(h:Up lk f i l)(hx:lk[i]?=some x)(hf:f x=some q)(hq:q<l.length):Up lk f (i+1) (l.set q (some i)):=⟨fun p u e=>by
 by_cases z:q=p
 ·subst z
  rw[b9 hq]at e
  cases e;exact⟨x,hx,hf⟩
 ·rw[cM z]at e;exact h.1 p u e,fun u y p hu hy hp=>by
 by_cases z:q=p
 ·subst z;exact⟨i,b9 hq⟩
 ·rw[cM z]
  by_cases e:u=i
  ·subst e;rw[hx]at hy;cases hy;rw[hf]at hp;exact absurd (bg hp) z
  ·exact h.2 u y p #[0] hy hp⟩
theorem Qy(h:Gr ps S sz lk)(hn:ps.length<=900)(st:List au):∃(A B:List (Option Nat)) (x:List au),A.length=ps.length/\B.length=ps.length/\Up lk Prod.fst ps.length A/\Up lk Prod.snd ps.length B/\(st++x)[st.length]?=some (.lst (A.map oW))/\(st++x)[st.length+1]?=some (.lst (B.map oW))/\Jm [cb ps] st=.ok (.tup [.loc st.length,.loc (st.length+1)]) (st++x):=by
 obtain⟨l1,l2,_⟩:=h.ok
 suffices hh:k_ (A9 fun w bh=>w=.tup [.loc st.length,.loc (st.length+1)]/\st <+: bh/\∃(A B:List (Option Nat)),A.length=ps.length/\B.length=ps.length/\Up lk Prod.fst ps.length A/\Up lk Prod.snd ps.length B/\bh[st.length]?=some (.lst (A.map oW))/\bh[st.length+1]?=some (.lst (B.map oW))) (PM ([cb ps].map some++List.replicate (5-1) none) st) by
  obtain⟨w,s',e,rfl,⟨x,rfl⟩,A,B,a1,a2,a3,a4,a5,a6⟩:=hh
  refine⟨A,B,x,a1,a2,a3,a4,a5,a6,?_⟩
  have:=jt (N:=5) (body:=PM) (ws:=[cb ps]) e
  rw[y0 (by simp[undWs,W.und])]at this
  exact this
 have eA:=Fg ps #[0] (ρ:=[some (cb ps),none,none,none,none]) rfl st
 apply az
 ·exact zc eA rfl
 generalize hA0:List.replicate ps.length (none:Option Nat)=A0 at *
 have eB:=Fg ps #[0] (ρ:=[some (cb ps),lO st.length,none,none,none]) rfl (st++[.lst (A0.map oW)])
 rw[hA0]at eB
 apply az
 ·exact zc eB rfl
 rw[show(st++[au.lst (A0.map oW)]).length=st.length+1 by simp]
 have lA0:A0.length=ps.length:=by rw[<- hA0];simp
 have uA:∀f,Up lk f 0 A0:=fun f=>by rw[<- hA0];exact Up.zero
 have hlk:=tX h #[0] (st++[au.lst (A0.map oW)]++[.lst (A0.map oW)])
 refine gD (fun i ρ s=>∃(o3 o4:Option W) (A B:List (Option Nat)),ρ=[some (cb ps),lO st.length,lO (st.length+1),o3,o4]/\st <+: s/\A.length=ps.length/\B.length=ps.length/\s[st.length]?=some (.lst (A.map oW))/\s[st.length+1]?=some (.lst (B.map oW))/\Up lk Prod.fst i A/\Up lk Prod.snd i B) (k:=(m7 (lk.map jF),none))
  (st1:=st++[au.lst (A0.map oW)]++[.lst (A0.map oW)]) (Qx (am (bV kn hlk rfl) aQ)) ⟨none,none,A0,A0,rfl,Ay (Ay (aq _)),lA0,lA0,dJ dG,by rw[show st.length+1=(st++[au.lst (A0.map oW)]).length by simp];exact dG,uA _,uA _⟩ (fun _ _ _ _=>trivial) ?_ ?_
 ·rintro i w ρ s hw ⟨o3,o4,A,B,rfl,hp,hA,hB,cA,cB,uA,uB⟩
  obtain⟨y,hy,rfl⟩:=uJ hw
  rw[aG]at hy
  obtain⟨x,hx,rfl⟩:=fE.mp hy
  obtain⟨k1,k2⟩:=h.lk hx
  have hi:i<ps.length:=by have:=(ax.mp hx).1;omega
  refine⟨_,rfl,?_⟩
  obtain⟨a,b⟩:=x
  have last:∀(s:List au) (A:List (Option Nat)),st <+: s->A.length=ps.length->s[st.length]?=some (.lst (A.map oW))->s[st.length+1]?=some (.lst (B.map oW))->Up lk Prod.fst (i+1) A->k_ (KD fun ρ s=>∃(o3 o4:Option W) (A B:List (Option Nat)),ρ=[some (cb ps),lO st.length,lO (st.length+1),o3,o4]/\st <+: s/\A.length=ps.length/\B.length=ps.length/\s[st.length]?=some (.lst (A.map oW))/\s[st.length+1]?=some (.lst (B.map oW))/\Up lk Prod.fst (i+1) A/\Up lk Prod.snd (i+1) B)
    (gA (eP (iC (e2 bv (ag 4) (eI 1)))) (By (ag 2) (e2 bv (ag 4) (eI 1)) (ag 3) rE) bX [some (cb ps),lO st.length,lO (st.length+1),iO (i:Nat),some (jF (a,b))] s):=by
   intro s A hp hA cA cB uA
   cases b with
   |none=>
    apply m9
    ·exact aY (fB kx rfl)
    ·exact⟨_,_,rfl,_,_,A,B,rfl,hp,hA,hB,cA,cB,uA,uB.skip hx rfl⟩
   |some q=>
    have:=k2 q rfl
    apply vt
    ·exact aY (fB kx rfl)
    apply dm
    ·exact E9 kv kv kx (D8 (q:=q) cB (by rw[aE];omega))
    ·exact⟨_,_,rfl,_,_,A,B.set q (some i),rfl,tZ hp #[0],hA,by rw[pP];exact hB,by rw[cQ #[0]];exact cA,by rw[fw cB,uk];rfl,uA,uB.put hx rfl #[0]⟩
  cases a with
  |none=>
   apply bD
   ·exact aY (fB kx rfl)
   apply bW
   exact last s A hp hA cA cB (uA.skip hx rfl)
  |some q=>
   have:=k1 q rfl
   apply az
   ·exact dh (aY (fB kx rfl)) (E9 kv kv kx (D8 (q:=q) cA (by rw[aE];omega)))
   exact last _ (A.set q (some i)) (tZ hp (aA _)) (by rw[pP];exact hA) (by rw[fw cA,uk];rfl) (by rw[cQ #[0]];exact cB) (uA.put hx rfl #[0])
 ·rintro ρ s ⟨o3,o4,A,B,rfl,hp,hA,hB,cA,cB,uA,uB⟩
  rw[show(m7 (lk.map jF),(none:Option (Nat×List W))).fst.length=ps.length by rw[yW,aE,l2]]at uA uB
  apply bQ
  ·exact eR (am kv kn) (ao rfl)
  ·exact⟨_,_,rfl,rfl,hp,A,B,hA,hB,uA,uB,cA,cB⟩
end
theorem Gx(l:List α)(d:α)(f:α->β):(List.range l.length).map (fun i=>f (l.getD i d))=l.map f:=by
 refine iJ fun i=>?_
 rw[aG,aG]
 by_cases h:i<l.length
 ·rw[gI h,aj h]
  show some (f (l.getD i d))=_
  rw[aI,aj h];rfl
 ·rw[bE (by simpa using h),bE #[0]];rfl
theorem lh{l:List α}(d:α)(h:i<l.length):l[i]?=some (l.getD i d):=by
 rw[aI,aj h];rfl
theorem St.ex{n b:Nat}{S:List Nat}(hb:b<=3)(h:(b+1)/2<=S.length):∃S' k x,St n S b S' k x/\S'.length+(b+1)/2=S.length+1:=by
 obtain rfl|rfl|rfl|rfl:b=0\/b=1\/b=2\/b=3:=by omega
 ·exact⟨_,_,_,.z,by simp⟩
 ·match S,h with
  |a::S,_=>exact⟨_,_,_,.l,by simp⟩
 ·match S,h with
  |a::S,_=>exact⟨_,_,_,.r,by simp⟩
 ·match S,h with
  |c::a::S,_=>exact⟨_,_,_,.b,by simp⟩
  |[_],hz=>simp at hz
  |[],hz=>simp at hz
noncomputable def zg(d:Int)(i:Nat):Bool:=Builtin.bitAnd (d/2^i) 1==1
def qB(pool:List Nat)(d:Int):List Nat:=((List.range pool.length).filter (zg d)).map fun i=>pool.getD i 0
theorem oT(pool:List Nat)(d:Int):(qB pool d).Sublist pool:=by
 unfold qB
 have:((List.range pool.length).map fun i=>pool.getD i 0)=pool:=by
  have:=Gx pool 0 (fun x=>x)
  rw[List.map_id']at this;exact this
 conv=>rhs;rw[<- this]
 exact List.Sublist.map _ List.filter_sublist
noncomputable def AC:W->Nat
 |.int i=>i.toNat
 |_=>0
theorem Gy(pool:List Nat)(hp:pool.length<=50)(d:Int)(st:List au):Cd [.str pool,.int d] st=.ok (.str (D7 (qB pool d))) st:=by
 have hL:pool.length<=nQ:=by show _<=1000000;omega
 have hc:=DT (fi:=dQ (ah (bK dH (ah (ag 0) aD)) aD)) (f:=kJ 0) (t:=eP (e2 kz (e2 HC (e2 OT (ag 2) (ag 0)) (eI 1)) (eI 1))) (el:=e2 bv (ag 1) (ag 0)) (cap:=[none,some 0,some 1]) (ρ:=[some (.str pool),iO d]) (st:=st) (st1:=st) (ws:=gO 0 pool.length) (ck:=none) (fun w=>zg d (AC w)) (fun w=>.str [pool.getD (AC w) 0])
   (by
    have:=j9 (fs:=ah (bK dH (ah (ag 0) aD)) aD) (ρ:=[some (.str pool),iO d]) (st:=st) (st1:=st) (q:=(pool.length:Int)) (am (cr kn (zY hL)) aQ) #[0]
    rw[cf]at this
    exact this) (by rw[fL];show _<=1000000;omega) trivial fun w hw=>by
   obtain⟨i,hi,rfl⟩:=y6 hw
   refine⟨[iO (0+(i:Int)),some (.str pool),iO d],rfl,?_,fun _=>?_⟩
   ·have h0:(0:Int)<=0+(i:Int):=by omega
    have hk:(Builtin.bitAnd (d/2^(0+(i:Int)).toNat) 1==1)=zg d (AC (.int (0+(i:Int)))):=rfl
    exact aY (bw (bw (bw kv kv (jn h0)) bJ (jn trivial)) bJ (gk hk))
   ·refine bw kv kv ?_
    rw[show((0:Int)+(i:Int))=(i:Int) by omega]
    have e2:uw pool (i:Int)=some (pool.getD i 0):=fX (lh 0 hi)
    rw[Ie hL e2]
    simp[AC]
 have e:((gO 0 pool.length).filter fun w=>zg d (AC w)).map (fun w=>W.str [pool.getD (AC w) 0])=((qB pool d).map fun c=>[c]).map W.str:=by
  unfold gO qB
  rw[List.filter_map,cq,cq,cq]
  have e1:((fun w=>zg d (AC w))∘fun k:Nat=>W.int (0+(k:Int)))=zg d:=by funext k;simp[AC]
  rw[e1]
  refine fy fun k _=>?_
  simp[AC]
 rw[e]at hc
 have hl:(qB pool d).length<=50:=aN (oT pool d).length_le hp
 refine fv (N:=2) (ws:=[.str pool,.int d]) (body:=Nm) ?_ rfl
 apply bQ
 ·exact Fe hc (bY dG) #[0]
 ·exact⟨_,_,rfl,rfl,_,by rw[al]⟩
theorem zh(l:List Nat):mv [] (l.map fun c=>[c])=l:=by
 rw[nP]
 induction l with
 |nil=>rfl
 |cons a r ih=>simp only[bt,nq,ih];rfl
theorem u6(h:l.Nodup):D7 l=g_ l:=by
 have hp:(g_ l).Perm l:=(List.perm_ext_iff_of_nodup ((j7 l).imp fun h=>a9 h) h).mpr fun d=>jM
 have e:jN (l.map fun c=>[c])=(g_ l).map fun c=>[c]:=by
  refine vV (wP _) ?_ ((hW _).trans (hp.map _).symm)
  refine List.pairwise_map.mpr ((j7 l).imp fun{a b} h=>?_)
  intro z
  rcases List.cons_lt_cons_iff.mp z with y|⟨y,_⟩<;>omega
 unfold D7
 rw[e,zh]
def Gz(pool m:List Nat):Prop:=m.length<=50/\(∀d∈m,d∈pool)/\(pool.Nodup->m.Pairwise (· < ·))
theorem TJ(hp:pool.length<=50)(d:Int):Gz pool (D7 (qB pool d)):=
 ⟨by rw[Fd];exact aN (oT pool d).length_le hp,fun c hc=>(oT pool d).subset ((Jr _).mem_iff.mp hc),fun h=>by rw[u6 ((oT pool d).nodup h)];exact j7 _⟩
theorem Qz{f:cW->List au->R Bool}{a b:List au}(h1:f ρ st=.ok false a)(h2:f ρ st=.ok true b):False:=by
 rw[h1]at h2;cases h2
theorem Fh{nd:Nat}{ds:List Int}{pool:List Nat}(hd:st[nd]?=some (.lst (Az ds)))(Ra:ds.length<=100)(hp:pool.length<=50) :
  ∃ps S sz lk,Gr ps S sz lk/\S.length<=1/\ps.length<=2*ds.length/\(∀p∈ps,Gz pool p.m)/\xp [.loc nd,.str pool] st=.ok (cb ps) st:=by
 suffices hh:k_ (A9 fun w bh=>(∃x,bh=st++x)/\undWs st.length [w]=true/\∃ps S sz lk,w=cb ps/\Gr ps S sz lk/\S.length<=1/\ps.length<=2*ds.length/\∀p∈ps,Gz pool p.m) (Nn ([W.loc nd,.str pool].map some++List.replicate (6-2) none) st) by
  obtain⟨w,⟨ps,S,sz,lk,rfl,h1,h2,h3,h4⟩,e⟩:=tH hh
  exact⟨ps,S,sz,lk,h1,h2,h3,h4,e⟩
 apply az
 ·(walk_at "evs")
 apply az
 ·(walk_at "evs")
 have iF:∀A:List W,lstOf (st++[au.lst A]) nd=some (Az ds):=fun A=>bY (dJ hd)
 refine gD (fun i ρ bh=>∃(ps:List Pl) (S sz:List Nat) (lk:List #[8]) (o5 o6:Option W),ρ=[lO nd,some (.str pool),lO st.length,iO S.length,o5,o6]/\bh=st++[.lst (ps.map Pl.w)]/\Gr ps S sz lk/\ps.length=i/\∀p∈ps,Gz pool p.m) (z_ (st1:=st++[au.lst []]) (by(walk_at "evs")) (iF []))
  ⟨[],[],[],[],none,none,rfl,rfl,.nil,rfl,by simp⟩ (fun i ρ bh h=>?_) ?_ ?_
 ·obtain⟨ps,S,sz,lk,o5,o6,rfl,rfl,_⟩:=h
  exact iF _
 ·rintro i w ρ bh hw ⟨ps,S,sz,lk,o5,o6,rfl,rfl,hg,ms,hpm⟩
  obtain⟨d,hdd,rfl⟩:∃d,ds[i]?=some d/\w=.int d:=by
   simp only[Az,aG,fE]at hw
   obtain⟨d,h1,rfl⟩:=hw
   exact⟨d,h1,rfl⟩
  have hi:i<ds.length:=(ax.mp hdd).1
  refine⟨_,rfl,?_⟩
  have hc:(st++[au.lst (ps.map Pl.w)])[st.length]?=some (.lst (ps.map Pl.w)):=dG
  obtain⟨b0,hb0,eb0⟩:=hX (q:=d) (n:=4) #[0]
  have eb0:d%4=(b0:Int):=eb0
  apply az
  ·exact bb (bw kv bJ (jn #[3]))
  rw[eb0]
  refine vY (fun ρ bh=>∃b:Nat,b<=3/\(b+1)/2<=S.length/\ρ=[lO nd,some (.str pool),lO st.length,iO S.length,iO d,iO b]/\bh=st++[.lst (ps.map Pl.w)]) ?_ ?_
  ·by_cases h1:S.length<(b0+1)/2
   ·have t1:decide ((S.length:Int)<((b0:Int)+1)/2)=true:=bG #[0]
    apply vt
    ·exact aY (bw (bw (bw kv bJ dN) bJ (jn #[3])) kv (lY t1))
    apply dm
    ·(walk_at "evs")
    ·exact⟨_,_,rfl,0,by omega,by omega,rfl,rfl⟩
   ·have t1:decide ((S.length:Int)<((b0:Int)+1)/2)=false:=a7 #[0]
    apply m9
    ·exact aY (bw (bw (bw kv bJ dN) bJ (jn #[3])) kv (lY t1))
    apply dm
    ·exact c_
    ·exact⟨_,_,rfl,b0,by omega,by omega,rfl,rfl⟩
  rintro ρ bh ⟨b2,hb2,u8,rfl,rfl⟩
  obtain⟨S',k,x,oZ,hlen'⟩:=St.ex (n:=ps.length) hb2 u8
  have em:=Gy pool hp (d/4%16) (st++[au.lst (ps.map Pl.w)])
  have hmk:=TJ hp (d/4%16)
  generalize D7 (qB pool (d/4%16))=m at em hmk
  have ap:=pI (y:=(Pl.mk b2 m).w) hc (by rw[aE];show _<1000000;omega)
  rw[fY]at ap
  have ap:cv #[5] [.tup [.int b2,.str m]] (st++[au.lst (ps.map Pl.w)])=_:=ap
  apply az
  ·exact dX (jV kv (d9 hc) (am (eR (am kv (am (bV (am kv (am (bw (bw kv bJ (jn #[3])) bJ (jn #[3])) aQ)) em rfl) aQ)) (ao rfl)) aQ) ap)
  apply dm
  ·exact bb (bw (bw kv bJ dN) (bw (bw kv bJ dN) bJ (jn #[3])) (jn trivial))
  ·refine⟨_,_,rfl,ps++[⟨b2,m⟩],S',sz++[k],lk++[x],iO d,iO b2,?_,by simp,.snoc hg oZ,by simp[ms],?_⟩
   ·show[_,_,_,iO ((S.length:Int)+1-((b2:Int)+1)/2),_,_]=_
    rw[show(S.length:Int)+1-((b2:Int)+1)/2=(S'.length:Int) by omega]
   ·intro p hp'
    rcases aV.mp hp' with z|z
    ·exact hpm p z
    ·simp at z;subst z;exact hmk
 ·rintro ρ bh ⟨ps,S,sz,lk,o5,o6,rfl,rfl,hg,ms,hpm⟩
  rw[show(Az ds,some (nd,Az ds)).fst.length=ds.length by simp[Az]]at ms
  have hSle:=hg.ok.2.2.le
  refine y4 (fun n ρ bh=>∃(ps:List Pl) (S sz:List Nat) (lk:List #[8]),ρ=[lO nd,some (.str pool),lO st.length,iO S.length,o5,o6]/\bh=st++[.lst (ps.map Pl.w)]/\Gr ps S sz lk/\ps.length+S.length<=2*ds.length/\(∀p∈ps,Gz pool p.m)/\S.length=n) S.length ⟨ps,S,sz,lk,rfl,rfl,hg,by omega,hpm,rfl⟩ ?_ ?_
  ·rintro n ρ bh ⟨ps,S,sz,lk,rfl,rfl,hg,ms,hpm,rfl⟩
   by_cases h1:1<S.length
   ·refine .inr ?_
    have t1:decide ((1:Int)<(S.length:Int))=true:=bG #[0]
    constructor
    ·exact aY (bw kv bJ (lY t1))
    obtain⟨S',k,x,oZ,hlen'⟩:=St.ex (n:=ps.length) (b:=3) (S:=S) #[0] #[0]
    have hc:(st++[au.lst (ps.map Pl.w)])[st.length]?=some (.lst (ps.map Pl.w)):=dG
    have hS2:=hg.ok.2.2.le
    obtain⟨p,AO⟩:∃p,ps[S.length-1]?=some p:=⟨_,aj #[0]⟩
    have ix:bv #[5] (.int ((S.length:Int)-1)) (st++[au.lst (ps.map Pl.w)])=.ok p.w (st++[au.lst (ps.map Pl.w)]):=by
     rw[show(S.length:Int)-1=((S.length-1:Nat):Int) by omega]
     exact jO (bY hc) (fX (by rw[aG,AO];rfl))
    have hmk:=hpm p (cz AO)
    have ap:=pI (y:=(Pl.mk 3 p.m).w) hc (by rw[aE];show _<1000000;omega)
    rw[fY]at ap
    have ap:cv #[5] [.tup [.int 3,.str p.m]] (st++[au.lst (ps.map Pl.w)])=_:=ap
    apply az
    ·exact dX (jV kv (d9 hc) (am (eR (am bJ (am (bw (bw kv (bw kv bJ (jn trivial)) ix) bJ (D6 p _)) aQ)) (ao rfl)) aQ) ap)
    apply dm
    ·exact bb (bw kv bJ (jn trivial))
    ·refine⟨_,_,rfl,S'.length,by omega,ps++[⟨3,p.m⟩],S',sz++[k],lk++[x],?_,by simp,.snoc hg oZ,by simp;omega,?_,rfl⟩
     ·show[_,_,_,iO ((S.length:Int)-1),_,_]=_
      rw[show(S.length:Int)-1=(S'.length:Int) by omega]
     ·intro q hq
      rcases aV.mp hq with z|z
      ·exact hpm q z
      ·simp at z;subst z;exact hmk
   ·refine .inl ?_
    have t1:decide ((1:Int)<(S.length:Int))=false:=a7 #[0]
    exact aY (bw kv bJ (lY t1))
  ·rintro n ρ bh ⟨ps,S,sz,lk,rfl,rfl,hg,ms,hpm,rfl⟩ hno
   have hc:(st++[au.lst (ps.map Pl.w)])[st.length]?=some (.lst (ps.map Pl.w)):=dG
   have hS1:S.length<=1:=by
    rcases Nat.lt_or_ge 1 S.length with h1|h1
    ·have t1:decide ((1:Int)<(S.length:Int))=true:=bG #[0]
     exact(Qz hno (aY (bw kv bJ (lY t1)))).elim
    ·exact h1
   apply bQ
   ·exact cr kn (oJ (bY hc))
   ·exact⟨_,_,rfl,⟨_,rfl⟩,by simp only[undWs,dM];exact mB ps _,ps,S,sz,lk,rfl,hg,hS1,by omega,hpm⟩
theorem JE{l:List Nat}(hl:l.length<4000)(h:∀c∈l,c∈LL)(st:List au):Jk [.str l] st=.ok (.str (g_ l)) st:=by
 have hs:(g_ l).length<64:=by
  have:(g_ l).length<=LL.length:=ny ((j7 l).imp fun h=>a9 h) fun c hc=>h c (jM.mp hc)
  have e:LL.length=52:=by decide
  omega
 have e1:tj (ag 0) [some (.str l)] st=.ok #[5] (st++[.lst (jg (g_ l))]):=by
  unfold tj
  rw[kB (w:=.str l) rfl]
  simp only[R.bind_ok,wR,eZ]
  rw[aK ⟨hl,hs⟩]
 have hj:=DR (sep:=[]) (ls:=(g_ l).map fun c=>[c]) (st:=st++[.lst (jg (g_ l))]) (n:=st.length) (bY (by rw[dG];unfold jg;rw[cq];rfl)) (by
  rw[t5];show _<=1000000;simp;omega)
 rw[zh]at hj
 exact fv (bQ (LQ bJ rfl (am e1 aQ) hj) ⟨_,_,rfl,rfl,_,rfl⟩) rfl
section
variable{ps:List Pl}{sz:List Nat}{lk:List #[8]}
theorem JF(l:List Nat)(n:Nat):undWs n (cZ l)=true:=by
 unfold cZ
 induction l with
 |nil=>rfl
 |cons x r ih=>simp[undWs,W.und,ih]
theorem zi{st:List au}{z:List Nat}{a:Nat}(x:List au)(h:z[q]?=some a):bv #[5] (.int q) (st++.lst (cZ z)::x)=.ok (.int a) (st++.lst (cZ z)::x):=
 jO (bY (by rw[dR];rfl)) (fX (by unfold cZ;rw[aG,h];rfl))
theorem JG{st:List au}{z:List Nat}(q:Nat)(hz:z.length<1000):cv #[5] [.int q] (st++[.lst (cZ z)])=.ok .non (st++[.lst (cZ (z++[q]))]):=by
 have hc:(st++[au.lst (cZ z)])[st.length]?=some (.lst (cZ z)):=by rw[dR];rfl
 rw[pI hc (by simp[cZ];show _<1000000;omega),fY]
 simp[cZ]
theorem V7{l:List α}{x:α}(h:l[i]?=some x):l.take (i+1)=l.take i++[x]:=by rw[kr,h];rfl
theorem Cw(h:Gr ps S sz lk)(hn:ps.length<=900)(st:List au):D4 [cb ps] st=.ok (.tup (cZ sz)) st:=by
 obtain⟨l1,l2,_⟩:=h.ok
 refine fv (N:=5) (ws:=[cb ps]) (body:=Th) ?_ (by simp[undWs,W.und,JF])
 apply az
 ·(walk_at "evs")
 have hlk:=tX h #[0] (st++[au.lst []])
 refine gD (fun i ρ bh=>∃(o2 o3 o4:Option W),ρ=[some (cb ps),some #[5],o2,o3,o4]/\bh=st++[.lst (cZ (sz.take i))]) (k:=(lk.map jF,none))
  (zZ (st1:=st++[au.lst []]) (by(walk_at "evs"))) ⟨none,none,none,rfl,rfl⟩ (fun _ _ _ _=>trivial) ?_ ?_
 ·rintro i w ρ bh hw ⟨o2,o3,o4,rfl,rfl⟩
  have hip:i<ps.length:=by have:=(ax.mp hw).1;simp at this;omega
  obtain⟨S1,S2,p,k,x,g1,q1,q2,q3,hs,g2⟩:=h.step i hip
  rw[show(lk.map jF,(none:Option (Nat×List W))).1=lk.map jF from rfl,aG,q3]at hw
  cases hw
  obtain⟨lz,ll,ha⟩:=g1.ok
  have hti:(ps.take i).length=i:=by rw[aF];omega
  rw[hti]at ha lz
  have isl:mw #[16] #[5]=true:=d9 (by rw[dR];rfl)
  have ap:=JG (st:=st) (z:=sz.take i) k #[0]
  rw[<- V7 q2]at ap
  obtain⟨b,m⟩:=p
  cases hs with
  |z=>
   rw[show((1:Nat):Int)=1 from rfl]at ap
   refine⟨_,rfl,?_⟩
   apply az
   ·(walk_at "evs")
   apply bD
   ·(walk_at "evs")
   apply bW
   apply bD
   ·(walk_at "evs")
   apply bW
   apply dm
   ·(walk_at "evs")
   ·exact⟨_,_,rfl,_,_,_,rfl,rfl⟩
  |@l a S=>
   rw[show((1+a:Nat):Int)=1+(a:Int) by omega]at ap
   have x1:bv #[5] (oW ((some (i-1),none):Option Nat×Option Nat).fst) #[16]=.ok (.int a) #[16]:=zi (st:=st) [] ha.1
   refine⟨_,rfl,?_⟩
   apply az
   ·(walk_at "evs")
   apply az
   ·apply dh
    ·(walk_at "evs")
    ·(walk_at "evs")
   apply bD
   ·(walk_at "evs")
   apply bW
   apply dm
   ·(walk_at "evs")
   ·exact⟨_,_,rfl,_,_,_,rfl,rfl⟩
  |@r a S=>
   rw[show((1+a:Nat):Int)=1+(a:Int) by omega]at ap
   have x1:bv #[5] (oW ((none,some (i-1)):Option Nat×Option Nat).snd) #[16]=.ok (.int a) #[16]:=zi (st:=st) [] ha.1
   refine⟨_,rfl,?_⟩
   apply az
   ·(walk_at "evs")
   apply bD
   ·(walk_at "evs")
   apply bW
   apply az
   ·apply dh
    ·(walk_at "evs")
    ·(walk_at "evs")
   apply dm
   ·(walk_at "evs")
   ·exact⟨_,_,rfl,_,_,_,rfl,rfl⟩
  |@b c a S=>
   have x1:bv #[5] (oW ((some (i-1-c),some (i-1)):Option Nat×Option Nat).snd) #[16]=.ok (.int c) #[16]:=zi (st:=st) [] ha.1
   have x2:=zi (st:=st) [] ha.2.2.2.1
   rw[show i-c-1=i-1-c by omega]at x2
   have x2:bv #[5] (oW ((some (i-1-c),some (i-1)):Option Nat×Option Nat).fst) #[16]=.ok (.int a) #[16]:=x2
   rw[show((1+c+a:Nat):Int)=1+(a:Int)+(c:Int) by omega]at ap
   refine⟨_,rfl,?_⟩
   apply az
   ·(walk_at "evs")
   apply az
   ·apply dh
    ·(walk_at "evs")
    ·(walk_at "evs")
   apply az
   ·apply dh
    ·(walk_at "evs")
    ·(walk_at "evs")
   apply dm
   ·(walk_at "evs")
   ·exact⟨_,_,rfl,_,_,_,rfl,rfl⟩
 ·rintro ρ bh ⟨o2,o3,o4,rfl,rfl⟩
  have hc:(st++[au.lst (cZ (sz.take (lk.map jF,(none:Option (Nat×List W))).1.length))])[st.length]?=some (.lst (cZ sz)):=by
   rw[dR]
   show some (au.lst (cZ (sz.take (lk.map jF).length)))=_
   rw[bn (by simp;omega)]
  apply bQ
  ·(repeat' (first|with_reducible exact oJ (bY hc)|walk_at "ev1"))
  ·exact⟨_,_,rfl,rfl,_,rfl⟩
end
structure JH(ps:List Pl)(sz:List Nat)(q:Nat)(p:Pl)(L R:Nat):Prop where
 hp:ps[q]?=some p
 hz:sz[q]?=some (1+L+R)
 le:L+R<=q
 b3:p.b<=3
 hL:0<L↔p.b%2=1
 hR:0<R↔2<=p.b
 hr:2<=p.b->1<=q/\sz[q-1]?=some R
theorem JH.lt{ps:List Pl}{sz:List Nat}{p:Pl}{R:Nat}(c:JH ps sz q p L R):q<ps.length:=(ax.mp c.hp).1
theorem j'(a b:List Pl)(h:(a++b).length<=100000)(st:List au):cO (cb a) (cb b) st=.ok (cb (a++b)) st:=by
 unfold cb
 rw[Il (by rw[<- bH,aE];show _<=1000000;omega),<- bH]
theorem ND{z:List Nat}{a:Nat}(h:z[q]?=some a)(st:List au):bv (.tup (cZ z)) (.int q) st=.ok (.int a) st:=nV (fX (by unfold cZ;rw[aG,h];rfl))
theorem xy{a:List Pl}{q:Nat}(h:q<=a.length)(st:List au):wG (cb a) none (some (q:Int)) st=.ok (cb (a.take q)) st:=by
 unfold cb;rw[BL,m_ (by simpa using h),nK]
theorem xz{a:List Pl}{q:Nat}(h:q<=a.length)(st:List au):wG (cb a) (some (q:Int)) none st=.ok (cb (a.drop q)) st:=by
 unfold cb;rw[BL,tI (by simpa using h),nL]
theorem D'{a:List Pl}{i j:Nat}(hj:j<=a.length)(hi:i<=j)(st:List au):wG (cb a) (some (i:Int)) (some (j:Int)) st=.ok (cb ((a.drop i).take (j-i))) st:=by
 unfold cb;rw[BL,Im (by simpa using hj) hi,nK,nL]
section
variable{ps:List Pl}{sz:List Nat}{lk:List #[8]}{p:Pl}{R:Nat}
theorem xA(h:q<ps.length)(st:List au):Au [cb ps,.int q] st=.ok .non st:=by
 have d1:decide ((q:Int)<0)=false:=a7 #[0]
 have d2:decide ((ps.length:Int)<=(q:Int))=false:=a7 #[0]
 have hl:=gR ps st
 refine BM (N:=2) (ws:=[cb ps,.int q]) (body:=Tj) ?_
 apply m9
 ·apply m8
  ·(walk_at "evs")
  ·(walk_at "evs")
 apply dm
 ·(walk_at "evs")
 ·exact⟨_,_,rfl,[],by simp⟩
theorem JI(h:n<=100)(st:List au):y8 [.int n] st=.ok .non st:=by
 have d1:decide ((100:Int)<(n:Int))=false:=a7 #[0]
 refine BM (N:=1) (ws:=[.int n]) (body:=Jn) ?_
 simp only[Jn,nG]
 apply m9
 ·(walk_at "evs")
 apply dm
 ·(walk_at "evs")
 ·exact⟨_,_,rfl,[],by simp⟩
theorem L1(h:Gr ps S sz lk)(hn:ps.length<=900)(c:JH ps sz q p L R)(st:List au):B4 [cb ps,.int q] st=.ok (cb ((ps.drop (q-L-R)).take (1+L+R))) st:=by
 have hq:=c.lt
 have ms:=c.le
 have h1:=xA hq st
 have h2:=Cw h hn st
 have h3:=ND c.hz st
 have h4:=D' (a:=ps) (i:=q-L-R) (j:=q+1) #[0] #[0] st
 rw[show q+1-(q-L-R)=1+L+R by omega,show((q-L-R:Nat):Int)=(q:Int)+1-((1+L+R:Nat):Int) by omega,show((q+1:Nat):Int)=(q:Int)+1 from rfl]at h4
 refine fv (N:=2) (ws:=[cb ps,.int q]) (body:=Ng) ?_ (by simp[undWs,mB])
 apply az
 ·(walk_at "evs")
 apply bQ
 ·apply nC
  ·(walk_at "evs")
  ·(walk_at "evs")
  ·(walk_at "evs")
  ·exact h4
 ·exact⟨_,_,rfl,rfl,[],by simp⟩
theorem JJ(h:Gr ps S sz lk)(hn:ps.length<=900)(c:JH ps sz q p L R)(st:List au):rL [cb ps,.int q] st=.ok (.tup [cb ((ps.drop (q-L-R)).take L),cb ((ps.drop (q-R)).take R)]) st:=by
 have hq:=c.lt
 have ms:=c.le
 have h1:=L1 h hn c st
 have h2:=Cw h hn st
 have h3:=tY c.hp st
 have h4:=Cn c.b3 st
 have hl:wG (cb ((ps.drop (q-L-R)).take (1+L+R))) none (some (-1)) st=.ok (cb ((ps.drop (q-L-R)).take (L+R))) st:=by
  unfold cb
  rw[BL,Io,<- List.map_dropLast,p6,aF,cm,mS,show min (min (1+L+R) (ps.length-(q-L-R))-1) (1+L+R)=L+R by omega]
 have hbl:((ps.drop (q-L-R)).take (L+R)).length=L+R:=by rw[aF,cm];omega
 have h5:=gR ((ps.drop (q-L-R)).take (L+R)) st
 rw[hbl]at h5
 have h6:=xy (a:=(ps.drop (q-L-R)).take (L+R)) (q:=L) #[0] st
 have h7:=xz (a:=(ps.drop (q-L-R)).take (L+R)) (q:=L) #[0] st
 rw[mS,gc #[0]]at h6
 rw[List.drop_take,List.drop_drop,show q-L-R+L=q-R by omega,show L+R-L=R by omega]at h7
 have eL:((L+R:Nat):Int)-(R:Int)=(L:Int):=by omega
 refine fv (N:=5) (ws:=[cb ps,.int q]) (body:=Nh) ?_ (by simp[undWs,W.und,mB])
 apply az
 ·apply bb
  apply nC
  ·(walk_at "evs")
  ·(walk_at "evs")
  ·apply nz
   apply vq
   (walk_at "evs")
  ·exact hl
 apply az
 ·(walk_at "evs")
 refine vY (fun ρ bh=>ρ=[some (cb ps),some (.int q),some (cb ((ps.drop (q-L-R)).take (L+R))),some (.int R),none]/\bh=st) ?_ ?_
 ·by_cases hb:2<=p.b
  ·rw[bG hb]at h4
   obtain⟨hq1,hz1⟩:=c.hr hb
   have h8:=ND hz1 st
   rw[show((q-1:Nat):Int)=(q:Int)-1 by omega]at h8
   apply vt
   ·(walk_at "evs")
   apply dm
   ·(walk_at "evs")
   ·exact⟨_,_,rfl,rfl,rfl⟩
  ·rw[a7 hb]at h4
   have hR0:R=0:=by have:=c.hR;omega
   apply m9
   ·(walk_at "evs")
   apply dm
   ·(walk_at "evs")
   ·exact⟨_,_,rfl,by subst hR0;rfl,rfl⟩
 ·rintro ρ bh ⟨rfl,rfl⟩
  apply az
  ·(walk_at "evs")
  rw[eL]
  apply bQ
  ·apply eR
   ·apply am
    ·apply nC
     ·(walk_at "evs")
     ·(walk_at "evs")
     ·(walk_at "evs")
     ·exact h6
    ·apply am
     ·apply nC
      ·(walk_at "evs")
      ·(walk_at "evs")
      ·(walk_at "evs")
      ·exact h7
     ·(walk_at "evs")
   ·(walk_at "evs")
  ·exact⟨_,_,rfl,rfl,[],by simp⟩
end
noncomputable def qX(l:List Pl):Nat:=if 0<l.length then 1 else 0
theorem JK(a b:List Pl)(m:List Nat)(h:a.length+b.length<=5000)(st:List au):B5 [cb a,cb b,.str m] st=.ok (cb (a++b++[⟨qX a+2*qX b,m⟩])) st:=by
 have h1:=gR a st
 have h2:=gR b st
 have h3:=j' a b (by simp;omega) st
 have h4:=j' (a++b) [⟨qX a+2*qX b,m⟩] (by simp;omega) st
 refine fv (N:=4) (ws:=[cb a,cb b,.str m]) (body:=Ni) ?_ (by simp[undWs,mB])
 apply az
 ·(walk_at "evs")
 refine vY (fun ρ bh=>ρ=[some (cb a),some (cb b),some (.str m),some (.int (qX a:Nat))]/\bh=st) ?_ ?_
 ·by_cases ha:0<a.length
  ·have d:decide ((0:Int)<(a.length:Int))=true:=bG #[0]
   apply vt
   ·(walk_at "evs")
   apply dm
   ·(walk_at "evs")
   ·exact⟨_,_,rfl,by simp only[qX,aK ha];rfl,rfl⟩
  ·have d:decide ((0:Int)<(a.length:Int))=false:=a7 #[0]
   apply m9
   ·(walk_at "evs")
   apply dm
   ·(walk_at "evs")
   ·exact⟨_,_,rfl,by simp only[qX,aU ha];rfl,rfl⟩
 rintro ρ bh ⟨rfl,rfl⟩
 refine vY (fun ρ st''=>ρ=[some (cb a),some (cb b),some (.str m),some (.int (qX a+2*qX b:Nat))]/\st''=bh) ?_ ?_
 ·by_cases hb:0<b.length
  ·have d:decide ((0:Int)<(b.length:Int))=true:=bG #[0]
   apply vt
   ·(walk_at "evs")
   apply dm
   ·(walk_at "evs")
   ·exact⟨_,_,rfl,by simp only[qX,aK hb];rfl,rfl⟩
  ·have d:decide ((0:Int)<(b.length:Int))=false:=a7 #[0]
   apply m9
   ·(walk_at "evs")
   apply dm
   ·(walk_at "evs")
   ·exact⟨_,_,rfl,by simp only[qX,aU hb];rfl,rfl⟩
 rintro ρ st'' ⟨rfl,rfl⟩
 have h5:cO (cb (a++b)) (.tup [.tup [.int (qX a+2*qX b:Nat),.str m]]) st''=.ok (cb (a++b++[⟨qX a+2*qX b,m⟩])) st'':=h4
 apply bQ
 ·(walk_at "evs")
 ·exact⟨_,_,rfl,rfl,[],by simp⟩
noncomputable def Ea(ps:List Pl)(q L R:Nat):List Pl:=(ps.drop (q-L-R)).take L
noncomputable def Eb(ps:List Pl)(q R:Nat):List Pl:=(ps.drop (q-R)).take R
def Q7(ps:List Pl)(q L R:Nat)(m:List Nat)(sd:Bool)(oth:List Pl):List Pl:=
 let l:=if sd then oth else Ea ps q L R
 let r:=if sd then Eb ps q R else oth
 ps.take (q-L-R)++(l++r++[⟨qX l+2*qX r,m⟩])++ps.drop (q+1)
noncomputable def vz(sd:Bool):W:=.str (if sd then[108,101,102,116]else[114,105,103,104,116])
section
variable{ps oth:List Pl}{sz:List Nat}{lk:List #[8]}{p:Pl}{R:Nat}
theorem JH.l0(c:JH ps sz q p L R):(Ea ps q L R).length=L:=by have:=c.lt;have:=c.le;unfold Ea;rw[aF,cm];omega
theorem JH.l1(c:JH ps sz q p L R):(Eb ps q R).length=R:=by have:=c.lt;have:=c.le;unfold Eb;rw[aF,cm];omega
theorem L3(h:Gr ps S sz lk)(hn:ps.length<=900)(ho:oth.length<=900)(c:JH ps sz q p L R)(sd:Bool)(st:List au){P:RS->Prop}
  (he:∀o4 o5 o6 o7:Option W,k_ P ((aM (dq (b8 1 y8 (ah (bK dH (ah (ag 8) aD)) aD))) (cS (ag 8))) [some (cb ps),some (.int q),some (vz sd),some (cb oth),o4,o5,o6,o7,some (cb (Q7 ps q L R p.m sd oth))] st)) :
  k_ P (Jo ([cb ps,.int q,vz sd,cb oth].map some++List.replicate (9-4) none) st):=by
 have hq:=c.lt
 have ms:=c.le
 have h0:=c.l0
 have h1:=c.l1
 have a1:=JJ h hn c st
 change _=L2.R.ok (W.tup [cb (Ea ps q L R),cb (Eb ps q R)]) st at a1
 have b0:bv (.tup [cb (Ea ps q L R),cb (Eb ps q R)]) (.int 0) st=.ok (cb (Ea ps q L R)) st:=rfl
 have b1:bv (.tup [cb (Ea ps q L R),cb (Eb ps q R)]) (.int 1) st=.ok (cb (Eb ps q R)) st:=rfl
 have n0:=gR (Ea ps q L R) st
 have n1:=gR (Eb ps q R) st
 rw[h0]at n0
 rw[h1]at n1
 have i1:=tY c.hp st
 have i2:=D6 p st
 have s1:=xy (a:=ps) (q:=q-L-R) #[0] st
 rw[show((q-L-R:Nat):Int)=(q:Int)-(L:Int)-(R:Int) by omega]at s1
 have s2:=xz (a:=ps) (q:=q+1) #[0] st
 rw[show((q+1:Nat):Int)=(q:Int)+1 from rfl]at s2
 cases sd with
 |true=>
  have q1:kz (vz true) (.str [108,101,102,116]) st=.ok (.bl true) st:=rfl
  have q2:kz (vz true) (.str [114,105,103,104,116]) st=.ok (.bl false) st:=rfl
  have t1:=JK oth (Eb ps q R) p.m #[0] st
  have t2:=j' (ps.take (q-L-R)) (oth++Eb ps q R++[⟨qX oth+2*qX (Eb ps q R),p.m⟩]) (by simp;omega) st
  have t3:=j' (ps.take (q-L-R)++(oth++Eb ps q R++[⟨qX oth+2*qX (Eb ps q R),p.m⟩])) (ps.drop (q+1)) (by simp;omega) st
  apply az
  ·(walk_at "evs")
  apply az
  ·apply bb
   apply tu
   ·(walk_at "evs")
   ·(walk_at "evs")
  apply az
  ·apply bb
   apply tw
   ·(walk_at "evs")
   ·(walk_at "evs")
  apply az
  ·(walk_at "evs")
  apply az
  ·(repeat' (first|with_reducible exact s1|with_reducible exact s2|walk_at "ev1"))
  exact he _ _ _ _
 |false=>
  have q1:kz (vz false) (.str [108,101,102,116]) st=.ok (.bl false) st:=rfl
  have q2:kz (vz false) (.str [114,105,103,104,116]) st=.ok (.bl true) st:=rfl
  have t1:=JK (Ea ps q L R) oth p.m #[0] st
  have t2:=j' (ps.take (q-L-R)) (Ea ps q L R++oth++[⟨qX (Ea ps q L R)+2*qX oth,p.m⟩]) (by simp;omega) st
  have t3:=j' (ps.take (q-L-R)++(Ea ps q L R++oth++[⟨qX (Ea ps q L R)+2*qX oth,p.m⟩])) (ps.drop (q+1)) (by simp;omega) st
  apply az
  ·(walk_at "evs")
  apply az
  ·apply bb
   apply tw
   ·(walk_at "evs")
   ·(walk_at "evs")
  apply az
  ·apply bb
   apply tu
   ·(walk_at "evs")
   ·(walk_at "evs")
  apply az
  ·(walk_at "evs")
  apply az
  ·(repeat' (first|with_reducible exact s1|with_reducible exact s2|walk_at "ev1"))
  exact he _ _ _ _
theorem QB(h:Gr ps S sz lk)(hn:ps.length<=900)(ho:oth.length<=900)(c:JH ps sz q p L R)(sd:Bool)(st:List au)(hs:(Q7 ps q L R p.m sd oth).length<=100):B6 [cb ps,.int q,vz sd,cb oth] st=.ok (cb (Q7 ps q L R p.m sd oth)) st:=by
 refine fv (N:=9) (ws:=[cb ps,.int q,vz sd,cb oth]) (body:=Jo) (L3 h hn ho c sd st fun o4 o5 o6 o7=>?_) (by simp[undWs,mB])
 have n:=gR (Q7 ps q L R p.m sd oth) st
 have z:=JI hs st
 apply az
 ·(walk_at "evs")
 apply bQ
 ·(walk_at "evs")
 ·exact⟨_,_,rfl,rfl,[],by simp⟩
end
theorem L5{l:List α}{x d:α}(h:l[i]?=some x):l.getD i d=x:=by rw[aI,h];rfl
section
variable{ps:List Pl}{sz:List Nat}{lk:List #[8]}{M:Mc}
noncomputable def zj(R:List Nat)(q:Nat):W:=.int ((R.getD q 0:Nat):Int)
theorem Fi(h:Gr ps S sz lk)(hl:ps.length<=900)(hM:ng M n)(hn:1<=n)(st:List au) :
  ∃x,xq [M.w,cb ps] st=.ok (.loc (st.length+1)) (st++x)/\x[1]?=some (.lst (nW (gy M ps lk))):=by
 suffices hh:k_ (A9 fun w bh=>∃j x,w=.loc (st.length+j)/\bh=st++x/\j=1/\x[1]?=some (.lst (nW (gy M ps lk)))) (Nr ([M.w,cb ps].map some++List.replicate (8-2) none) st) by
  obtain⟨j,x,⟨rfl,hx⟩,e⟩:=vW hh
  exact⟨x,e,hx⟩
 obtain⟨l1,l2,_⟩:=h.ok
 obtain⟨rl,rlt⟩:=n5 (M:=M) h hM hn
 have rat:=fun{i:Nat} {p:Pl} {x:Option Nat×Option Nat}=>JC (M:=M) (i:=i) (p:=p) (x:=x) h hM hn
 generalize gy M ps lk=R at *
 apply az
 ·exact bb (qj aQ (ao rfl))
 apply az
 ·exact bb (qj aQ (ao rfl))
 have l3:(st++[au.lst []]).length=st.length+1:=by simp
 rw[l3]
 refine gD (fun i ρ s=>∃(S1:List Nat) (o4 o5 o6 o7:Option W),ρ=[some M.w,some (cb ps),some #[5],some (.loc (st.length+1)),o4,o5,o6,o7]/\s=st++[.lst ((jW S1 i).map (zj R)).reverse,.lst (nW (R.take i))]/\Gr (ps.take i) S1 (sz.take i) (lk.take i)/\i<=ps.length)
  (k:=(ps.map Pl.w,none)) (st1:=(st++[au.lst []])++[au.lst []]) (zZ kv) ⟨[],none,none,none,none,rfl,by rw[al];rfl,.nil,bZ _⟩ (fun _ _ _ _=>trivial) ?_ ?_
 ·rintro i w ρ s hw ⟨S1,o4,o5,o6,o7,rfl,rfl,hg,hi⟩
  have hip:i<ps.length:=by have:=(ax.mp hw).1;simpa using this
  obtain⟨S1',S2,p,k,x,g1,q1,q2,q3,hs,g2⟩:=h.step i hip
  have hw:w=p.w:=by
   simp only at hw
   rw[aG,q1]at hw
   exact(bg hw).symm
  subst hw
  refine⟨_,rfl,?_⟩
  have hS:=hg.det g1 rfl
  subst hS
  obtain⟨lz,ll,ha⟩:=g1.ok
  have hti:(ps.take i).length=i:=by rw[aF];omega
  rw[hti]at ha lz ll
  have hSl:=ha.le
  have hR:=rat q1 q3
  have hlo:Jy R.length x:=⟨fun j e=>by have:=(h.lk q3).1 j e;omega,fun j e=>by have:=(h.lk q3).2 j e;omega⟩
  obtain⟨t,r,f1,f2,f3,_⟩:=D_ (m:=p.m) hM hn rlt hlo
  have hRt:R.take (i+1)=R.take i++[v3 M R p.m x]:=by rw[kr,hR];rfl
  have pop:∀(A:List W) (B:List Nat) (q:Nat),q9 #[5] [] (st++[.lst ((q::B).map (zj R)).reverse,.lst A])=.ok (zj R q) (st++[.lst (B.map (zj R)).reverse,.lst A]):=fun A B q=>by
   have hc:(st++[au.lst ((q::B).map (zj R)).reverse,.lst A])[st.length]?=some (.lst ((B.map (zj R)).reverse++[zj R q])):=by rw[dR];simp
   rw[BK hc,fY];rfl
  have isl0:∀(A:List W) (B:List W),mw (st++[.lst A,.lst B]) #[5]=true:=fun A B=>d9 (by rw[dR];rfl)
  have T1:∀(k:Bool) (ρ:cW) (s:List au),decide ((2:Int)<=(p.b:Int))=k->ρ[4]?=some (some (.int p.b))->eP (e2 OV (ag 4) (eI 2)) ρ s=.ok k s:=fun k ρ s e h4=>aY (bw (kB h4) bJ (BJ e))
  have T2:∀(k:Bool) (ρ:cW) (s:List au),(((p.b:Int)%2)==1)=k->ρ[4]?=some (some (.int p.b))->eP (e2 kz (e2 iY (ag 4) (eI 2)) (eI 1)) ρ s=.ok k s:=fun k ρ s e h4=>aY (bw (bw (kB h4) bJ (jn #[3])) bJ (gk e))
  have put:∀(u v:W) (B:List Nat),u=.int (AB R x.1:Nat)->v=.int (AB R x.2:Nat)->B.length<1001->i::B=jW S2 (i+1) ->
    k_ (KD (fun ρ s=>∃(S1:List Nat) (o4 o5 o6 o7:Option W),ρ=[some M.w,some (cb ps),some #[5],some (.loc (st.length+1)),o4,o5,o6,o7]/\s=st++[.lst ((jW S1 (i+1)).map (zj R)).reverse,.lst (nW (R.take (i+1)))]/\Gr (ps.take (i+1)) S1 (sz.take (i+1)) (lk.take (i+1))/\i+1<=ps.length))
     (aM (dq (oG cv (ag 2) (ah (e2 bv (e2 bv (e2 bv (e2 bv (ag 0) (eI 2)) (b8 2 zb (ah (e2 bv (ag 0) (eI 0)) (ah (ag 5) aD)))) (ag 6)) (ag 7)) aD))) (dq (oG cv (ag 3) (ah (e2 bv (ag 2) (sf (eI 1))) aD)))
      [some M.w,some (cb ps),some #[5],some (.loc (st.length+1)),some (.int p.b),some (.str p.m),some u,some v] (st++[.lst (B.map (zj R)).reverse,.lst (nW (R.take i))])):=by
   rintro u v B rfl rfl hB hT
   have hc:(st++[au.lst (B.map (zj R)).reverse,.lst (nW (R.take i))])[st.length]?=some (.lst (B.map (zj R)).reverse):=by rw[dR];rfl
   apply az
   ·exact dX (jV kv (d9 hc) (am (bw (bw (bw kx (bV (am kx kn) (D9 M.nm p.m _) rfl) (JA f1 _)) kv (Jw f2)) kv (Jv f3)) aQ) (pI hc (by rw[gJ,aE];show _<1000000;omega)))
   rw[fY]
   have hc1:(st++[au.lst (B.map (zj R)).reverse,.lst (nW (R.take i))].set 0 (.lst ((B.map (zj R)).reverse++[W.int (v3 M R p.m x:Nat)])))[st.length]?=some (.lst ((B.map (zj R)).reverse++[W.int (v3 M R p.m x:Nat)])):=by rw[dR];rfl
   have hc2:(st++[au.lst (B.map (zj R)).reverse,.lst (nW (R.take i))].set 0 (.lst ((B.map (zj R)).reverse++[W.int (v3 M R p.m x:Nat)])))[st.length+1]?=some (.lst (nW (R.take i))):=by rw[iD];rfl
   have last:uw ((B.map (zj R)).reverse++[W.int (v3 M R p.m x:Nat)]) (-1)=some (.int (v3 M R p.m x:Nat)):=w4 (q:=0) (by rw[gK];rfl)
   refine dm (dX (jV kv (d9 hc2) (am (bw kv (vq bJ) (jO (bY hc1) last)) aQ) (pI hc2 (by simp[nW];show _<1000000;omega)))) ?_
   refine⟨_,_,rfl,S2,_,_,_,_,rfl,?_,g2,by omega⟩
   rw[nT,<- hT,hRt]
   have:zj R i=.int (v3 M R p.m x:Nat):=by unfold zj;rw[L5 hR]
   simp[nW,this]
  apply az
  ·exact bb bJ
  apply az
  ·exact bb bJ
  obtain⟨b,m⟩:=p
  cases hs with
  |@z=>
   apply bD
   ·exact T1 false _ _ rfl rfl
   apply bW
   apply bD
   ·exact T2 false _ _ rfl rfl
   apply bW
   exact put _ _ (jW S1 i) rfl rfl (by rw[i8];omega) rfl
  |@l a S=>
   apply bD
   ·exact T1 false _ _ rfl rfl
   apply bW
   apply az
   ·exact dh (T2 true _ _ rfl rfl) (bb (jV kv (isl0 _ _) aQ (pop _ (jW S (i-a)) (i-1))))
   exact put _ _ (jW S (i-a)) rfl rfl (by rw[i8];simp at hSl;omega) (by simp only[jW];congr 1;congr 1;omega)
  |@r a S=>
   apply az
   ·exact dh (T1 true _ _ rfl rfl) (bb (jV kv (isl0 _ _) aQ (pop _ (jW S (i-a)) (i-1))))
   apply bD
   ·exact T2 false _ _ (by show((2:Int)%2==1)=false;decide) rfl
   apply bW
   exact put _ _ (jW S (i-a)) rfl rfl (by rw[i8];simp at hSl;omega) (by simp only[jW];congr 1;congr 1;omega)
  |@b c a S=>
   apply az
   ·exact dh (T1 true _ _ rfl rfl) (bb (jV kv (isl0 _ _) aQ (pop _ (jW (a::S) (i-c)) (i-1))))
   apply az
   ·exact dh (T2 true _ _ (by show((3:Int)%2==1)=true;decide) rfl) (bb (jV kv (isl0 _ _) aQ (pop _ (jW S (i-c-a)) (i-c-1))))
   exact put _ _ (jW S (i-c-a)) (by show zj R _=W.int ((R.getD (i-1-c) 0:Nat):Int);rw[show i-1-c=i-c-1 by omega];rfl) rfl (by rw[i8];simp at hSl;omega) (by simp only[jW];congr 1;congr 1;omega)
 ·rintro ρ s ⟨S1,o4,o5,o6,o7,rfl,rfl,hg,hi⟩
  apply bQ
  ·exact kB rfl
  ·refine⟨_,_,rfl,1,_,rfl,rfl,rfl,?_⟩
   rw[show(ps.map Pl.w,(none:Option (Nat×List W))).fst.length=R.length by simp[rl],cK]
   rfl
theorem JL(h:Gr ps S sz lk)(hl:ps.length<=900)(hM:ng M n)(hn:1<=n)(st:List au):Cg [M.w,cb ps] st=.ok (.bl (L0 M ps lk)) st:=by
 refine fv (N:=2) (ws:=[M.w,cb ps]) (body:=Nt) ?_ rfl
 have ll:=gR ps st
 have tl:=Qw (M:=M) h hM hn
 unfold L0
 by_cases z:0<ps.length
 ·refine bD (aY (bw (cr kn ll) bJ (gk (by rw[bq];omega)))) ?_
  refine bW ?_
  rw[aK z]at tl ⊢
  obtain⟨x,e,hx⟩:=Fi h hl hM hn st
  have hx2:(st++x)[st.length+1]?=some (.lst (nW (gy M ps lk))):=by rw[iD];exact hx
  refine bQ (bw kx (bw (bV (am kv kn) e rfl) (vq bJ) (jO (bY hx2) (w4 (q:=0) (x:=.int (Cv M ps lk:Nat)) ?_))) (JD hM tl _)) ⟨_,_,rfl,rfl,_,rfl⟩
  have rl:=(n5 (M:=M) h hM hn).1
  unfold nW
  rw[fU (by rw[aE];omega),aE,aG,rl,show ps.length-1-0=ps.length-1 by omega,aj #[0]]
  show some (W.int _)=some (W.int _)
  unfold Cv
  rw[aI,aj #[0]];rfl
 ·rw[aU z]
  refine eT (aY (bw (cr kn ll) bJ (gk (by rw[dv];omega)))) ?_
  exact eJ (bw kx bJ (JD (k:=0) hM hn st)) ⟨_,_,rfl,rfl,[],by simp⟩
end
theorem Ec(nm:List Nat)(n i7 dl:Nat)(ds:List Int)(st:List au)(Uh:nm.length<=6)(hn:1<=n)(WD:n<=9)(Rb:1<=i7)(WH:i7<=n)(hd:st[dl]?=some (.lst (Az ds)))(NJ:n+2^nm.length*(n*n)<=ds.length) :
  ∃M:Mc,M.nm=nm/\ng M n/\Cf [.str nm,.int n,.int i7,.loc dl] st=.ok M.w st:=by
 suffices hh:k_ (A9 fun w bh=>(∃x,bh=st++x)/\undWs st.length [w]=true/\∃M:Mc,w=M.w/\M.nm=nm/\ng M n) (Np ([W.str nm,.int n,.int i7,.loc dl].map some++List.replicate (10-4) none) st) by
  obtain⟨w,⟨M,rfl,h1,h2⟩,e⟩:=tH hh
  exact⟨M,h1,h2,e⟩
 have gC:∀s:List au,dH [.str nm] s=.ok (.int nm.length) s:=fun s=>zY (by show _<=1000000;omega)
 have p2:2^nm.length<=64:=Nat.pow_le_pow_right #[0] Uh
 obtain⟨N,hN⟩:∃N,N=2^nm.length:=⟨_,rfl⟩
 have sh:∀s:List au,Bu (.int 1) (.int nm.length) s=.ok (.int N) s:=fun s=>by rw[hN];exact Hl #[0]
 rw[<- hN]at p2 NJ
 have hdn:n<=ds.length:=by omega
 obtain⟨gd,hgl,_,eg⟩:=Js (cap:=[none,some 3]) (ρ:=[some (.str nm),iO n,iO i7,lO dl,none,none,none,none,none,none]) (st:=st) (fs:=ah (ag 1) aD) (n:=n)
  (el:=e2 kz (e2 iY (e2 bv (ag 1) (ag 0)) (eI 2)) (eI 1)) W.bl (fun _ _=>True) kn #[0] fun q hq=>by
   obtain⟨d,hdd⟩:∃d,ds[q]?=some d:=⟨_,aj #[0]⟩
   exact⟨_,trivial,bw (bw (bw kv kv (vZ hd hdd)) bJ (jn #[3])) bJ (gk rfl)⟩
 apply az
 ·exact bb eg
 generalize hs0:st++[au.lst (gd.map W.bl)]=s0
 have hst0:st <+: s0:=by rw[<- hs0];exact a_ _ _
 apply az
 ·(walk_at "evs")
 apply az
 ·(walk_at "evs")
 refine gD (fun i ρ s=>∃(tb:List (List (List Nat))) (a:Nat) (o7 o8 o9:Option W),ρ=[some (.str nm),iO n,iO i7,lO dl,some (.tup (gd.map W.bl)),lO s0.length,iO a,o7,o8,o9]/\s0 <+: s/\s[s0.length]?=some (.lst (tb.map yn))/\tb.length=i/\(∀t∈tb,V6 n t)/\a+(N-i)*(n*n)<=ds.length)
  (j9 (q:=(N:Int)) (st1:=s0++[au.lst []]) (am (bw bJ (cr kn (gC _)) (sh _)) aQ) #[0])
  ⟨[],n,none,none,none,rfl,a_ _ _,dG,rfl,by simp,by simpa using NJ⟩ (fun _ _ _ _=>trivial) ?_ ?_
 ·rintro i w ρ s hw ⟨tb,a,o7,o8,o9,rfl,hp,hc,hl,ht,hal⟩
  obtain⟨hi,rfl⟩:=kL hw
  rw[cf]at hi
  refine⟨_,rfl,?_⟩
  rw[show N-i=(N-(i+1))+1 by omega,Nat.succ_mul]at hal
  apply az
  ·(walk_at "evs")
  refine gD (fun j ρ z=>∃(AZ:List (List Nat)) (a:Nat) (o9:Option W),ρ=[some (.str nm),iO n,iO i7,lO dl,some (.tup (gd.map W.bl)),lO s0.length,iO a,iO (0+(i:Int)),lO s.length,o9]/\s <+: z/\z[s.length]?=some (.lst (AZ.map gB))/\AZ.length=j/\(∀r∈AZ,r.length=n/\∀k∈r,k<n)/\a+((N-(i+1))*(n*n)+(n-j)*n)<=ds.length)
   (j9 (q:=(n:Int)) (st1:=s++[au.lst []]) (by(walk_at "evs")) #[0]) ⟨[],a,_,rfl,a_ _ _,dG,rfl,by simp,by simpa using hal⟩ (fun _ _ _ _=>trivial) ?_ ?_
  ·rintro j w ρ z hw ⟨AZ,a,o9,rfl,hz,hcz,hrl,hr,hal⟩
   obtain⟨hj,rfl⟩:=kL hw
   rw[cf]at hj
   refine⟨_,rfl,?_⟩
   rw[show n-j=(n-(j+1))+1 by omega,Nat.succ_mul]at hal
   have pt:(0:Int)<(i7:Int):=by omega
   obtain⟨r,hrn,hrb,er⟩:=Js (cap:=[none,some 2,some 3,some 6]) (ρ:=[some (.str nm),iO n,iO i7,lO dl,some (.tup (gd.map W.bl)),lO s0.length,iO a,iO (0+(i:Int)),lO s.length,iO (0+(j:Int))]) (st:=z) (fs:=ah (ag 1) aD) (n:=n)
    (el:=e2 iY (e2 bv (ag 2) (e2 cO (ag 3) (ag 0))) (ag 1)) (fun k:Nat=>W.int (k:Nat)) (fun _ k=>k<n) kn #[0] fun q hq=>by
     obtain⟨d,hdd⟩:∃d,ds[a+q]?=some d:=⟨_,aj #[0]⟩
     obtain⟨k,hk,ek⟩:=hX (q:=d) (n:=i7) #[0]
     refine⟨k,by omega,?_⟩
     rw[<- ek]
     exact bw (bw kv (bw kv kv dN) (vZ (pre_get (hst0.trans (hp.trans hz)) hd) hdd)) kv (jn pt)
   have ap:=qA (y:=gB r) (pre_get (s:=z++[.lst (r.map fun k:Nat=>W.int k)]) (a_ _ _) hcz) (by rw[aE];omega)
   apply az
   ·exact dX (jV kv (d9 hcz) (am er aQ) ap)
   apply dm
   ·exact bb (bw kv kv dN)
   ·refine⟨_,_,rfl,AZ++[r],a+n,_,rfl,tZ (Ay hz) (aA _),?_,by simp[hrl],?_,by omega⟩
    ·rw[fw (pre_get (a_ _ _) hcz)];simp
    ·intro x hx
     rcases aV.mp hx with y|y
     ·exact hr x y
     ·simp at y;subst y
      refine⟨hrn,fun k hk=>?_⟩
      obtain⟨q,hq⟩:=List.getElem?_of_mem hk
      exact hrb q k hq
  ·rintro ρ z ⟨AZ,a,o9,rfl,hz,hcz,hrl,hr,hal⟩
   have hrl:AZ.length=n:=by rw[hrl];simp[fL]
   have hcp:=pre_get hz hc
   have ap:=qA (y:=yn AZ) hcp (by rw[aE,hl];omega)
   apply dm
   ·exact dX (jV kv (d9 hcp) (am (cr kn (oJ (bY hcz))) aQ) ap)
   ·refine⟨_,_,rfl,tb++[AZ],a,_,_,_,rfl,tZ (hp.trans hz) (aA _),?_,by simp[hl],?_,by omega⟩
    ·rw[fw hcp];simp
    ·intro x hx
     rcases aV.mp hx with y|y
     ·exact ht x y
     ·simp at y;subst y
      exact⟨hrl,hr⟩
 ·rintro ρ s ⟨tb,a,o7,o8,o9,rfl,hp,hc,hl,ht,hal⟩
  have hl:tb.length=N:=by rw[hl];simp[fL]
  obtain⟨x,rfl⟩:=hst0.trans hp
  apply bQ
  ·exact eR (am kv (am kv (am (cr kn (oJ (bY hc))) aQ))) (ao rfl)
  ·exact⟨_,_,rfl,⟨_,rfl⟩,by simp only[undWs,dM];exact Ju ⟨nm,gd,tb⟩ _,⟨nm,gd,tb⟩,rfl,rfl,hgl,by rw[hl,hN],ht⟩
inductive MT where
 |nil
 |nd (l r:MT) (m:List Nat)
namespace MT
noncomputable def one:MT->Nat
 |nil=>0
 |nd _ _ _=>1
noncomputable def size:MT->Nat
 |nil=>0
 |nd l r _=>l.size+r.size+1
noncomputable def po:MT->List Pl
 |nil=>[]
 |nd l r m=>l.po++r.po++[⟨l.one+2*r.one,m⟩]
noncomputable def tp:MT->Nat->Option Nat
 |nil,_=>none
 |nd l r _,o=>some (o+l.size+r.size)
noncomputable def lkT:MT->Nat->List #[8]
 |nil,_=>[]
 |nd l r _,o=>l.lkT o++r.lkT (o+l.size)++[(l.tp o,r.tp (o+l.size))]
noncomputable def szT:MT->List Nat
 |nil=>[]
 |nd l r _=>l.szT++r.szT++[l.size+r.size+1]
theorem po_len:∀t:MT,t.po.length=t.size
 |nil=>rfl
 |nd l r m=>by unfold po size;rw[ai,ai,po_len l,po_len r];rfl
theorem sz_len:∀t:MT,t.szT.length=t.size
 |nil=>rfl
 |nd l r m=>by unfold szT size;rw[ai,ai,sz_len l,sz_len r];rfl
theorem lk_len:∀(t:MT) (o:Nat),(t.lkT o).length=t.size
 |nil,_=>rfl
 |nd l r m,o=>by unfold lkT size;rw[ai,ai,lk_len l,lk_len r];rfl
theorem size_nd(l r:MT)(m:List Nat):(nd l r m).size=l.size+r.size+1:=rfl
theorem tp_nd(l r:MT)(m:List Nat)(o:Nat):(nd l r m).tp o=some (o+(nd l r m).size-1):=by
 show some (o+l.size+r.size)=_
 rw[size_nd];congr 1;omega
theorem Vx(l r:MT)(m:List Nat)(o k:Nat):(nd l r m).tp o=some (o+(nd l r m).size+k-1-k):=by
 rw[tp_nd,size_nd];congr 1;omega
def cs(S:List Nat):MT->List Nat
 |nil=>S
 |nd l r m=>(nd l r m).size::S
theorem gr:∀(t:MT) {ps:List Pl} {S sz:List Nat} {lk:List #[8]},Gr ps S sz lk->Gr (ps++t.po) (t.cs S) (sz++t.szT) (lk++t.lkT ps.length)
 |nil,ps,S,sz,lk,h=>by
  show Gr (ps++[]) S (sz++[]) (lk++[])
  rw[a8,a8,a8];exact h
 |nd l r m,ps,S,sz,lk,h=>by
  have h1:=gr l h
  have h2:=gr r h1
  rw[ai,po_len]at h2
  unfold po szT lkT
  rw[<- al,<- al,<- al,<- al,<- al,<- al]
  refine .snoc h2 ?_
  rw[ai,ai,po_len,po_len]
  cases l with
  |nil=>
   cases r with
   |nil=>exact .z
   |nd r1 r2 rm=>
    have:=St.r (n:=ps.length+(nil:MT).size+(nd r1 r2 rm).size) (a:=(nd r1 r2 rm).size) (S:=S)
    have e:(none,(nd r1 r2 rm).tp (ps.length+(nil:MT).size))=((none:Option Nat),some (ps.length+(nil:MT).size+(nd r1 r2 rm).size-1)):=by rw[tp_nd]
    show St _ _ 2 _ _ (none,_)
    rw[e,show(nil:MT).size+(nd r1 r2 rm).size+1=1+(nd r1 r2 rm).size by simp only[size];omega]
    show St _ _ 2 ((nil.size+(nd r1 r2 rm).size+1)::S) _ _
    rw[show(nil:MT).size+(nd r1 r2 rm).size+1=1+(nd r1 r2 rm).size by simp only[size];omega]
    exact this
  |nd l1 l2 lm=>
   cases r with
   |nil=>
    have:=St.l (n:=ps.length+(nd l1 l2 lm).size+(nil:MT).size) (a:=(nd l1 l2 lm).size) (S:=S)
    have e:((nd l1 l2 lm).tp ps.length,(none:Option Nat))=(some (ps.length+(nd l1 l2 lm).size+(nil:MT).size-1),none):=by rw[tp_nd];rfl
    show St _ _ 1 ((_+1)::S) _ (_,none)
    rw[e,show(nd l1 l2 lm).size+(nil:MT).size+1=1+(nd l1 l2 lm).size by simp only[size];omega]
    exact this
   |nd r1 r2 rm=>
    have:=St.b (n:=ps.length+(nd l1 l2 lm).size+(nd r1 r2 rm).size) (c:=(nd r1 r2 rm).size) (a:=(nd l1 l2 lm).size) (S:=S)
    have e:((nd l1 l2 lm).tp ps.length,(nd r1 r2 rm).tp (ps.length+(nd l1 l2 lm).size))=(some (ps.length+(nd l1 l2 lm).size+(nd r1 r2 rm).size-1-(nd r1 r2 rm).size),some (ps.length+(nd l1 l2 lm).size+(nd r1 r2 rm).size-1)):=by rw[tp_nd r1,Vx l1 l2 lm _ (nd r1 r2 rm).size]
    show St _ _ 3 ((_+1)::S) _ _
    rw[e,show(nd l1 l2 lm).size+(nd r1 r2 rm).size+1=1+(nd r1 r2 rm).size+(nd l1 l2 lm).size by omega]
    exact this
theorem gr0(t:MT):Gr t.po (t.cs []) t.szT (t.lkT 0):=by
 have:=gr t Gr.nil
 simpa using this
def Bl:MT->Nat->Nat->Prop
 |nil,_,_=>False
 |nd l r _,q,j=>(q<l.size/\j<l.size/\l.Bl q j)\/(l.size<=q/\q<l.size+r.size/\l.size<=j/\j<l.size+r.size/\r.Bl (q-l.size) (j-l.size))\/(q=l.size+r.size/\j<l.size+r.size)
end MT
end P
namespace P
open PySem L2
def sv(M:Mc)(m:List Nat)(a b:Nat):Nat:=((M.tb.getD (lN m M.nm) []).getD a []).getD b 0
namespace MT
def tR(M:Mc):MT->Nat
 |nil=>0
 |nd l r m=>sv M m (l.tR M) (r.tR M)
def rT(M:Mc):MT->List Nat
 |nil=>[]
 |nd l r m=>l.rT M++r.rT M++[sv M m (l.tR M) (r.tR M)]
theorem rT_len(M:Mc):∀t:MT,(t.rT M).length=t.size
 |nil=>rfl
 |nd l r m=>by unfold rT size;rw[ai,ai,rT_len M l,rT_len M r];rfl
theorem Ed(M:Mc)(u w:List Nat):∀t:MT,AB (u++t.rT M++w) (t.tp u.length)=t.tR M
 |nil=>rfl
 |nd l r m=>by
  show(u++(l.rT M++r.rT M++[_])++w).getD (u.length+l.size+r.size) 0=_
  rw[al,al,al,aI,aS #[0],aS (by rw[rT_len];omega),aS (by rw[rT_len,rT_len];omega),rT_len,rT_len,show u.length+l.size+r.size-u.length-l.size-r.size=0 by omega]
  rfl
theorem stp_tp(M:Mc)(u w:List Nat)(l r:MT)(m:List Nat):v3 M (u++(l.rT M++r.rT M)++w) m (l.tp u.length,r.tp (u.length+l.size))=sv M m (l.tR M) (r.tR M):=by
 unfold v3 sv
 have e1:=Ed M u (r.rT M++w) l
 have e2:=Ed M (u++l.rT M) w r
 rw[ai,rT_len]at e2
 simp only[al]at e1 e2 ⊢
 rw[e1,e2]
theorem AD(M:Mc):∀(a b:List Pl) (la lb:List #[8]) (r:List Nat),a.length=la.length->Gw M (a++b) (la++lb) r=Gw M b lb (Gw M a la r)
 |[],b,[],lb,r,_=>rfl
 |p::a,b,x::la,lb,r,h=>by
  show Gw M (a++b) (la++lb) _=_
  rw[AD M a b la lb _ (by simpa using h)];rfl
theorem Ee(M:Mc):∀(t:MT) (r:List Nat),Gw M t.po (t.lkT r.length) r=r++t.rT M
 |nil,r=>(a8 r).symm
 |nd l r m,u=>by
  show Gw M (l.po++r.po++[_]) (l.lkT u.length++r.lkT (u.length+l.size)++[(l.tp u.length,r.tp (u.length+l.size))]) u=_
  rw[AD M _ _ _ _ _ (by rw[ai,ai,po_len,po_len,lk_len,lk_len]),AD M _ _ _ _ _ (by rw[po_len,lk_len]),Ee M l u]
  have e:=Ee M r (u++l.rT M)
  rw[ai,rT_len]at e
  rw[e]
  show(u++l.rT M++r.rT M)++[v3 M (u++l.rT M++r.rT M) m _]=_
  have e2:=stp_tp M u [] l r m
  rw[a8,<- al]at e2
  rw[e2]
  show _=u++(l.rT M++r.rT M++[_])
  rw[al,al,al]
theorem rooms_po(M:Mc)(t:MT):gy M t.po (t.lkT 0)=t.rT M:=Ee M t []
theorem rT_top(M:Mc)(t:MT)(h:0<t.size):(t.rT M).getD (t.size-1) 0=t.tR M:=by
 have:=Ed M [] [] t
 cases t with
 |nil=>exact absurd h (by decide)
 |nd l r m=>
  rw[eK,a8,tp_nd]at this
  rw[<- this];show _=List.getD _ _ 0
  congr 1
  show _=0+_-1
  omega
end MT
inductive Fm where
 |lf (r:MT) (m:List Nat)
 |rg (l:MT) (m:List Nat)
noncomputable def Fm.ap:Fm->MT->MT
 |.lf r m,x=>.nd x r m
 |.rg l m,x=>.nd l x m
noncomputable def bf:List Fm->MT->MT
 |[],x=>x
 |f::C,x=>bf C (f.ap x)
noncomputable def pA:List Fm->List Pl
 |[]=>[]
 |.lf _ _::C=>pA C
 |.rg l _::C=>pA C++l.po
noncomputable def pB:List Fm->List Pl
 |[]=>[]
 |.lf r m::C=>r.po++[⟨1+2*r.one,m⟩]++pB C
 |.rg l m::C=>[⟨l.one+2,m⟩]++pB C
noncomputable def rA(M:Mc):List Fm->List Nat
 |[]=>[]
 |.lf _ _::C=>rA M C
 |.rg l _::C=>rA M C++l.rT M
def rB(M:Mc):List Fm->Nat->List Nat
 |[],_=>[]
 |.lf r m::C,a=>r.rT M++[sv M m a (r.tR M)]++rB M C (sv M m a (r.tR M))
 |.rg l m::C,a=>[sv M m (l.tR M) a]++rB M C (sv M m (l.tR M) a)
theorem dg:∀(C:List Fm) (l r:MT) (m:List Nat),#[1].po=pA C++(MT.nd l r m).po++pB C
 |[],l,r,m=>by show _=[]++_++[];rw[eK,a8];rfl
 |.lf y w::C,l,r,m=>by
  show(bf C (.nd (.nd l r m) y w)).po=_
  rw[dg C]
  show pA C++((MT.nd l r m).po++y.po++[⟨1+2*y.one,w⟩])++pB C=pA C++_++(y.po++[⟨1+2*y.one,w⟩]++pB C)
  simp only[al]
 |.rg y w::C,l,r,m=>by
  show(bf C (.nd y (.nd l r m) w)).po=_
  rw[dg C]
  show pA C++(y.po++(MT.nd l r m).po++[⟨y.one+2*1,w⟩])++pB C=(pA C++y.po)++_++([⟨y.one+2,w⟩]++pB C)
  simp only[al]
theorem qY(M:Mc):∀(C:List Fm) (x:MT),(bf C x).rT M=rA M C++x.rT M++rB M C (x.tR M)
 |[],x=>by show _=[]++_++[];rw[eK,a8];rfl
 |.lf y w::C,x=>by
  show(bf C (.nd x y w)).rT M=_
  rw[qY M C]
  show rA M C++(x.rT M++y.rT M++[_])++rB M C _=rA M C++_++(y.rT M++[_]++rB M C _)
  simp only[al];rfl
 |.rg y w::C,x=>by
  show(bf C (.nd y x w)).rT M=_
  rw[qY M C]
  show rA M C++(y.rT M++x.rT M++[_])++rB M C _=(rA M C++y.rT M)++_++([_]++rB M C _)
  simp only[al];rfl
theorem oU(M:Mc):∀C:List Fm,(rA M C).length=(pA C).length
 |[]=>rfl
 |.lf _ _::C=>oU M C
 |.rg l _::C=>by show(rA M C++l.rT M).length=(pA C++l.po).length;rw[ai,ai,oU M C,MT.rT_len,MT.po_len]
theorem AE:∀(C:List Fm) (x:MT),∃u w,(bf C x).lkT 0=u++x.lkT (pA C).length++w/\u.length=(pA C).length
 |[],x=>⟨[],[],by rw[eK,a8];rfl,rfl⟩
 |.lf y w::C,x=>by
  obtain⟨u,v,e,h⟩:=AE C (.nd x y w)
  refine⟨u,y.lkT ((pA C).length+x.size)++[(x.tp (pA C).length,y.tp ((pA C).length+x.size))]++v,?_,h⟩
  show(bf C (.nd x y w)).lkT 0=u++x.lkT (pA C).length++_
  rw[e]
  show u++(x.lkT (pA C).length++_++[_])++v=_
  simp only[al]
 |.rg y w::C,x=>by
  obtain⟨u,v,e,h⟩:=AE C (.nd y x w)
  have hl:(pA (.rg y w::C)).length=(pA C).length+y.size:=by show(pA C++y.po).length=_;rw[ai,MT.po_len]
  refine⟨u++y.lkT (pA C).length,[(y.tp (pA C).length,x.tp ((pA C).length+y.size))]++v,?_,by rw[ai,MT.lk_len,h,hl]⟩
  show(bf C (.nd y x w)).lkT 0=_
  rw[e,hl]
  show u++(y.lkT (pA C).length++x.lkT _++[_])++v=_
  simp only[al]
theorem v5:∀(C:List Fm) (x:MT),∃u w,(bf C x).szT=u++x.szT++w/\u.length=(pA C).length
 |[],x=>⟨[],[],by rw[eK,a8];rfl,rfl⟩
 |.lf y w::C,x=>by
  obtain⟨u,v,e,h⟩:=v5 C (.nd x y w)
  refine⟨u,y.szT++[x.size+y.size+1]++v,?_,h⟩
  show(bf C (.nd x y w)).szT=_
  rw[e]
  show u++(x.szT++y.szT++[_])++v=_
  simp only[al]
 |.rg y w::C,x=>by
  obtain⟨u,v,e,h⟩:=v5 C (.nd y x w)
  refine⟨u++y.szT,[y.size+x.size+1]++v,?_,by rw[ai,MT.sz_len,h];show _=(pA C++y.po).length;rw[ai,MT.po_len]⟩
  show(bf C (.nd y x w)).szT=_
  rw[e]
  show u++(y.szT++x.szT++[_])++v=_
  simp only[al]
theorem u7(f:Fm):∀(C:List Fm) (x:MT),bf (C++[f]) x=f.ap (bf C x)
 |[],x=>rfl
 |g::C,x=>u7 f C (g.ap x)
theorem JM(r:MT)(m:List Nat):∀C:List Fm,pA (C++[.lf r m])=pA C
 |[]=>rfl
 |.lf _ _::C=>JM r m C
 |.rg l _::C=>by show pA (C++[.lf r m])++l.po=pA C++l.po;rw[JM r m C]
theorem JN(l:MT)(m:List Nat):∀C:List Fm,pA (C++[.rg l m])=l.po++pA C
 |[]=>by show[]++l.po=l.po++[];simp
 |.lf _ _::C=>JN l m C
 |.rg y _::C=>by show pA (C++[.rg l m])++y.po=l.po++(pA C++y.po);rw[JN l m C,al]
theorem v7:∀(t:MT) (q:Nat),q<t.size->∃C l r m,t=bf C (.nd l r m)/\q=(pA C).length+l.size+r.size
 |.nil,q,h=>absurd h (by simp[MT.size])
 |.nd l r m,q,h=>by
  rw[MT.size_nd]at h
  by_cases h1:q<l.size
  ·obtain⟨C,a,b,w,e1,e2⟩:=v7 l q h1
   exact⟨C++[.lf r m],a,b,w,by rw[u7,<- e1];rfl,by rw[JM];exact e2⟩
  ·by_cases h2:q<l.size+r.size
   ·obtain⟨C,a,b,w,e1,e2⟩:=v7 r (q-l.size) #[0]
    exact⟨C++[.rg l m],a,b,w,by rw[u7,<- e1];rfl,by rw[JN,ai,MT.po_len];omega⟩
   ·exact⟨[],l,r,m,rfl,by show q=0+_+_;omega⟩
end P
namespace P
open PySem L2
theorem JO{a b:List α}{c x:α}{u:Nat}(h:(a++b++[c])[u]?=some x):(u<a.length/\a[u]?=some x)\/(a.length<=u/\u<a.length+b.length/\b[u-a.length]?=some x)\/(u=a.length+b.length/\x=c):=by
 by_cases h1:u<a.length
 ·rw[al,aR h1]at h
  exact .inl ⟨h1,h⟩
 ·by_cases h2:u<a.length+b.length
  ·rw[al,aS #[0],aR #[0]]at h
   exact .inr (.inl ⟨by omega,h2,h⟩)
  ·have hu:=(ax.mp h).1
   rw[ai,ai,bu]at hu
   have e:u=a.length+b.length:=by omega
   subst e
   rw[aS (by rw[ai];omega),ai,Nat.sub_self]at h
   cases h
   exact .inr (.inr ⟨rfl,rfl⟩)
def Q8(x:Option Nat×Option Nat)(j:Nat):Prop:=x.1=some j\/x.2=some j
namespace MT
theorem tp_some{t:MT}{o:Nat}(h:t.tp o=some j):0<t.size/\j+1=o+t.size:=by
 cases t with
 |nil=>cases h
 |nd l r m=>
  have:some (o+l.size+r.size)=some j:=h
  rw[size_nd]
  have:=bg this
  omega
theorem kid_lt:∀(t:MT) {o u j:Nat} {x:Option Nat×Option Nat},(t.lkT o)[u]?=some x->Q8 x j->o<=j/\j<o+u
 |nil,o,u,j,x,h,_=>by cases h
 |nd l r m,o,u,j,x,h,k=>by
  rcases JO h with⟨h1,h2⟩|⟨h1,h2,h3⟩|⟨h1,h2⟩
  ·exact kid_lt l h2 k
  ·rw[lk_len]at h1 h2 h3
   have:=kid_lt r h3 k
   omega
  ·rw[lk_len,lk_len]at h1
   subst h2
   rcases k with k|k
   ·have:=tp_some k;omega
   ·have:=tp_some k;omega
theorem par_one:∀(t:MT) {o u v j:Nat} {x y:Option Nat×Option Nat},(t.lkT o)[u]?=some x->(t.lkT o)[v]?=some y->Q8 x j->Q8 y j->u=v
 |nil,o,u,v,j,x,y,h,_,_,_=>by cases h
 |nd l r m,o,u,v,j,x,y,h,h',k,k'=>by
  have hl:=lk_len l o
  have hr:=lk_len r (o+l.size)
  have rt:∀{z:Option Nat×Option Nat},z=(l.tp o,r.tp (o+l.size))->Q8 z j->(j+1=o+l.size/\0<l.size)\/(j+1=o+l.size+r.size/\0<r.size):=fun{z} e k=>by
   subst e
   rcases k with k|k
   ·have:=tp_some k;exact .inl ⟨by omega,by omega⟩
   ·have:=tp_some k;exact .inr ⟨by omega,by omega⟩
  rcases JO h with⟨h1,h2⟩|⟨h1,h2,h3⟩|⟨h1,h2⟩
  ·have b:=kid_lt l h2 k
   rcases JO h' with⟨g1,g2⟩|⟨g1,g2,g3⟩|⟨g1,g2⟩
   ·exact par_one l h2 g2 k k'
   ·have:=kid_lt r g3 k';omega
   ·have:=rt g2 k';omega
  ·have b:=kid_lt r h3 k
   rcases JO h' with⟨g1,g2⟩|⟨g1,g2,g3⟩|⟨g1,g2⟩
   ·have:=kid_lt l g2 k';omega
   ·have:=par_one r h3 g3 k k';omega
   ·have:=rt g2 k';omega
  ·have b:=rt h2 k
   rcases JO h' with⟨g1,g2⟩|⟨g1,g2,g3⟩|⟨g1,g2⟩
   ·have:=kid_lt l g2 k';omega
   ·have:=kid_lt r g3 k';omega
   ·omega
end MT
noncomputable def GQ(A B:List (Option Nat))(p:Nat):Option Nat:=match A.getD p none with
 |some u=>some u
 |none=>B.getD p none
theorem f_:∀(C:List Fm) (x:MT),0<x.size->(pA C).length+x.size<=(bf C x).size
 |[],x,h=>by show 0+x.size<=x.size;omega
 |.lf y w::C,x,h=>by
  have:=f_ C (.nd x y w) (by rw[MT.size_nd];omega)
  rw[MT.size_nd]at this
  show(pA C).length+x.size<=(bf C (.nd x y w)).size
  omega
 |.rg y w::C,x,h=>by
  have:=f_ C (.nd y x w) (by rw[MT.size_nd];omega)
  rw[MT.size_nd]at this
  show(pA C++y.po).length+x.size<=(bf C (.nd y x w)).size
  rw[ai,MT.po_len]
  omega
theorem v8(C:List Fm)(l r:MT)(m:List Nat):(#[1].lkT 0)[(pA C).length+l.size+r.size]?=some (l.tp (pA C).length,r.tp ((pA C).length+l.size)):=by
 obtain⟨u,w,e,h⟩:=AE C (.nd l r m)
 rw[e,al,aS #[0],h]
 show((l.lkT (pA C).length++r.lkT ((pA C).length+l.size)++[_])++w)[_]?=_
 rw[aR (by simp[MT.lk_len];omega),aS (by rw[ai,MT.lk_len,MT.lk_len];omega),ai,MT.lk_len,MT.lk_len,show(pA C).length+l.size+r.size-(pA C).length-(l.size+r.size)=0 by omega]
 rfl
theorem Up.is{t:MT}{A:List (Option Nat)}(hf:∀x j,f x=some j->Q8 x j)(h:Up (t.lkT 0) f t.size A){p:Nat}{x:Option Nat×Option Nat}(hx:(t.lkT 0)[p]?=some x)(hk:f x=some j):A.getD j none=some p:=by
 have hp:p<t.size:=by have:=(ax.mp hx).1;rwa[MT.lk_len]at this
 obtain⟨v,hv⟩:=h.2 p x j hp hx hk
 obtain⟨y,hy,hy2⟩:=h.1 j v hv
 rw[aI,hv,Option.getD_some,MT.par_one t hy hx (hf _ _ hy2) (hf _ _ hk)]
theorem Up.no{t:MT}{A:List (Option Nat)}(h:Up (t.lkT 0) f t.size A)(hn:∀(p:Nat) (x:Option Nat×Option Nat),(t.lkT 0)[p]?=some x->f x≠some j):A.getD j none=none:=by
 rw[aI]
 cases e:A[j]? with
 |none=>rfl
 |some o=>
  cases o with
  |none=>rfl
  |some u=>
   obtain⟨y,hy,hy2⟩:=h.1 j u e
   exact absurd hy2 (hn u y hy)
theorem QC{x:MT}{A:List (Option Nat)}(hA:Up (x.lkT 0) Prod.fst x.size A)(hB:Up (x.lkT 0) Prod.snd x.size B)(h0:0<x.size):GQ A B (x.size-1)=none:=by
 have key:∀(p:Nat) (y:Option Nat×Option Nat),(x.lkT 0)[p]?=some y->¬ Q8 y (x.size-1):=fun p y hy hk=>by
  have:=MT.kid_lt x hy hk
  have hp:=(ax.mp hy).1
  rw[MT.lk_len]at hp
  omega
 unfold GQ
 rw[hA.no fun p y hy e=>key p y hy (.inl e)]
 exact hB.no fun p y hy e=>key p y hy (.inr e)
theorem TK{C:List Fm}{x y:MT}{w:List Nat}{A B:List (Option Nat)}{t:MT}(ht:t=bf C (.nd x y w))(hA:Up (t.lkT 0) Prod.fst t.size A)(h0:0<x.size):GQ A B ((pA C).length+x.size-1)=some ((pA C).length+x.size+y.size):=by
 subst ht
 have e:=v8 C x y w
 have hx:x.tp (pA C).length=some ((pA C).length+x.size-1):=by
  cases x with
  |nil=>exact absurd h0 (by decide)
  |nd a b c=>rw[MT.tp_nd]
 unfold GQ
 rw[hA.is (fun _ _ h=>.inl h) e hx]
theorem TL{C:List Fm}{x y:MT}{w:List Nat}{A:List (Option Nat)}{t:MT}(ht:t=bf C (.nd y x w))(hA:Up (t.lkT 0) Prod.fst t.size A)(hB:Up (t.lkT 0) Prod.snd t.size B)(h0:0<x.size):GQ A B ((pA C).length+y.size+x.size-1)=some ((pA C).length+y.size+x.size):=by
 subst ht
 have e:=v8 C y x w
 have hx:x.tp ((pA C).length+y.size)=some ((pA C).length+y.size+x.size-1):=by
  cases x with
  |nil=>exact absurd h0 (by decide)
  |nd a b c=>rw[MT.tp_nd]
 unfold GQ
 rw[hA.no (fun p z hz k=>by
  obtain rfl:=MT.par_one _ hz e (.inl k) (.inr hx)
  rw[e]at hz
  cases hz
  have:=MT.tp_some k
  omega)]
 exact hB.is (fun _ _ h=>.inr h) e hx
end P
namespace P
open PySem L2
section
variable{M:Mc}
theorem xB(hM:ng M n)(m:List Nat){a b:Nat}(ha:a<n)(hb:b<n):sv M m a b<n:=by
 have h1:lN m M.nm<M.tb.length:=by rw[hM.tb];exact Ff m M.nm
 have e1:=lh [] h1
 obtain⟨t1,t2⟩:=hM.t _ (cz e1)
 have e2:=lh (l:=M.tb.getD (lN m M.nm) []) [] (i:=a) #[0]
 obtain⟨t3,t4⟩:=t2 _ (cz e2)
 have e3:=lh (l:=(M.tb.getD (lN m M.nm) []).getD a []) 0 (i:=b) #[0]
 exact t4 _ (cz e3)
theorem MT.tR_lt(hM:ng M n)(hn:1<=n):∀t:MT,t.tR M<n
 |.nil=>hn
 |.nd l r m=>xB hM m (tR_lt hM hn l) (tR_lt hM hn r)
theorem MT.rT_lt(hM:ng M n)(hn:1<=n):∀t:MT,∀k∈t.rT M,k<n
 |.nil,k,h=>by cases h
 |.nd l r m,k,h=>by
  rcases aV.mp h with h|h
  ·rcases aV.mp h with h|h
   ·exact rT_lt hM hn l k h
   ·exact rT_lt hM hn r k h
  ·rw[aZ.mp h];exact xB hM m (tR_lt hM hn l) (tR_lt hM hn r)
def Fm.rm(M:Mc):Fm->Nat->Nat
 |.lf r m,a=>sv M m a (r.tR M)
 |.rg l m,a=>sv M m (l.tR M) a
theorem JP(hM:ng M n)(hn:1<=n):∀C:List Fm,∀k∈rA M C,k<n
 |[],k,h=>by cases h
 |.lf _ _::C,k,h=>JP hM hn C k h
 |.rg l _::C,k,h=>by
  rcases aV.mp h with h|h
  ·exact JP hM hn C k h
  ·exact l.rT_lt hM hn k h
theorem JQ(hM:ng M n)(hn:1<=n):∀(C:List Fm) {a:Nat},a<n->∀k∈rB M C a,k<n
 |[],a,_,k,h=>by cases h
 |.lf r m::C,a,ha,k,h=>by
  have hv:=xB hM m ha (r.tR_lt hM hn)
  rcases aV.mp h with h|h
  ·rcases aV.mp h with h|h
   ·exact r.rT_lt hM hn k h
   ·rw[aZ.mp h];exact hv
  ·exact JQ hM hn C hv k h
 |.rg l m::C,a,ha,k,h=>by
  have hv:=xB hM m (l.tR_lt hM hn) ha
  rcases aV.mp h with h|h
  ·rw[aZ.mp h];exact hv
  ·exact JQ hM hn C hv k h
def fr(M:Mc)(C:List Fm)(l r:MT)(o:Nat):List Nat:=rA M C++(l.rT M++r.rT M++[o])++rB M C o
theorem TM(hM:ng M n)(hn:1<=n)(C:List Fm)(l r:MT){o:Nat}(ho:o<n):∀k∈fr M C l r o,k<n:=fun k h=>by
 rcases aV.mp h with h|h
 ·rcases aV.mp h with h|h
  ·exact JP hM hn C k h
  ·rcases aV.mp h with h|h
   ·rcases aV.mp h with h|h
    ·exact l.rT_lt hM hn k h
    ·exact r.rT_lt hM hn k h
   ·rw[aZ.mp h];exact ho
 ·exact JQ hM hn C ho k h
theorem AF(a b c d:List α)(o:α){p:Nat}(hp:p=a.length+b.length+c.length):(a++(b++c++[o])++d)[p]?=some o:=by
 subst hp
 rw[show a++(b++c++[o])++d=(a++b++c)++o::d by simp,aS (by simp[nM])]
 simp[nM]
theorem L6(a b c d:List α)(o v:α){p:Nat}(hp:p=a.length+b.length+c.length):(a++(b++c++[o])++d).set p v=a++(b++c++[v])++d:=by
 subst hp
 rw[show a++(b++c++[o])++d=(a++b++c)++o::d by simp,p5 _ _ (by simp[nM]),show a.length+b.length+c.length-(a++b++c).length=0 by simp;omega]
 simp
theorem NE(M:Mc)(C:List Fm)(l r:MT):(pA C).length+l.size+r.size=(rA M C).length+(l.rT M).length+(r.rT M).length:=by rw[oU,MT.rT_len,MT.rT_len]
noncomputable def L7(M:Mc):List Fm->Nat->Nat->Nat
 |[],_,_=>1
 |f::C,v,o=>if v=o then 1 else 1+L7 M C (f.rm M v) (f.rm M o)
theorem Ef{A:List (Option Nat)}{ua ub p:Nat}(ha:st[ua]?=some (.lst (A.map oW)))(hb:st[ub]?=some (.lst (B.map oW)))(hp:p<A.length)(KI:p<B.length):Gs [.tup [.loc ua,.loc ub],.int p] st=.ok (oW (GQ A B p)) st:=by
 have ea:bv (.loc ua) (.int p) st=.ok (oW (A.getD p none)) st:=jO (bY ha) (fX (by rw[aG,lh none hp];rfl))
 have eb:bv (.loc ub) (.int p) st=.ok (oW (B.getD p none)) st:=jO (bY hb) (fX (by rw[aG,lh none KI];rfl))
 unfold GQ
 cases e:A.getD p none with
 |some u=>
  rw[e]at ea
  apply fj
  apply bQ
  ·exact tu (aY (fB (bw kx kv ea) rfl)) (bw kx kv ea)
  ·exact⟨_,_,rfl,rfl,rfl⟩
 |none=>
  rw[e]at ea
  apply fj
  apply bQ
  ·exact tw (aY (fB (bw kx kv ea) rfl)) (bw kx kv eb)
  ·exact⟨_,_,rfl,rfl,rfl⟩
theorem QD{g g':FS}{ρ':cW}(h:g ρ st=.bk ρ' st1):aM g g' ρ st=.bk ρ' st1:=by unfold aM;rw[h]
abbrev cT:FT:=eP (iC (ag 8))
abbrev cB:FS:=(aM (bd 9 (b8 4 tP (ah (ag 0) (ah (e2 bv (e2 bv (ag 1) (ag 8)) (eI 1)) (ah (e2 bv (ag 4) (ag 8)) (ah (ag 6) aD)))))) (aM (bd 7 (e2 cO (ag 7) (eI 1))) (aM (gA (eP (e2 kz (ag 9) (e2 bv (ag 6) (ag 8)))) DD bX) (aM (By (ag 6) (ag 8) (ag 9) rE) (bd 8 (b8 2 Gs (ah (ag 5) (ah (ag 8) aD))))))))
abbrev cR(M:Mc)(t:MT)(x2:W)(q ua ub pf c:Nat)(o8 o9:Option W):cW:=[some M.w,some (cb t.po),some x2,iO (q:Nat),some (.tup ((t.lkT 0).map jF)),some (.tup [.loc ua,.loc ub]),lO pf,iO (c:Nat),o8,o9]
theorem Cy{g:FS}{ρ':cW}(h:t ρ st=.ok true st)(e:g ρ st=.bk ρ' bh):eM t g (k+1) ρ st=.nx ρ' bh:=by unfold eM;rw[h];simp only[R.stmt_ok,gG,e]
theorem xC{g:FS}{ρ':cW}{rs:RS}(h:t ρ st=.ok true st)(e:g ρ st=.nx ρ' bh)(e2:eM t g k ρ' bh=rs):eM t g (k+1) ρ st=rs:=by unfold eM;rw[h];simp only[R.stmt_ok,gG,e];exact e2
theorem GA{g:FS}(h:t ρ st=.ok false st):eM t g (k+1) ρ st=.nx ρ st:=by unfold eM;rw[h];rfl
theorem oV(C:List Fm)(l r:MT)(m:List Nat):#[1].po[(pA C).length+l.size+r.size]?=some ⟨l.one+2*r.one,m⟩:=by
 rw[dg]
 exact AF (pA C) l.po r.po (pB C) _ (by rw[MT.po_len,MT.po_len])
section
variable{t:MT}{A:List (Option Nat)}{ua ub pf:Nat}
theorem L8(M:Mc)(C:List Fm)(l r:MT)(m:List Nat)(o:Nat):v3 M (fr M C l r o) m (l.tp (pA C).length,r.tp ((pA C).length+l.size))=sv M m (l.tR M) (r.tR M):=by
 have:=MT.stp_tp M (rA M C) ([o]++rB M C o) l r m
 rw[oU]at this
 rw[<- this]
 unfold fr
 simp only[al]
theorem xD(hM:ng M n)(hn:1<=n)(x2:W)(q:Nat)(lA:A.length=t.size)(lB:B.length=t.size)(na:pf≠ua)(nb:pf≠ub){C:List Fm}{l r:MT}{o:Nat}(c:Nat)(o9:Option W)(ht:t=bf C (.nd l r m))(ho:o<n)(ha:st[ua]?=some (.lst (A.map oW)))(hb:st[ub]?=some (.lst (B.map oW)))(hf:st[pf]?=some (.lst (nW (fr M C l r o)))) :
  (sv M m (l.tR M) (r.tR M)=o->cB (cR M t x2 q ua ub pf c (iO ((pA C).length+l.size+r.size:Nat)) o9) st=.bk (cR M t x2 q ua ub pf (c+1) (iO ((pA C).length+l.size+r.size:Nat)) (iO (o:Nat))) st) /\
  (sv M m (l.tR M) (r.tR M)≠o->cB (cR M t x2 q ua ub pf c (iO ((pA C).length+l.size+r.size:Nat)) o9) st=.nx (cR M t x2 q ua ub pf (c+1) (some (oW (GQ A B ((pA C).length+l.size+r.size)))) (iO (sv M m (l.tR M) (r.tR M):Nat))) (st.set pf (.lst (nW (rA M C++(l.rT M++r.rT M++[sv M m (l.tR M) (r.tR M)])++rB M C o))))):=by
 have hx:=v8 C l r m
 have hp:=oV C l r m
 have hg:=MT.gr0 #[1]
 have hz:=f_ C (.nd l r m) (by rw[MT.size_nd];omega)
 rw[<- ht]at hx hp hg hz
 rw[MT.size_nd]at hz
 have hs:=L8 M C l r m o
 have hat:(fr M C l r o)[(pA C).length+l.size+r.size]?=some o:=AF _ _ _ _ _ (NE M C l r)
 have Q2:(fr M C l r o).set ((pA C).length+l.size+r.size) (sv M m (l.tR M) (r.tR M))=rA M C++(l.rT M++r.rT M++[sv M m (l.tR M) (r.tR M)])++rB M C o:=L6 _ _ _ _ _ _ (NE M C l r)
 have hfl:=(ax.mp hat).1
 have hlk:=hg.lk hx
 have hr:=NC (m:=m) hM hn (TM hM hn C l r ho) (x:=(l.tp (pA C).length,r.tp ((pA C).length+l.size))) ⟨fun k e=>ui (hlk.1 k e) hfl,fun k e=>ui (hlk.2 k e) hfl⟩ st hf
 rw[hs]at hr
 generalize hv:sv M m (l.tR M) (r.tR M)=v at *
 generalize hP:(pA C).length+l.size+r.size=p at *
 have e9:bd 9 (b8 4 tP (ah (ag 0) (ah (e2 bv (e2 bv (ag 1) (ag 8)) (eI 1)) (ah (e2 bv (ag 4) (ag 8)) (ah (ag 6) aD))))) (cR M t x2 q ua ub pf c (iO (p:Nat)) o9) st=.nx (cR M t x2 q ua ub pf c (iO (p:Nat)) (iO (v:Nat))) st:=
  bb (bV (am kv (am (bw (bw kv kv (tY hp st)) bJ (D6 _ st)) (am (bw kv kv (nV (fX (by rw[aG,hx];rfl)))) kn))) hr rfl)
 have e7:bd 7 (e2 cO (ag 7) (eI 1)) (cR M t x2 q ua ub pf c (iO (p:Nat)) (iO (v:Nat))) st=.nx (cR M t x2 q ua ub pf (c+1) (iO (p:Nat)) (iO (v:Nat))) st:=bb (bw kv bJ dN)
 have eq:∀b,decide (v=o)=b->eP (e2 kz (ag 9) (e2 bv (ag 6) (ag 8))) (cR M t x2 q ua ub pf (c+1) (iO (p:Nat)) (iO (v:Nat))) st=.ok b st:=fun b hb=>aY (bw kv (bw kv kv (NB hf hat)) (gk (by rw[<- hb,pS,dv,mT];omega)))
 refine⟨fun h=>?_,fun h=>?_⟩
 ·refine c5 e9 (c5 e7 (QD ?_))
  rw[dh (eq true (bG h)) rfl,h];rfl
 ·refine c5 e9 (c5 e7 (c5 (cC (eq false (a7 h)) rfl) (c5 (E9 kv kv kv (D8 hf (by show _<(List.map _ _).length;rw[aE];exact hfl))) ?_)))
  rw[show(nW (fr M C l r o)).set p (W.int (v:Nat))=nW ((fr M C l r o).set p v) by unfold nW;rw[uk],Q2]
  exact bb (bV (am kv kn) (Ef (by rw[cQ na];exact ha) (by rw[cQ nb];exact hb) #[0] #[0]) rfl)
theorem Eg(hM:ng M n)(hn:1<=n)(x2:W)(q:Nat)(hA:Up (t.lkT 0) Prod.fst t.size A)(hB:Up (t.lkT 0) Prod.snd t.size B)(lA:A.length=t.size)(lB:B.length=t.size)(na:pf≠ua)(nb:pf≠ub) :
  ∀(C:List Fm) (l r:MT) (m:List Nat) (o c:Nat) (o9:Option W) (st:List au),t=bf C (.nd l r m)->o<n->st[ua]?=some (.lst (A.map oW))->st[ub]?=some (.lst (B.map oW))->st[pf]?=some (.lst (nW (fr M C l r o))) ->
   ∃o8 QO bh,eM cT cB (C.length+2) (cR M t x2 q ua ub pf c (iO ((pA C).length+l.size+r.size:Nat)) o9) st=.nx (cR M t x2 q ua ub pf (c+L7 M C (sv M m (l.tR M) (r.tR M)) o) o8 QO) bh/\bh[pf]?=some (.lst (nW (t.rT M)))/\∀i,i≠pf->bh[i]?=st[i]?:=by
 intro C
 induction C with
 |nil=>
  intro l r m o c o9 st ht ho ha hb hf
  obtain⟨s1,s2⟩:=xD hM hn x2 q lA lB na nb c o9 ht ho ha hb hf
  by_cases h:sv M m (l.tR M) (r.tR M)=o
  ·refine⟨_,_,st,Cy (aY (fB kv rfl)) (s1 h),?_,fun _ _=>rfl⟩
   rw[hf,ht]
   unfold fr
   rw[show(bf [] (.nd l r m)).rT M=rA M []++(l.rT M++r.rT M++[sv M m (l.tR M) (r.tR M)])++rB M [] (sv M m (l.tR M) (r.tR M))from qY M [] _,h]
  ·have e:=s2 h
   have hu:GQ A B ((pA []).length+l.size+r.size)=none:=by
    have:=QC hA hB (by rw[ht];show 0<l.size+r.size+1;omega)
    rw[show t.size=l.size+r.size+1 by rw[ht];rfl]at this
    rw[<- this];congr 1;show 0+_+_=_;omega
   rw[hu]at e
   refine⟨_,_,_,xC (aY (fB kv rfl)) e (GA (aY (fB kv rfl))),?_,fun i hi=>cQ (Ne.symm hi)⟩
   rw[fw hf,ht]
   show some (au.lst (nW ([]++_++[])))=_
   rw[eK,a8];rfl
 |cons f C ih=>
  intro l r m o c o9 st ht ho ha hb hf
  obtain⟨s1,s2⟩:=xD hM hn x2 q lA lB na nb c o9 ht ho ha hb hf
  by_cases h:sv M m (l.tR M) (r.tR M)=o
  ·rw[show L7 M (f::C) (sv M m (l.tR M) (r.tR M)) o=1 from aK h]
   refine⟨_,_,st,Cy (aY (fB kv rfl)) (s1 h),?_,fun _ _=>rfl⟩
   rw[hf,ht]
   unfold fr
   rw[qY M (f::C),show(MT.nd l r m).tR M=o from h,show(MT.nd l r m).rT M=l.rT M++r.rT M++[sv M m (l.tR M) (r.tR M)]from rfl,h]
  ·have e:=s2 h
   rw[show L7 M (f::C) (sv M m (l.tR M) (r.tR M)) o=1+L7 M C (f.rm M (sv M m (l.tR M) (r.tR M))) (f.rm M o)from aU h,<- nM]
   cases f with
   |lf y w=>
    have hu:GQ A B ((pA (.lf y w::C)).length+l.size+r.size)=some ((pA C).length+(MT.nd l r m).size+y.size):=by
     have:=TK (B:=B) (t:=t) (C:=C) (x:=.nd l r m) (y:=y) (w:=w) ht hA (by rw[MT.size_nd];omega)
     rw[<- this];congr 1;rw[MT.size_nd];show(pA C).length+_+_=_;omega
    rw[hu]at e
    obtain⟨o8,QO,bh,e2,e3,e4⟩:=ih (.nd l r m) y w (sv M w o (y.tR M)) (c+1) (iO (sv M m (l.tR M) (r.tR M):Nat)) (st.set pf (.lst (nW (rA M (.lf y w::C)++(l.rT M++r.rT M++[sv M m (l.tR M) (r.tR M)])++rB M (.lf y w::C) o)))) ht (xB hM w ho (y.tR_lt hM hn)) (by rw[cQ na];exact ha) (by rw[cQ nb];exact hb) (by
     rw[fw hf]
     unfold fr
     show some (au.lst (nW (rA M C++_++(y.rT M++[_]++rB M C _))))=some (au.lst (nW (rA M C++((l.rT M++r.rT M++[_])++y.rT M++[_])++rB M C _)))
     simp only[al])
    exact⟨o8,QO,bh,xC (aY (fB kv rfl)) e e2,e3,fun i hi=>by rw[e4 i hi];exact cQ (Ne.symm hi)⟩
   |rg y w=>
    have hu:GQ A B ((pA (.rg y w::C)).length+l.size+r.size)=some ((pA C).length+y.size+(MT.nd l r m).size):=by
     have:=TL (t:=t) (C:=C) (x:=.nd l r m) (y:=y) (w:=w) ht hA hB (by rw[MT.size_nd];omega)
     rw[<- this];congr 1;rw[MT.size_nd];show(pA C++y.po).length+_+_=_;rw[ai,MT.po_len];omega
    rw[hu]at e
    obtain⟨o8,QO,bh,e2,e3,e4⟩:=ih y (.nd l r m) w (sv M w (y.tR M) o) (c+1) (iO (sv M m (l.tR M) (r.tR M):Nat)) (st.set pf (.lst (nW (rA M (.rg y w::C)++(l.rT M++r.rT M++[sv M m (l.tR M) (r.tR M)])++rB M (.rg y w::C) o)))) ht (xB hM w (y.tR_lt hM hn) ho) (by rw[cQ na];exact ha) (by rw[cQ nb];exact hb) (by
     rw[fw hf]
     unfold fr
     show some (au.lst (nW ((rA M C++y.rT M)++_++([_]++rB M C _))))=some (au.lst (nW (rA M C++(y.rT M++(l.rT M++r.rT M++[_])++[_])++rB M C _)))
     simp only[al])
    exact⟨o8,QO,bh,xC (aY (fB kv rfl)) e e2,e3,fun i hi=>by rw[e4 i hi];exact cQ (Ne.symm hi)⟩
end
theorem Eh(hM:ng M n)(hn:1<=n){C:List Fm}{l r t:MT}{o:Nat}(ht:t=bf C (.nd l r m))(ho:o<n)(hs:t.size<=900)(st:List au) :
  B_ [M.w,cb t.po,gB (fr M C l r o),.int ((pA C).length+l.size+r.size:Nat)] st=.ok (.tup [gB (t.rT M),.int (L7 M C (sv M m (l.tR M) (r.tR M)) o:Nat)]) st:=by
 have hg:=t.gr0
 have hl:=t.po_len
 obtain⟨A,B,x,lA,lB,uA,uB,cA,cB',e5⟩:=Qy hg #[0] st
 rw[hl]at lA lB uA uB
 have e6:yQ [gB (fr M C l r o)] (st++x)=.ok (.loc (st++x).length) (st++x++[.lst (nW (fr M C l r o))]):=Qs
 have nA:(st++x).length≠st.length:=fun e=>by have:=ec cA;omega
 have nB:(st++x).length≠st.length+1:=fun e=>by have:=ec cB';omega
 obtain⟨o8,o9,bh,e8,e9,e10⟩:=Eg hM hn (gB (fr M C l r o)) ((pA C).length+l.size+r.size) uA uB lA lB nA nB C l r m o 0 none (st++x++[.lst (nW (fr M C l r o))]) ht ho (dJ cA) (dJ cB') dG
 rw[mi]at e8
 refine fv ?_ (by simp[undWs,v0,W.und])
 apply az
 ·exact bb (bV kn (tX hg #[0] st) rfl)
 apply az
 ·exact bb (bV kn e5 rfl)
 apply az
 ·exact bb (cr kn e6)
 apply az
 ·exact bb bJ
 apply az
 ·exact bb kv
 apply az
 ·exact yS e8 #[15]
 apply bQ
 ·exact eR (am (cr kn (oJ (bY e9))) kn) (ao rfl)
 ·refine⟨_,_,rfl,rfl,?_⟩
  have:st <+: bh:=List.prefix_iff_getElem?.mpr fun i hi=>by
   rw[e10 i (by rw[ai];omega),al,aR hi,aj hi]
  exact this.imp fun x e=>e.symm
end
theorem MT.one_of:∀{t:MT},0<t.size->t.one=1
 |.nil,h=>absurd h (by decide)
 |.nd _ _ _,_=>rfl
theorem MT.one_bit:∀t:MT,qX t.po=t.one
 |.nil=>rfl
 |.nd l r m=>by unfold qX;rw[aK (by rw[MT.po_len,MT.size_nd];omega)];rfl
theorem MT.one_le:∀t:MT,t.one<=1/\(0<t.size↔t.one=1)
 |.nil=>⟨by decide,by decide⟩
 |.nd l r m=>⟨aA 1,by rw[MT.size_nd];exact⟨fun _=>rfl,fun _=>by omega⟩⟩
theorem Gr.mts{ps:List Pl}{sz:List Nat}{lk:List #[8]}(h:Gr ps S sz lk):∃F:List MT,(∀t∈F,0<t.size)/\S=F.map MT.size/\ps=(F.reverse.map MT.po).flatten:=by
 induction h with
 |nil=>exact⟨[],by simp,rfl,rfl⟩
 |@snoc ps S S' sz lk b k m x h hs ih=>
  obtain⟨F,h1,rfl,rfl⟩:=ih
  have add:∀(t:MT) (G:List MT),0<t.size->(∀x∈G,0<x.size)->∀x∈t::G,0<x.size:=fun t G h g x hx=>by
   rcases aX.mp hx with rfl|hx
   ·exact h
   ·exact g x hx
  generalize hS:F.map MT.size=S0 at hs
  cases hs with
  |z=>
   refine⟨.nd .nil .nil m::F,add _ _ (Nat.succ_pos _) h1,by rw[<- hS];rfl,?_⟩
   rw[cE,bH,dF];rfl
  |l=>
   match F,hS with
   |t::F,hS=>
    rw[bt]at hS
    cases hS
    have ht:=h1 t cu
    refine⟨.nd t .nil m::F,add _ _ (by rw[MT.size_nd];omega) fun x hx=>h1 x (aW _ hx),?_,?_⟩
    ·rw[bt,MT.size_nd];congr 1;show _=_+0+1;omega
    ·rw[cE,bH,dF,cE,bH,dF,al]
     congr 1
     show(t.po++[])++_=(t.po++[]++[⟨t.one+2*0,m⟩])++[]
     rw[MT.one_of ht];simp
  |r=>
   match F,hS with
   |t::F,hS=>
    rw[bt]at hS
    cases hS
    have ht:=h1 t cu
    refine⟨.nd .nil t m::F,add _ _ (by rw[MT.size_nd];omega) fun x hx=>h1 x (aW _ hx),?_,?_⟩
    ·rw[bt,MT.size_nd];congr 1;show _=0+_+1;omega
    ·rw[cE,bH,dF,cE,bH,dF,al]
     congr 1
     show(t.po++[])++_=([]++t.po++[⟨0+2*t.one,m⟩])++[]
     rw[MT.one_of ht];simp
  |b=>
   match F,hS with
   |c::t::F,hS=>
    rw[bt,bt]at hS
    cases hS
    have hc:=h1 c cu
    have ht:=h1 t (aW _ cu)
    refine⟨.nd t c m::F,add _ _ (by rw[MT.size_nd];omega) fun x hx=>h1 x (aW _ (aW _ hx)),?_,?_⟩
    ·rw[bt,MT.size_nd];congr 1;omega
    ·rw[cE,bH,dF,cE,cE,bH,dF,bH,dF,al,al]
     congr 1
     show(t.po++[])++((c.po++[])++_)=(t.po++c.po++[⟨t.one+2*c.one,m⟩])++[]
     rw[MT.one_of ht,MT.one_of hc];simp
   |[_],hS=>simp at hS
theorem Gr.mt{ps:List Pl}{sz:List Nat}{lk:List #[8]}(h:Gr ps S sz lk)(h1:S.length<=1):∃t:MT,ps=t.po:=by
 obtain⟨F,_,rfl,rfl⟩:=h.mts
 match F,h1 with
 |[],_=>exact⟨.nil,rfl⟩
 |[t],_=>exact⟨t,by simp⟩
 |_::_::_,h=>simp at h
section
variable{M:Mc}
def pq(C:List Fm)(l r:MT):Nat:=(pA C).length+l.size+r.size
theorem Cz(C:List Fm)(l r:MT)(m:List Nat):JH #[1].po #[1].szT (pq C l r) ⟨l.one+2*r.one,m⟩ l.size r.size:=by
 obtain⟨u,w,e,hu⟩:=v5 C (.nd l r m)
 have hl:=l.one_le
 have hr:=r.one_le
 refine⟨oV C l r m,?_,by unfold pq;omega,by show l.one+2*r.one<=3;omega,by show _↔(l.one+2*r.one)%2=1;omega,by show _↔2<=l.one+2*r.one;omega,fun h=>?_⟩
 ·rw[e,show 1+l.size+r.size=l.size+r.size+1 by omega]
  exact AF u l.szT r.szT w _ (by rw[hu,MT.sz_len,MT.sz_len];rfl)
 ·have h2:2<=l.one+2*r.one:=h
  cases r with
  |nil=>exact absurd h2 (by show ¬ 2<=l.one+2*0;omega)
  |nd a b c=>
   rw[MT.size_nd]
   refine⟨by unfold pq;rw[MT.size_nd];omega,?_⟩
   rw[e,show(MT.nd l (.nd a b c) m).szT=l.szT++(a.szT++b.szT++[a.size+b.size+1])++[l.size+(MT.nd a b c).size+1]from rfl,<- al,<- al,al]
   exact AF (u++l.szT) a.szT b.szT _ _ (by rw[ai,hu,MT.sz_len,MT.sz_len,MT.sz_len];unfold pq;rw[MT.size_nd];omega)
theorem v9{a b c d:List α}{p q:Nat}(hp:p=a.length)(hk:k=b.length):((a++(b++c)++d).drop p).take k=b:=by
 subst hp;subst hk
 rw[al,List.drop_left,al,gZ]
theorem CA(C:List Fm)(l r:MT)(m:List Nat):Ea #[1].po (pq C l r) l.size r.size=l.po:=by
 unfold Ea pq
 rw[dg,show(MT.nd l r m).po=l.po++(r.po++[⟨l.one+2*r.one,m⟩])from al _ _ _]
 exact v9 (q:=0) #[0] (MT.po_len l).symm
theorem CB(C:List Fm)(l r:MT)(m:List Nat):Eb #[1].po (pq C l r) r.size=r.po:=by
 unfold Eb pq
 rw[dg,show pA C++(MT.nd l r m).po++pB C=(pA C++l.po)++(r.po++[⟨l.one+2*r.one,m⟩])++pB C by show pA C++(l.po++r.po++_)++_=_;simp only[al]]
 exact v9 (q:=0) (by rw[ai,MT.po_len];omega) (MT.po_len r).symm
theorem CC(C:List Fm)(l r x:MT)(m:List Nat)(sd:Bool):Q7 #[1].po (pq C l r) l.size r.size m sd x.po=(bf C (.nd (if sd then x else l) (if sd then r else x) m)).po:=by
 unfold Q7
 rw[CA,CB]
 have e1:#[1].po.take (pq C l r-l.size-r.size)=pA C:=by
  rw[dg,al,show pq C l r-l.size-r.size=(pA C).length by unfold pq;omega,gZ]
 have e2:#[1].po.drop (pq C l r+1)=pB C:=by
  rw[dg]
  exact im (by rw[ai,MT.po_len,MT.size_nd];unfold pq;omega)
 rw[e1,e2,dg]
 cases sd
 ·show pA C++(l.po++x.po++[⟨qX l.po+2*qX x.po,m⟩])++pB C=_
  rw[MT.one_bit,MT.one_bit];rfl
 ·show pA C++(x.po++r.po++[⟨qX x.po+2*qX r.po,m⟩])++pB C=_
  rw[MT.one_bit,MT.one_bit];rfl
theorem CD{a:List Nat}(h:q<=a.length)(st:List au):wG (gB a) none (some (q:Int)) st=.ok (gB (a.take q)) st:=by
 show R.ok (W.tup (j6 _ _ _)) st=_
 rw[m_ (by simpa using h),<- nK];rfl
theorem CF{a:List Nat}(h:q<=a.length)(st:List au):wG (gB a) (some (q:Int)) none st=.ok (gB (a.drop q)) st:=by
 show R.ok (W.tup (j6 _ _ _)) st=_
 rw[tI (by simpa using h),<- nL];rfl
theorem t7(a b:List Nat)(h:(a++b).length<=100000)(st:List au):cO (gB a) (gB b) st=.ok (gB (a++b)) st:=by
 unfold gB
 rw[bH]
 exact Il (by rw[<- bH,aE];show _<=1000000;omega)
theorem t8(hM:ng M n)(hn:1<=n)(t:MT)(h:t.size<=900)(st:List au):pM [M.w,cb t.po] st=.ok (gB (t.rT M)) st:=by
 have:=JB t.gr0 (by rw[MT.po_len];omega) hM hn st
 rwa[MT.rooms_po]at this
theorem JR(C:List Fm)(l r:MT)(m:List Nat)(h:#[1].size<=900)(st:List au):rL [cb #[1].po,.int (pq C l r:Nat)] st=.ok (.tup [cb l.po,cb r.po]) st:=by
 have:=JJ #[1].gr0 (by rw[MT.po_len];exact h) (Cz C l r m) st
 rwa[show(List.drop (pq C l r-l.size-r.size) #[1].po).take l.size=l.po from CA C l r m,show(List.drop (pq C l r-r.size) #[1].po).take r.size=r.po from CB C l r m]at this
theorem AG(r:List Nat)(st:List au):dH [gB r] st=.ok (.int r.length) st:=by
 have:dH [gB r] st=.ok (.int (r.map fun k=>W.int (k:Nat)).length) st:=DQ
 rwa[aE]at this
theorem Fj(M:Mc)(C:List Fm)(l r:MT)(o:Nat):fr M C l r o=rA M C++(l.rT M++(r.rT M++([o]++rB M C o))):=by unfold fr;simp only[al]
theorem JS(M:Mc)(C:List Fm)(l r:MT)(o:Nat):(fr M C l r o).take (pA C).length=rA M C:=by rw[Fj];exact lX (oU M C)
theorem JT(M:Mc)(C:List Fm)(l r:MT)(o:Nat):(fr M C l r o).drop ((pA C).length+l.size)=r.rT M++([o]++rB M C o):=by
 rw[Fj,<- al];exact im (by rw[ai,oU,MT.rT_len])
theorem JU(M:Mc)(C:List Fm)(l r:MT)(o:Nat):(fr M C l r o).take ((pA C).length+l.size)=rA M C++l.rT M:=by
 rw[Fj,<- al];exact lX (by rw[ai,oU,MT.rT_len])
theorem JV(M:Mc)(C:List Fm)(l r:MT)(o:Nat):(fr M C l r o).drop (pq C l r)=[o]++rB M C o:=by
 rw[Fj,<- al,<- al];exact im (by rw[ai,ai,oU,MT.rT_len,MT.rT_len];rfl)
theorem JW(M:Mc):∀(D:List Fm) (a b:Nat),(rB M D a).length=(rB M D b).length
 |[],a,b=>rfl
 |.lf y w::D,a,b=>by
  show(y.rT M++[_]++rB M D _).length=(y.rT M++[_]++rB M D _).length
  rw[ai,ai,ai,ai,JW M D _ (sv M w b (y.tR M))];rfl
 |.rg y w::D,a,b=>by
  show([_]++rB M D _).length=([_]++rB M D _).length
  rw[ai,ai,JW M D _ (sv M w (y.tR M) b)];rfl
theorem QF(M:Mc)(C:List Fm)(l r:MT)(o:Nat)(m:List Nat):(fr M C l r o).length=#[1].size:=by
 rw[<- MT.rT_len M,qY M C (.nd l r m)]
 unfold fr
 simp only[ai,MT.rT_len,JW M C o ((MT.nd l r m).tR M),MT.size_nd,bu]
def dW(C C':List Fm)(l r:MT)(m:List Nat)(l' r':MT)(m':List Nat)(s:W):W:=.tup [cb #[1].po,.int (pq C l r:Nat),cb (bf C' (.nd l' r' m')).po,.int (pq C' l' r':Nat),s]
theorem GB(hM:ng M n)(hn:1<=n)(C:List Fm)(l r l' r':MT)(m m':List Nat)(sd:Bool)(h1:#[1].size<=900)(h2:(bf C (.nd l' r' m')).size<=900)(hl:sd=false->l'=l)(hr:sd=true->r'=r)(o:Nat)(st:List au) :
  y_ [M.w,gB (fr M C l r o),dW C C l r m l' r' m' (vz sd)] st=.ok (.tup [gB (fr M C l' r' o),.int ((if sd then l'.size else r'.size:Nat))]) st:=by
 have z1:=f_ C (.nd l r m) (by rw[MT.size_nd];omega)
 have z2:=f_ C (.nd l' r' m') (by rw[MT.size_nd];omega)
 rw[MT.size_nd]at z1 z2
 have b1:=JR C l r m h1 st
 have b2:=JR C l' r' m' h2 st
 have n1:=gR l.po st
 have n2:=gR r.po st
 rw[MT.po_len]at n1 n2
 have hA:=oU M C
 have hfl:=QF M C l r o m
 have i3:∀ρ:cW,ρ[2]?=some (some (dW C C l r m l' r' m' (vz sd)))->e2 bv (ag 2) (eI 4) ρ st=.ok (vz sd) st:=fun ρ h=>bw (kB h) bJ ox
 have eS:kz (vz sd) (.str [108,101,102,116]) st=.ok (.bl sd) st:=by cases sd<;>exact dZ rfl
 have a5:(pq C l r:Int)-(l.size:Nat)-(r.size:Nat)=((pA C).length:Nat):=by unfold pq;omega
 have d3:bd 3 (b8 2 rL (ah (e2 bv (ag 2) (eI 0)) (ah (e2 bv (ag 2) (eI 1)) aD))) [some M.w,some (gB (fr M C l r o)),some (dW C C l r m l' r' m' (vz sd)),none,none,none,none,none] st=.nx [some M.w,some (gB (fr M C l r o)),some (dW C C l r m l' r' m' (vz sd)),some (.tup [cb l.po,cb r.po]),none,none,none,none] st:=
  bb (bV (am kx (am kx aQ)) b1 rfl)
 refine fv ?_ (by simp[undWs,v0,W.und])
 apply az
 ·exact d3
 apply az
 ·exact bb (bV (am kx (am kx aQ)) b2 rfl)
 apply az
 ·refine bb (st1:=st) (w:=.int ((pA C).length:Nat)) ?_
  rw[<- a5]
  exact bw (bw kx (cr (am kx aQ) n1) rfl) (cr (am kx aQ) n2) rfl
 apply az
 ·refine bb (st1:=st) (w:=.int ((pA C).length+l.size:Nat)) ?_
  rw[gf]
  exact bw kv (cr (am kx aQ) n1) dN
 cases sd with
 |true=>
  obtain rfl:=hr rfl
  have rm:=t8 hM hn l' #[0] st
  have nl:=AG (l'.rT M) st
  rw[MT.rT_len]at nl
  apply eT
  ·exact aY (bw (i3 _ rfl) bJ eS)
  apply uN
  apply az
  ·exact bb (bV (am kv (am kx aQ)) rm rfl)
  apply eJ
  ·refine eR (am (bw (bw (nC kv tz (nz kv) (CD #[0] st)) kv (t7 _ _ ?_ st)) (nC kv (nz kv) tz (CF #[0] st)) (t7 _ _ ?_ st)) (am (cr kn nl) aQ)) (ao rfl)
   ·simp only[ai,aF,MT.rT_len];omega
   ·simp only[ai,aF,cm,MT.rT_len];omega
  ·refine⟨_,_,rfl,?_,[],by simp⟩
   rw[JS,JT]
   unfold fr
   simp only[al];rfl
 |false=>
  obtain rfl:=hl rfl
  have rm:=t8 hM hn r' #[0] st
  have nl:=AG (r'.rT M) st
  rw[MT.rT_len]at nl
  apply bD
  ·exact aY (bw (i3 _ rfl) bJ eS)
  apply bW
  apply az
  ·exact bb (bV (am kv (am kx aQ)) rm rfl)
  apply bQ
  ·refine eR (am (bw (bw (nC kv tz (nz kv) (CD #[0] st)) kv (t7 _ _ ?_ st)) (nC kv (nz kx) tz (CF (by unfold pq;omega) st)) (t7 _ _ ?_ st)) (am (cr kn nl) aQ)) (ao rfl)
   ·simp only[ai,aF,MT.rT_len];omega
   ·simp only[ai,aF,cm,MT.rT_len];omega
  ·refine⟨_,_,rfl,?_,[],by simp⟩
   rw[JU,JV]
   unfold fr
   simp only[al];rfl
end
inductive Dd where
 |mk (C:List Fm) (l r:MT) (m:List Nat) (l' r':MT) (m':List Nat) (sd:Option Bool)
 |wh (t t':MT)
namespace Dd
def a:Dd->MT
 |mk C l r m _ _ _ _=>bf C (.nd l r m)
 |wh t _=>t
def b:Dd->MT
 |mk C _ _ _ l' r' m' _=>bf C (.nd l' r' m')
 |wh _ t'=>t'
def sW:Option Bool->W
 |none=>.non
 |some s=>vz s
def w:Dd->W
 |mk C l r m l' r' m' sd=>dW C C l r m l' r' m' (sW sd)
 |wh t t'=>.tup [cb t.po,.non,cb t'.po,.non,.non]
noncomputable def tn:Dd->Dd
 |mk C l r m l' r' m' sd=>mk C l' r' m' l r m sd
 |wh t t'=>wh t' t
def ok:Dd->Prop
 |mk C l r m l' r' m' sd=>(bf C (.nd l r m)).size<=100/\(bf C (.nd l' r' m')).size<=100/\(sd≠some true->l'=l)/\(sd≠some false->r'=r)
 |wh t t'=>t.size<=100/\t'.size<=100
noncomputable def bc:Option Bool->MT->MT->Nat
 |none,_,_=>0
 |some sd,l,r=>if sd then l.size else r.size
def ct(M:Mc):Dd->Nat
 |mk C l r m l' r' m' sd=>bc sd l' r'+L7 M C (sv M m' (l'.tR M) (r'.tR M)) (sv M m (l.tR M) (r.tR M))
 |wh _ t'=>t'.size
theorem tn_a(d:Dd):d.tn.a=d.b:=by cases d<;>rfl
theorem tn_b(d:Dd):d.tn.b=d.a:=by cases d<;>rfl
theorem tn_ok{d:Dd}(h:d.ok):d.tn.ok:=by
 cases d with
 |mk C l r m l' r' m' sd=>exact⟨h.2.1,h.1,fun e=>(h.2.2.1 e).symm,fun e=>(h.2.2.2 e).symm⟩
 |wh t t'=>exact⟨h.2,h.1⟩
theorem Vy{d:Dd}(h:d.ok):d.a.size<=100:=by
 cases d with
 |mk C l r m l' r' m' sd=>exact h.1
 |wh t t'=>exact h.1
theorem ok_b{d:Dd}(h:d.ok):d.b.size<=100:=by rw[<- tn_a];exact Vy (tn_ok h)
end Dd
section
variable{c f m:Str}{fs:FA}{z1 z2 z3:List au}{fl WG:List (Str×W)}{y w:W}{P:RS->Prop}{gM:FS}
theorem qC(h1:fe ρ z=.ok y z1)(h2:fo ρ z1=.ok (.loc n) z2)(h3:z2[n]?=some (.obj c fl))(hl:fl.length<900):qi c f fo fe ρ z=.nx ρ (z2.set n (.obj c (ya f y fl))):=by
 unfold qi
 rw[h1];simp only[R.stmt_ok];rw[h2];simp only[R.stmt_ok,nS,h3]
 rw[aK ⟨trivial,hl⟩]
theorem dO(h:fa ρ z=.ok (.loc n) z1)(h3:z1[n]?=some (.obj c fl))(hk:fl.lookup f=some w):jh c f fa ρ z=.ok w z1:=by
 unfold jh
 rw[h];simp only[R.bind_ok,nS,h3,gG,hk,eZ]
theorem h_(h:fo ρ z=.ok (.loc n) z1)(h3:z1[n]?=some (.obj c fl))(hm:fl.lookup m=none)(ha:fs ρ z1=.ok ws z2)(hn:ws.length+1=k)(hF:F (.loc n::ws) z2=.ok w z3):ig c m k F fo fs ρ z=.ok w z3:=by
 unfold ig
 rw[h];simp only[R.bind_ok,nS,h3]
 rw[aK ⟨trivial,hm⟩,ha];simp only[R.bind_ok]
 rw[aK hn,hF]
theorem JX(ha:fs ρ z=.ok ws z1)(hn:ws.length+1=k)(hF:F (.loc z1.length::ws) (z1++[.obj c []])=.ok .non z2):BG c k F fs ρ z=.ok (.loc z1.length) z2:=by
 unfold BG
 rw[ha];simp only[R.bind_ok]
 rw[aK hn,hF]
theorem mq(h:bh.length=st.length):iM st bh ws=bh:=by
 unfold iM
 split
 ·rw[bn #[0]]
 ·rfl
theorem xE(ws:List W)(hL:L<st.length)(h:bh[L]?=some (.obj c fl))(hu:undWs st.length (fl.map fun p=>p.2)=false)(hz:st[L]?≠some (.obj c fl)):iM st bh ws=bh:=by
 unfold iM
 rw[aU]
 rintro⟨_,_,k⟩
 rcases k L hL with e|⟨c,e,hc⟩
 ·rw[h]at e;exact hz e.symm
 ·rw[h]at e
  cases e
  have hc:undWs st.length (fl.map fun p=>p.2)=true:=hc
  rw[hu]at hc;cases hc
theorem lc{N:Nat}{body:FS}(h:body #[12] st=.nx ρ bh):c9 N body ws st=.ok .non (iM st bh []):=by
 unfold c9;rw[h]
end
section
variable{M:Mc}{a b:Nat}
def kF(M:Mc)(t:MT)(k:Nat)(a b:Nat):List (Str×W):=[("machine",M.w),("tree",cb t.po),("rooms",gB (t.rT M)),("many",.int (k:Nat)),("standing",.loc a),("taken_back",.loc b)]
theorem xF(hM:ng M n)(hn:1<=n){d:Dd}(hd:d.ok)(hz:z[L]?=some (.obj "Kept" (kF M d.a k a b))):dB [.loc L,d.w] z=.ok .non (z.set L (.obj "Kept" (kF M d.b (d.ct M) a b))):=by
 suffices hh:∃ρ,kP ([.loc L,d.w].map some++List.replicate (4-2) none) z=.nx ρ (z.set L (.obj "Kept" (kF M d.b (d.ct M) a b))) by
  obtain⟨ρ,e⟩:=hh
  show c9 4 kP _ _=_
  rw[lc e,mq #[15]]
 cases d with
 |wh t t'=>
  have hd2:t'.size<=100:=hd.2
  refine⟨[lO L,some (Dd.wh t t').w,none,none],?_⟩
  have e1:qi "Kept" "rooms" (ag 0) (b8 2 pM (ah (jh "Kept" "machine" (ag 0)) (ah (e2 bv (ag 1) (eI 2)) aD))) [lO L,some (Dd.wh t t').w,none,none] z=.nx [lO L,some (Dd.wh t t').w,none,none] (z.set L (.obj "Kept" [("machine",M.w),("tree",cb t.po),("rooms",gB (t'.rT M)),("many",.int (k:Nat)),("standing",.loc a),("taken_back",.loc b)])):=
   qC (bV (am (dO kv hz rfl) (am kx aQ)) (t8 hM hn t' #[0] z) rfl) kv hz (ao rfl)
  have l1:=gR t'.po (z.set L (.obj "Kept" [("machine",M.w),("tree",cb t.po),("rooms",gB (t'.rT M)),("many",.int (k:Nat)),("standing",.loc a),("taken_back",.loc b)]))
  rw[MT.po_len]at l1
  refine c5 (dh (aY (BI kx rfl)) (c5 e1 (qC (cr (am kx aQ) l1) kv (fw hz) (ao rfl)))) ?_
  rw[pF]
  rw[qC (f:="tree") kx kv (fw hz) (ao rfl),pF]
  rfl
 |mk C l r m l' r' m' sd=>
  obtain⟨h1,h2,h3,h4⟩:=hd
  have z0:z[L]?=some (.obj "Kept" (kF M #[1] k a b)):=hz
  have hrm:#[1].rT M=fr M C l r (sv M m (l.tR M) (r.tR M)):=by rw[qY];rfl
  have ho:=xB hM m (l.tR_lt hM hn) (r.tR_lt hM hn)
  generalize hov:sv M m (l.tR M) (r.tR M)=o at *
  obtain⟨k1,hk1,e2⟩:∃k1,k1=Dd.bc sd l' r'/\gA (eP (iC (e2 bv (ag 1) (eI 4)))) (bd 2 (b8 3 y_ (ah (jh "Kept" "machine" (ag 0)) (ah (jh "Kept" "rooms" (ag 0)) (ah (ag 1) aD))))) bX [lO L,some (Dd.mk C l r m l' r' m' sd).w,some (.tup [gB (fr M C l r o),.int 0]),none] z=.nx [lO L,some (Dd.mk C l r m l' r' m' sd).w,some (.tup [gB (fr M C l' r' o),.int (k1:Nat)]),none] z:=by
   cases sd with
   |none=>
    obtain rfl:=h3 #[3]
    obtain rfl:=h4 #[3]
    exact⟨_,rfl,cC (aY (fB kx rfl)) c_⟩
   |some s=>
    have bo:=GB hM hn C l r l' r' m m' s #[0] #[0] (fun e=>h3 (by rw[e];decide)) (fun e=>h4 (by rw[e];decide)) o z
    refine⟨_,rfl,dh (aY (fB kx (by cases s<;>rfl))) (bb (bV (am (dO kv z0 rfl) (am (dO kv z0 ?_) kn)) bo rfl))⟩
    show some (gB (#[1].rT M))=_
    rw[hrm]
  have cl:=Eh hM hn (C:=C) (l:=l') (r:=r') (m:=m') (o:=o) rfl ho #[0] z
  refine⟨[lO L,some (Dd.mk C l r m l' r' m' sd).w,some (.tup [gB (fr M C l' r' o),.int (k1:Nat)]),some (.tup [gB ((bf C (.nd l' r' m')).rT M),.int (L7 M C (sv M m' (l'.tR M) (r'.tR M)) o:Nat)])],?_⟩
  refine c5 (cC (aY (BI kx rfl)) (c5 (bb (w:=.tup [gB (fr M C l r o),.int 0]) (eR (am (dO (w:=gB (fr M C l r o)) kv z0 ?_) (am bJ aQ)) (ao rfl))) (c5 e2 (c5 (bb (bV (am (dO kv z0 rfl) (am kx (am kx (am kx aQ)))) cl rfl)) (c5 (qC kx kv z0 (ao rfl)) (qC (bw kx kx dN) kv (fw z0) (ao rfl))))))) ?_
  ·show some (gB (#[1].rT M))=_
   rw[hrm]
  ·rw[pF]
   rw[qC (f:="tree") kx kv (fw z0) (ao rfl),pF]
   have hct:(Dd.mk C l r m l' r' m' sd).ct M=k1+L7 M C (sv M m' (l'.tR M) (r'.tR M)) o:=by rw[hk1,<- hov];rfl
   rw[hct]
   rfl
end
end P
namespace P
open PySem L2
structure kg(M:Mc)(L a b:Nat)(t:MT)(k:Nat)(sd tk:List Dd)(z:List au):Prop where
 ob:z[L]?=some (.obj "Kept" (kF M t k a b))
 s:z[a]?=some (.lst (sd.reverse.map Dd.w))
 u:z[b]?=some (.lst (tk.reverse.map Dd.w))
 la:L≠a
 lb:L≠b
 ab:a≠b
 ls:sd.length<=1000
 lu:tk.length<=1000
def K3(L a b:Nat)(z z':List au):Prop:=z.length<=z'.length/\∀i,i<z.length->i≠L->i≠a->i≠b->z'[i]?=z[i]?
section
variable{M:Mc}{a b:Nat}{t:MT}{sd tk:List Dd}{d:Dd}
theorem JY(hM:ng M n)(hn:1<=n)(hd:d.ok)(hz:kg M L a b d.a k sd tk z)(hs:sd.length<1000):∃z',d_ [.loc L,d.w] z=.ok .non z'/\kg M L a z.length d.b (d.ct M) (d::sd) [] z'/\K3 L a b z z':=by
 have c1:=xF hM hn hd hz.ob
 have lL:=ec hz.ob
 have lA:=ec hz.s
 have lB:=ec hz.u
 have g1:(z.set L (.obj "Kept" (kF M d.b (d.ct M) a b)))[a]?=some (.lst (sd.reverse.map Dd.w)):=by rw[cQ hz.la];exact hz.s
 have g2:((z.set L (.obj "Kept" (kF M d.b (d.ct M) a b))).set a (.lst (sd.reverse.map Dd.w++[d.w])))[L]?=some (.obj "Kept" (kF M d.b (d.ct M) a b)):=by rw[cQ (Ne.symm hz.la)];exact fw hz.ob
 have hl:((z.set L (.obj "Kept" (kF M d.b (d.ct M) a b))).set a (.lst (sd.reverse.map Dd.w++[d.w]))).length=z.length:=by simp
 have e:qu ([.loc L,d.w].map some++List.replicate (2-2) none) z=.nx [lO L,some d.w] ((((z.set L (.obj "Kept" (kF M d.b (d.ct M) a b))).set a (.lst (sd.reverse.map Dd.w++[d.w])))++[au.lst []]).set L (.obj "Kept" (kF M d.b (d.ct M) a z.length))):=by
  refine c5 (dX (h_ kv hz.ob rfl kn rfl c1)) (c5 (dX (jV (dO kv (fw hz.ob) rfl) (d9 g1) kn (qA g1 (by simp;omega)))) ?_)
  rw[qC (f:="taken_back") (qj aQ (ao rfl)) kv (dJ g2) (ao rfl),hl]
  rfl
 have e2:=lc (N:=2) e
 generalize hz':(((z.set L (.obj "Kept" (kF M d.b (d.ct M) a b))).set a (.lst (sd.reverse.map Dd.w++[d.w])))++[au.lst []]).set L (.obj "Kept" (kF M d.b (d.ct M) a z.length))=z' at *
 have oL:z'[L]?=some (.obj "Kept" (kF M d.b (d.ct M) a z.length)):=by rw[<- hz'];exact fw (dJ g2)
 have oA:z'[a]?=some (.lst ((d::sd).reverse.map Dd.w)):=by
  rw[<- hz',cQ hz.la]
  refine dJ ?_
  rw[fw g1,cE,bH];rfl
 have oB:z'[z.length]?=some (.lst (([]:List Dd).reverse.map Dd.w)):=by
  rw[<- hz',cQ #[0],<- hl]
  exact dG
 rw[xE [] lL oL (by simp[kF,undWs,W.und]) (by rw[hz.ob];intro e;injection e with e;injection e with _ e;simp[kF]at e;omega)]at e2
 refine⟨z',e2,⟨oL,oA,oB,hz.la,by omega,by omega,by rw[b6];omega,by simp⟩,by rw[<- hz'];simp,fun i hi h1 h2 h3=>?_⟩
 rw[<- hz',cQ (Ne.symm h1),aR (by simpa using hi),cQ (Ne.symm h2),cQ (Ne.symm h1)]
theorem jo{z':List au}{t':MT}{k':Nat}{Ww QN:List Dd}(ws:List W)(hz:kg M L a b t k sd tk z)(h:kg M L a z.length t' k' Ww QN z'):iM z z' ws=z':=
 xE ws (ec hz.ob) h.ob (by simp[kF,undWs,W.und]) (by
  have:=ec hz.u
  rw[hz.ob];intro e;injection e with e;injection e with _ e;simp[kF]at e;omega)
theorem AH(C:List Fm)(l r:MT)(m m':List Nat)(h:#[1].size<=900)(st:List au):B9 [cb #[1].po,.int (pq C l r:Nat),.str m'] st=.ok (cb (bf C (.nd l r m')).po) st:=by
 have z1:=f_ C (.nd l r m) (by rw[MT.size_nd];omega)
 rw[MT.size_nd]at z1
 have hl:=MT.po_len #[1]
 have hq:pq C l r+1<=#[1].po.length:=by unfold pq;omega
 have e1:#[1].po.take (pq C l r)=pA C++(l.po++r.po):=by
  rw[dg,show pA C++(MT.nd l r m).po++pB C=(pA C++(l.po++r.po))++(⟨l.one+2*r.one,m⟩::pB C) by show pA C++(l.po++r.po++[_])++pB C=_;simp only[al];rfl]
  exact lX (by rw[ai,ai,MT.po_len,MT.po_len];unfold pq;omega)
 have e2:#[1].po.drop (pq C l r+1)=pB C:=by
  rw[dg]
  exact im (by rw[ai,MT.po_len,MT.size_nd];unfold pq;omega)
 have e3:(bf C (.nd l r m')).po=(pA C++(l.po++r.po))++[⟨l.one+2*r.one,m'⟩]++pB C:=by
  rw[dg];show pA C++(l.po++r.po++[_])++pB C=_;simp only[al]
 have hs:(bf C (.nd l r m')).po.length=#[1].po.length:=by rw[dg,dg];simp only[ai,MT.po_len,MT.size_nd]
 rw[e3]at hs
 have s1:=xy (a:=#[1].po) (q:=pq C l r) #[0] st
 have s2:=xz (a:=#[1].po) (q:=pq C l r+1) #[0] st
 rw[e1]at s1
 rw[e2]at s2
 rw[ai]at hs
 refine fv ?_ (by simp only[undWs,mB,dM])
 apply bQ
 ·exact bw (bw (nC kv tz (nz kv) s1) (eR (am (eR (am (bw (bw kv kv (tY (oV C l r m) st)) bJ (Qq _ st)) kn) (ao rfl)) aQ) (ao rfl)) (j' _ [⟨l.one+2*r.one,m'⟩] #[0] st)) (nC kv (nz (bw kv bJ dN)) tz s2) (j' _ _ (by rw[ai];omega) st)
 ·exact⟨_,_,rfl,by rw[e3],[],by simp⟩
theorem Fk(hM:ng M n)(hn:1<=n){C:List Fm}{l r:MT}{m':List Nat}(hd:(Dd.mk C l r m l r m' none).ok)(hz:kg M L a b #[1] k sd tk z)(hs:sd.length<1000):∃z',eU [.loc L,.int (pq C l r:Nat),.str m'] z=.ok .non z'/\kg M L a z.length (bf C (.nd l r m')) ((Dd.mk C l r m l r m' none).ct M) (Dd.mk C l r m l r m' none::sd) [] z'/\K3 L a b z z':=by
 obtain⟨z',e,h,h3⟩:=JY hM hn (d:=Dd.mk C l r m l r m' none) hd hz hs
 refine⟨z',?_,h,h3⟩
 rw[<- jo [] hz h]
 refine lc (N:=3) (ρ:=[lO L,iO (pq C l r:Nat),some (.str m')]) (dX (h_ kv hz.ob rfl (am (eR (am (dO kv hz.ob rfl) (am kv (am (bV (am (dO kv hz.ob rfl) (am kv kn)) (AH C l r m m' (by have:=hd.1;omega) z) rfl) (am kv (am bJ aQ))))) (ao rfl)) aQ) rfl e))
def rd(m:List Nat):Prop:=m.Pairwise (· < ·)/\∀c∈m,c∈LL
theorem Ei(hM:ng M n)(hn:1<=n){C:List Fm}{l r:MT}{c:Nat}(h1:#[1].size<=100)(h2:(bf C (.nd l r (g_ (m++[c])))).size<=100)(hm:∀d∈m,d∈LL)(Wc:m.length<=60)(hc:c∈LL)(hz:kg M L a b #[1] k sd tk z)(hs:sd.length<1000) :
  ∃z',kQ [.loc L,.int (pq C l r:Nat),.str [c]] z=.ok .non z'/\kg M L a z.length (bf C (.nd l r (g_ (m++[c])))) ((Dd.mk C l r m l r (g_ (m++[c])) none).ct M) (Dd.mk C l r m l r (g_ (m++[c])) none::sd) [] z'/\K3 L a b z z':=by
 obtain⟨z',e,h,h3⟩:=Fk hM hn (C:=C) (l:=l) (r:=r) (m:=m) (m':=g_ (m++[c])) ⟨h1,h2,fun _=>rfl,fun _=>rfl⟩ hz hs
 refine⟨z',?_,h,h3⟩
 have z1:=f_ C (.nd l r m) (by rw[MT.size_nd];omega)
 rw[MT.size_nd]at z1
 have hl:=MT.po_len #[1]
 have hml2:m.length<=nQ:=by show _<=1000000;omega
 have hcp:=xA (ps:=#[1].po) (q:=pq C l r) (by unfold pq;omega) z
 have io:=JE (l:=m++[c]) (by rw[ai,bu];omega) (fun d hd=>by
  rcases aV.mp hd with hd|hd
  ·exact hm d hd
  ·rw[aZ.mp hd];exact hc) z
 rw[<- jo [] hz h]
 refine lc (N:=3) (ρ:=[lO L,iO (pq C l r:Nat),some (.str [c])]) (c5 (dX (bV (am (dO kv hz.ob rfl) kn) hcp rfl)) (dX (h_ kv hz.ob rfl (am kv (am (bV (am (bw (bw (bw (dO kv hz.ob rfl) kv (tY (oV C l r m) z)) bJ (D6 _ z)) kv (DP (by show _<=1000000;simp;omega))) aQ) io rfl) aQ)) rfl e)))
theorem CG(hM:ng M n)(hn:1<=n){C:List Fm}{l r:MT}{c:Nat}(h1:#[1].size<=100)(h2:(bf C (.nd l r (m.filter fun d=>d != c))).size<=100)(Wc:m.length<=60)(hz:kg M L a b #[1] k sd tk z)(hs:sd.length<1000) :
  ∃z',jP [.loc L,.int (pq C l r:Nat),.str [c]] z=.ok .non z'/\kg M L a z.length (bf C (.nd l r (m.filter fun d=>d != c))) ((Dd.mk C l r m l r (m.filter fun d=>d != c) none).ct M) (Dd.mk C l r m l r (m.filter fun d=>d != c) none::sd) [] z'/\K3 L a b z z':=by
 obtain⟨z',e,h,h3⟩:=Fk hM hn (C:=C) (l:=l) (r:=r) (m:=m) (m':=m.filter fun d=>d != c) ⟨h1,h2,fun _=>rfl,fun _=>rfl⟩ hz hs
 refine⟨z',?_,h,h3⟩
 have z1:=f_ C (.nd l r m) (by rw[MT.size_nd];omega)
 rw[MT.size_nd]at z1
 have hl:=MT.po_len #[1]
 have hml2:m.length<=nQ:=by show _<=1000000;omega
 have hcp:=xA (ps:=#[1].po) (q:=pq C l r) (by unfold pq;omega) z
 rw[<- jo [] hz h]
 refine lc (N:=3) (ρ:=[lO L,iO (pq C l r:Nat),some (.str [c])]) (c5 (dX (bV (am (dO kv hz.ob rfl) kn) hcp rfl)) (dX (h_ kv hz.ob rfl (am kv (am (Po (bw (bw (dO kv hz.ob rfl) kv (tY (oV C l r m) z)) bJ (D6 _ z)) kv hml2) aQ)) rfl e)))
theorem GC(hM:ng M n)(hn:1<=n){C:List Fm}{l r x:MT}{s:Bool}(h1:#[1].size<=100)(hx:x.size<=100)(h2:(bf C #[14]).size<=100)(hz:kg M L a b #[1] k sd tk z)(hs:sd.length<1000) :
  ∃z',iq [.loc L,.int (pq C l r:Nat),vz s,cb x.po] z=.ok .non z'/\kg M L a z.length (bf C #[14]) ((Dd.mk C l r m (if s then x else l) (if s then r else x) m (some s)).ct M) (Dd.mk C l r m (if s then x else l) (if s then r else x) m (some s)::sd) [] z'/\K3 L a b z z':=by
 obtain⟨z',e,h,h3⟩:=JY hM hn (d:=Dd.mk C l r m (if s then x else l) (if s then r else x) m (some s)) ⟨h1,h2,fun e=>by cases s<;>first|rfl|exact absurd rfl e,fun e=>by cases s<;>first|rfl|exact absurd rfl e⟩ hz hs
 refine⟨z',?_,h,h3⟩
 have z1:=f_ C (.nd l r m) (by rw[MT.size_nd];omega)
 have z2:=f_ C #[14] (by rw[MT.size_nd];omega)
 rw[MT.size_nd]at z1 z2
 have hl:=MT.po_len #[1]
 have hl2:=MT.po_len (bf C #[14])
 have hxl:=MT.po_len x
 have pb:=QB (oth:=x.po) #[1].gr0 #[0] #[0] (Cz C l r m) s z (by rw[CC];omega)
 rw[CC]at pb
 have n1:=gR (bf C #[14]).po z
 have n2:=gR #[1].po z
 have hq:(pq C l r:Int)+((bf C #[14]).po.length:Nat)-(#[1].po.length:Nat)=(pq C (if s then x else l) (if s then r else x):Nat):=by
  rw[dg,dg]
  simp only[ai,MT.po_len,MT.size_nd]
  unfold pq
  omega
 rw[<- jo [] hz h]
 refine lc (N:=5) (ρ:=[lO L,iO (pq C l r:Nat),some (vz s),some (cb x.po),some (cb (bf C #[14]).po)]) (c5 (bb (bV (am (dO kv hz.ob rfl) (am kv (am kv kn))) pb rfl)) (dX (h_ (ws:=[(Dd.mk C l r m (if s then x else l) (if s then r else x) m (some s)).w]) kv hz.ob rfl (am ?_ aQ) rfl e)))
 show _=R.ok (W.tup [cb #[1].po,.int (pq C l r:Nat),cb (bf C #[14]).po,.int (pq C (if s then x else l) (if s then r else x):Nat),vz s]) z
 rw[<- hq]
 exact eR (am (dO kv hz.ob rfl) (am kv (am kv (am (bw (bw kv (cr kn n1) dN) (cr (am (dO kv hz.ob rfl) aQ) n2) rfl) kn)))) (ao rfl)
theorem xG(hM:ng M n)(hn:1<=n){x:MT}(h1:t.size<=100)(hx:x.size<=100)(hz:kg M L a b t k sd tk z)(hs:sd.length<1000) :
  ∃z',gl [.loc L,cb x.po] z=.ok .non z'/\kg M L a z.length x x.size (Dd.wh t x::sd) [] z'/\K3 L a b z z':=by
 obtain⟨z',e,h,h3⟩:=JY hM hn (d:=Dd.wh t x) ⟨h1,hx⟩ hz hs
 refine⟨z',?_,h,h3⟩
 rw[<- jo [] hz h]
 exact lc (N:=2) (ρ:=[lO L,some (cb x.po)]) (dX (h_ kv hz.ob rfl (am (eR (am (dO kv hz.ob rfl) (am bJ (am kv (am bJ (am bJ aQ))))) (ao rfl)) aQ) rfl e))
end
section
variable{M:Mc}{a b:Nat}{t:MT}{sd tk:List Dd}{d:Dd}
theorem GD(d:Dd)(st:List au):B8 [d.w] st=.ok d.tn.w st:=by
 cases d with
 |mk C l r m l' r' m' s=>
  apply fj
  apply bQ
  ·exact eR (am kx (am kx (am kx (am kx (am kx aQ))))) (ao rfl)
  ·exact⟨_,_,rfl,rfl,rfl⟩
 |wh t t'=>
  apply fj
  apply bQ
  ·exact eR (am kx (am kx (am kx (am kx (am kx aQ))))) (ao rfl)
  ·exact⟨_,_,rfl,rfl,rfl⟩
theorem Fl(hM:ng M n)(hn:1<=n)(hd:d.ok)(hz:kg M L a b d.b k (d::sd) tk z)(hs:tk.length<1000):∃z',gn [.loc L] z=.ok .non z'/\kg M L a b d.a (d.tn.ct M) sd (d::tk) z'/\K3 L a b z z'/\z'.length=z.length:=by
 have hsr:z[a]?=some (.lst (sd.reverse.map Dd.w++[d.w])):=by rw[hz.s,cE,bH];rfl
 have oL:(z.set a (.lst (sd.reverse.map Dd.w)))[L]?=some (.obj "Kept" (kF M d.tn.a k a b)):=by rw[cQ (Ne.symm hz.la),Dd.tn_a];exact hz.ob
 have c1:=xF hM hn (Dd.tn_ok hd) oL
 rw[Dd.tn_b]at c1
 have oB:((z.set a (.lst (sd.reverse.map Dd.w))).set L (.obj "Kept" (kF M d.a (d.tn.ct M) a b)))[b]?=some (.lst (tk.reverse.map Dd.w)):=by rw[cQ hz.lb,cQ hz.ab];exact hz.u
 have e:qv ([.loc L].map some++List.replicate (2-1) none) z=.nx [lO L,some d.w] (((z.set a (.lst (sd.reverse.map Dd.w))).set L (.obj "Kept" (kF M d.a (d.tn.ct M) a b))).set b (.lst (tk.reverse.map Dd.w++[d.w]))):=
  c5 (cC (aY (bw (cr (am (dO kv hz.ob rfl) aQ) (oI (bY hsr))) bJ (gk (by simp;omega)))) c_)
   (c5 (bb (jV (dO kv hz.ob rfl) (d9 hsr) aQ (BK hsr))) (c5 (dX (h_ kv oL rfl (am (bV kn (GD d _) rfl) aQ) rfl c1))
    (dX (jV (dO kv (fw oL) rfl) (d9 oB) kn (qA oB (by simp;omega))))))
 have e2:=lc (N:=2) e
 rw[mq #[15]]at e2
 refine⟨_,e2,⟨?_,?_,?_,hz.la,hz.lb,hz.ab,by have:=hz.ls;rw[b6]at this;omega,by rw[b6];omega⟩,⟨by simp,fun i hi h1 h2 h3=>?_⟩,by simp⟩
 ·rw[cQ (Ne.symm hz.lb)];exact fw oL
 ·rw[cQ (Ne.symm hz.ab),cQ hz.la];exact fw hsr
 ·rw[fw oB,cE,bH];rfl
 ·rw[cQ (Ne.symm h3),cQ (Ne.symm h1),cQ (Ne.symm h2)]
theorem JZ(hM:ng M n)(hn:1<=n)(hd:d.ok)(hz:kg M L a b d.a k sd (d::tk) z)(hs:sd.length<1000):∃z',hZ [.loc L] z=.ok .non z'/\kg M L a b d.b (d.ct M) (d::sd) tk z'/\K3 L a b z z'/\z'.length=z.length:=by
 have hsr:z[b]?=some (.lst (tk.reverse.map Dd.w++[d.w])):=by rw[hz.u,cE,bH];rfl
 have oL:(z.set b (.lst (tk.reverse.map Dd.w)))[L]?=some (.obj "Kept" (kF M d.a k a b)):=by rw[cQ (Ne.symm hz.lb)];exact hz.ob
 have c1:=xF hM hn hd oL
 have oA:((z.set b (.lst (tk.reverse.map Dd.w))).set L (.obj "Kept" (kF M d.b (d.ct M) a b)))[a]?=some (.lst (sd.reverse.map Dd.w)):=by rw[cQ hz.la,cQ (Ne.symm hz.ab)];exact hz.s
 have e:oP ([.loc L].map some++List.replicate (2-1) none) z=.nx [lO L,some d.w] (((z.set b (.lst (tk.reverse.map Dd.w))).set L (.obj "Kept" (kF M d.b (d.ct M) a b))).set a (.lst (sd.reverse.map Dd.w++[d.w]))):=
  c5 (cC (aY (bw (cr (am (dO kv hz.ob rfl) aQ) (oI (bY hsr))) bJ (gk (by simp;omega)))) c_)
   (c5 (bb (jV (dO kv hz.ob rfl) (d9 hsr) aQ (BK hsr))) (c5 (dX (h_ kv oL rfl kn rfl c1))
    (dX (jV (dO kv (fw oL) rfl) (d9 oA) kn (qA oA (by simp;omega))))))
 have e2:=lc (N:=2) e
 rw[mq #[15]]at e2
 refine⟨_,e2,⟨?_,?_,?_,hz.la,hz.lb,hz.ab,by rw[b6];omega,by have:=hz.lu;rw[b6]at this;omega⟩,⟨by simp,fun i hi h1 h2 h3=>?_⟩,by simp⟩
 ·rw[cQ (Ne.symm hz.la)];exact fw oL
 ·rw[fw oA,cE,bH];rfl
 ·rw[cQ hz.ab,cQ hz.lb];exact fw hsr
 ·rw[cQ (Ne.symm h2),cQ (Ne.symm h1),cQ (Ne.symm h3)]
theorem kg.app{x:List au}(h:kg M L a b t k sd tk z):kg M L a b t k sd tk (z++x):=⟨dJ h.ob,dJ h.s,dJ h.u,h.la,h.lb,h.ab,h.ls,h.lu⟩
theorem Fp(hM:ng M n)(hn:1<=n)(ht:t.size<=900)(z:List au):∃z',fZ [.loc z.length,M.w,cb t.po] (z++[.obj "Kept" []])=.ok .non z'/\kg M z.length (z.length+1) (z.length+2) t t.size [] [] z'/\z <+: z':=by
 have rm:=t8 hM hn t ht
 have ln:=gR t.po
 rw[MT.po_len]at ln
 have sx:∀(c:au) (y:List au),(z++c::y)[z.length]?=some c:=fun c y=>by rw[dR];rfl
 have ss:∀(c d:au) (y:List au),(z++c::y).set z.length d=z++d::y:=fun c d y=>by rw[fY];rfl
 have e:pN ([.loc z.length,M.w,cb t.po].map some++List.replicate (3-3) none) (z++[.obj "Kept" []])=.nx [lO z.length,some M.w,some (cb t.po)] (z++[.obj "Kept" (kF M t t.size (z.length+1) (z.length+2)),.lst [],.lst []]):=by
  have F:∀{f:Str} {fe:FE} {ρ:cW} {fl:List (Str×W)} {y:List au} {w:W} {y':List au},ρ[0]?=some (lO z.length)->fl.length<900->fe ρ (z++.obj "Kept" fl::y)=.ok w (z++.obj "Kept" fl::y')->qi "Kept" f (ag 0) fe ρ (z++.obj "Kept" fl::y)=.nx ρ (z++.obj "Kept" (ya f w fl)::y'):=fun h hl h1=>by
   rw[qC h1 (kB h) (sx _ _) hl,ss]
  refine c5 (F rfl (ao rfl) kv) (c5 (F rfl (ao rfl) kv) (c5 (F rfl (ao rfl) (bV (am kv kn) (rm _) rfl)) (c5 (F rfl (ao rfl) (cr kn (ln _))) (c5 (F (w:=.loc (z.length+1)) (y':=[.lst []]) rfl (ao rfl) ?_) ?_))))
  ·rw[qj aQ (ao rfl),al];simp
  ·rw[F (w:=.loc (z.length+2)) (y':=[.lst [],.lst []]) rfl (ao rfl) (by rw[qj aQ (ao rfl),al];simp)]
   rfl
 have e2:=lc (N:=3) e
 have oL:(z++[.obj "Kept" (kF M t t.size (z.length+1) (z.length+2)),.lst [],.lst []])[z.length]?=some (.obj "Kept" (kF M t t.size (z.length+1) (z.length+2))):=sx _ _
 rw[xE (L:=z.length) [] #[15] oL (by simp[kF,undWs,W.und]) (by rw[sx];intro e;injection e with e;injection e with _ e;simp[kF]at e)]at e2
 exact⟨_,e2,⟨oL,by rw[iD];rfl,by rw[iD];rfl,by omega,by omega,by omega,by simp,by simp⟩,a_ _ _⟩
theorem CH(hz:kg M L a b t k sd tk z):gQ [.loc L] z=.ok (gB (t.rT M)) z:=by
 apply fj
 apply bQ
 ·exact dO kv hz.ob rfl
 ·exact⟨_,_,rfl,rfl,rfl⟩
theorem Ej(hz:kg M L a b t k sd tk z):ii [.loc L] z=.ok (cb t.po) z:=by
 apply fj
 apply bQ
 ·exact dO kv hz.ob rfl
 ·exact⟨_,_,rfl,rfl,rfl⟩
theorem Ek(hM:ng M n)(hn:1<=n)(hz:kg M L a b t k sd tk z):ij [.loc L] z=.ok (.bl (M.gd.getD (t.tR M) false)) z:=by
 have g1:bv M.w (.int 1) z=.ok (.tup (M.gd.map W.bl)) z:=rfl
 have nl:=AG (t.rT M) z
 rw[MT.rT_len]at nl
 have gi:=JD hM (t.tR_lt hM hn) z
 apply fj
 apply bQ
 ·by_cases h:0<t.size
  ·have lx:bv (gB (t.rT M)) (.int (-1)) z=.ok (.int (t.tR M:Nat)) z:=by
    refine nV (q:=-(((0:Nat):Int)+1)) (w4 ?_)
    have:=MT.rT_top M t h
    rw[fU (by rw[aE,MT.rT_len];exact h),aE,MT.rT_len,aG,show t.size-1-0=t.size-1 from rfl,lh 0 (by rw[MT.rT_len];omega),this];rfl
   exact bw (bw (dO kv hz.ob rfl) bJ g1) (tu (aY (bw (cr (am (dO kv hz.ob rfl) aQ) nl) bJ (lY (by simp;omega)))) (bw (dO kv hz.ob rfl) (vq bJ) lx)) gi
  ·have h0:t.tR M=0:=by
    cases t with
    |nil=>rfl
    |nd l r m=>rw[MT.size_nd]at h;omega
   rw[h0]at gi
   rw[h0]
   exact bw (bw (dO kv hz.ob rfl) bJ g1) (tw (aY (bw (cr (am (dO kv hz.ob rfl) aQ) nl) bJ (lY (by simp;omega)))) bJ) gi
 ·exact⟨_,_,rfl,rfl,rfl⟩
theorem L9(M:Mc)(t:MT):L0 M t.po (t.lkT 0)=M.gd.getD (t.tR M) false:=by
 unfold L0 Cv
 rw[MT.rooms_po,MT.po_len]
 by_cases h:0<t.size
 ·rw[aK h,MT.rT_top M t h]
 ·rw[aU h]
  cases t with
  |nil=>rfl
  |nd l r m=>rw[MT.size_nd]at h;omega
theorem TN(t:MT)(h:t.size<=1000):Sm (cb t.po):=fun st=>t6 (k:=39) (by rw[aE,MT.po_len];exact h) fun w hw=>by
 obtain⟨p,_,rfl⟩:=c8.mp hw
 refine t6 (k:=38) #[15] fun w hw=>?_
 simp only[aX,eW,mO]at hw
 rcases hw with rfl|rfl
 ·exact Ct _ 37 _
 ·exact Cr _ 37 _
theorem qZ(hM:ng M n)(hn:1<=n)(ht:t.size<=900)(hz:kg M L a b t k sd tk z)(q:Int):qx [.loc L,M.w,cb t.po,.int q] z=.ok (.bl true) z:=by
 refine fv ?_ rfl
 refine gD (fun i ρ bh=>∃(o4 o5:Option W) (x:List au),ρ=[lO L,some M.w,some (cb t.po),iO q,o4,o5]/\bh=z++x) (j9 (am bJ aQ) #[3])
  ⟨none,none,[],rfl,(a8 _).symm⟩ (fun _ _ _ _=>trivial) ?_ ?_
 ·rintro i w ρ bh hw ⟨o4,o5,x,rfl,rfl⟩
  obtain⟨hi,rfl⟩:=kL hw
  obtain⟨j,hj,ej⟩:=hX (q:=q+(0+(i:Int))) (n:=3) #[0]
  have ej:(q+(0+(i:Int)))%3=(j:Int):=ej
  refine⟨_,rfl,?_⟩
  apply az
  ·exact bb (w:=.int (j:Nat)) (by rw[<- ej];exact bw (bw kv kv dN) bJ (jn #[3]))
  have hzx:=hz.app (x:=x)
  have no:∀(v:Nat) (gM:FT) (s:List au),v≠j->KA (eP (e2 kz (ag 5) (eC (.int (v:Nat))))) gM [lO L,some M.w,some (cb t.po),iO q,some (.int (0+(i:Int))),iO (j:Nat)] s=.ok false s:=fun v gM s h=>zX (aY (bw kv bJ (gk (by rw[bq];omega))))
  have rl:=MT.rT_len M t
  obtain rfl|rfl|rfl:j=0\/j=1\/j=2:=by omega
  ·obtain⟨y,ey,hy⟩:=Fi t.gr0 (by rw[MT.po_len];exact ht) hM hn (z++x)
   rw[MT.rooms_po]at hy
   apply bD
   ·exact tt (aY (bw kv bJ (gk rfl))) (nU (aY (bV (am (h_ kv hzx.ob rfl aQ rfl (CH hzx)) (am (cr (am (bV (am kv kn) ey rfl) aQ) (oJ (bY (by rw[iD];exact hy)))) aQ)) (Qu (t.rT M) #[0] _) rfl)) rfl)
   apply bW
   apply bD
   ·exact no 1 _ _ #[3]
   apply bW
   apply m9
   ·exact no 2 _ _ #[3]
   ·exact⟨_,_,rfl,_,_,x++y,rfl,(al _ _ _)⟩
  ·have le:=JL t.gr0 (by rw[MT.po_len];exact ht) hM hn (z++x)
   rw[L9]at le
   apply bD
   ·exact no 0 _ _ #[3]
   apply bW
   apply bD
   ·exact tt (aY (bw kv bJ (gk rfl))) (nU (aY (bV (am (h_ kv hzx.ob rfl aQ rfl (Ek hM hn hzx)) (am (bV (am kv kn) le rfl) aQ)) (TH _ _) rfl)) rfl)
   apply bW
   apply m9
   ·exact no 2 _ _ #[3]
   ·exact⟨_,_,rfl,_,_,x,rfl,rfl⟩
  ·apply bD
   ·exact no 0 _ _ #[3]
   apply bW
   apply bD
   ·exact no 1 _ _ #[3]
   apply bW
   apply m9
   ·exact tt (aY (bw kv bJ (gk rfl))) (nU (aY (bV (am (h_ kv hzx.ob rfl aQ rfl (Ej hzx)) kn) (TN t #[0] _) rfl)) rfl)
   ·exact⟨_,_,rfl,_,_,x,rfl,rfl⟩
 ·rintro ρ bh ⟨o4,o5,x,rfl,rfl⟩
  apply bQ
  ·exact bJ
  ·exact⟨_,_,rfl,rfl,x,rfl⟩
end
noncomputable def KF(sz:List Nat):Option Nat->Nat
 |none=>0
 |some j=>sz.getD j 0
section
variable{ps:List Pl}{sz:List Nat}{lk:List #[8]}
theorem Gr.szl(h:Gr ps S sz lk)(hi:i<ps.length):∃x,lk[i]?=some x/\Jy i x/\sz[i]?=some (1+KF (sz.take i) x.1+KF (sz.take i) x.2):=by
 obtain⟨S1,S2,p,k,x,g1,q1,q2,q3,hs,g2⟩:=h.step i hi
 obtain⟨lz,ll,ha⟩:=g1.ok
 rw[show(ps.take i).length=i by rw[aF];omega]at ha
 refine⟨x,q3,h.lk q3,?_⟩
 rw[q2]
 congr 1
 have g:∀{j a:Nat},(sz.take i)[j]?=some a->KF (sz.take i) (some j)=a:=fun e=>by show List.getD _ _ _=_;rw[aI,e];rfl
 obtain⟨b,m⟩:=p
 cases hs with
 |z=>rfl
 |l=>rw[g ha.1];rfl
 |r=>rw[g ha.1];show _=1+0+_;omega
 |b=>
  have:=ha.2.2.2.1
  rw[g ha.1,show ∀c,i-1-c=i-c-1 by omega,g this];omega
theorem GE(h:Gr ps S sz lk)(hn:ps.length<=900){p:Nat}(hp:st[p]?=some (.lst (lk.map jF))):Ch [.loc p] st=.ok #[5] (st++[.lst (cZ sz)]):=by
 obtain⟨l1,l2,_⟩:=h.ok
 have hh:k_ (A9 fun w bh=>∃j x,w=.loc (st.length+j)/\bh=st++x/\j=0/\x=[.lst (cZ sz)]) (Nu ([W.loc p].map some++List.replicate (5-1) none) st):=by
  apply az
  ·exact bb (qj aQ (ao rfl))
  refine gD (fun i ρ bh=>∃(o2 o3 o4:Option W),ρ=[lO p,lO st.length,o2,o3,o4]/\bh=st++[.lst (cZ (sz.take i))]) (z_ kv (bY (dJ hp))) ⟨none,none,none,rfl,rfl⟩ (fun i ρ bh hI=>?_) ?_ ?_
  ·obtain⟨o2,o3,o4,rfl,rfl⟩:=hI
   exact bY (dJ hp)
  ·rintro i w ρ bh hw ⟨o2,o3,o4,rfl,rfl⟩
   have hw:(lk.map jF)[i]?=some w:=hw
   obtain⟨x0,hx0,rfl⟩:=by rw[aG]at hw;exact fE.mp hw
   have hil:i<lk.length:=(ax.mp hx0).1
   obtain⟨x,hx,lkx,hz⟩:=h.szl (show i<ps.length by omega)
   rw[hx0]at hx;cases hx
   have ht:(sz.take i).length=i:=by rw[aF];omega
   have get:∀k:Nat,k<i->bv #[5] (.int k) #[16]=.ok (.int ((sz.take i).getD k 0:Nat)) #[16]:=fun k hk=>zi [] (lh 0 #[0])
   have ap:=JG (st:=st) (z:=sz.take i) (1+KF (sz.take i) x0.1+KF (sz.take i) x0.2) #[0]
   rw[<- V7 hz]at ap
   have isl:mw #[16] #[5]=true:=d9 dG
   refine⟨[lO p,lO st.length,some (oW x0.1),some (oW x0.2),o4],rfl,?_⟩
   apply az
   ·exact bb bJ
   have e1:gA (eP (iC (ag 2))) (bd 4 (e2 cO (ag 4) (e2 bv (ag 1) (ag 2)))) bX [lO p,lO st.length,some (oW x0.1),some (oW x0.2),iO 1] #[16]=.nx [lO p,lO st.length,some (oW x0.1),some (oW x0.2),iO (1+KF (sz.take i) x0.1:Nat)] #[16]:=by
    obtain⟨a,b⟩:=x0
    cases a with
    |none=>exact cC (aY (fB kv rfl)) rfl
    |some j=>rw[gf];exact dh (aY (fB kv rfl)) (bb (bw kv (bw kv kv (get j (lkx.1 j rfl))) dN))
   apply az
   ·exact e1
   have e2:gA (eP (iC (ag 3))) (bd 4 (e2 cO (ag 4) (e2 bv (ag 1) (ag 3)))) bX [lO p,lO st.length,some (oW x0.1),some (oW x0.2),iO (1+KF (sz.take i) x0.1:Nat)] #[16]=.nx [lO p,lO st.length,some (oW x0.1),some (oW x0.2),iO (1+KF (sz.take i) x0.1+KF (sz.take i) x0.2:Nat)] #[16]:=by
    obtain⟨a,b⟩:=x0
    cases b with
    |none=>exact cC (aY (fB kv rfl)) rfl
    |some j=>rw[gf _ (KF _ _)];exact dh (aY (fB kv rfl)) (bb (bw kv (bw kv kv (get j (lkx.2 j rfl))) dN))
   apply az
   ·exact e2
   apply dm
   ·exact dX (jV kv isl kn ap)
   ·exact⟨_,_,rfl,_,_,_,rfl,rfl⟩
  ·rintro ρ bh ⟨o2,o3,o4,rfl,rfl⟩
   apply bQ
   ·exact kB rfl
   ·refine⟨_,_,rfl,0,_,rfl,rfl,rfl,?_⟩
    rw[show((lk.map jF,some (p,lk.map jF)):List W×Option (Nat×List W)).1.length=sz.length by show(lk.map jF).length=_;rw[aE];omega,bn (aA _)]
 obtain⟨j,x,⟨rfl,rfl⟩,e⟩:=vW hh
 exact e
end
theorem MT.sz_top:∀t:MT,0<t.size->t.szT[t.size-1]?=some t.size
 |.nil,h=>absurd h (by decide)
 |.nd l r m,_=>by
  rw[MT.size_nd]
  show(l.szT++r.szT++[_])[_]?=_
  rw[aS (by rw[ai,MT.sz_len,MT.sz_len];omega),ai,MT.sz_len,MT.sz_len,show l.size+r.size+1-1-(l.size+r.size)=0 by omega];rfl
section
theorem QH{C:List Fm}{l r:MT}{m:List Nat}:(0<l.size->#[1].szT[(pA C).length+l.size-1]?=some l.size)/\(0<r.size->#[1].szT[(pA C).length+l.size+r.size-1]?=some r.size):=by
 obtain⟨u,w,e,hu⟩:=v5 C (.nd l r m)
 have e2:#[1].szT=u++(l.szT++(r.szT++([l.size+r.size+1]++w))):=by rw[e];show u++(l.szT++r.szT++[_])++w=_;simp only[al]
 rw[e2]
 refine⟨fun h=>?_,fun h=>?_⟩
 ·rw[aS #[0],aR (by rw[MT.sz_len];omega),hu,show(pA C).length+l.size-1-(pA C).length=l.size-1 by omega,MT.sz_top l h]
 ·rw[aS #[0],aS (by rw[MT.sz_len];omega),aR (by rw[MT.sz_len,MT.sz_len];omega),hu,MT.sz_len,show(pA C).length+l.size+r.size-1-(pA C).length-l.size=r.size-1 by omega,MT.sz_top r h]
theorem GF(C:List Fm)(l r:MT)(m:List Nat)(h:#[1].size<=900)(st:List au):Ci [cb #[1].po,.int (pq C l r:Nat)] st=.ok (.tup [.int ((pA C).length:Nat),.int ((pA C).length+l.size:Nat)]) st:=by
 have hg:=#[1].gr0
 have hl:=MT.po_len #[1]
 obtain⟨x,⟨A,rfl⟩,el⟩:=Gu hg #[0] st
 have c1:(st++[au.lst A,.lst ((#[1].lkT 0).map jF)])[st.length+1]?=some (.lst ((#[1].lkT 0).map jF)):=by rw[iD];rfl
 have es:=GE hg #[0] c1
 generalize hs1:st++[au.lst A,.lst ((#[1].lkT 0).map jF)]=s1 at *
 have hx:=v8 C l r m
 obtain⟨zl,zr⟩:=QH (C:=C) (l:=l) (r:=r) (m:=m)
 have lx:∀(s:List au),s[st.length+1]?=some (.lst ((#[1].lkT 0).map jF))->bv (.loc (st.length+1)) (.int (pq C l r:Nat)) s=.ok (jF (l.tp (pA C).length,r.tp ((pA C).length+l.size))) s:=fun s hs=>jO (bY hs) (fX (by rw[aG];unfold pq;rw[hx];rfl))
 have c2:(s1++[.lst (cZ #[1].szT)])[st.length+1]?=some (.lst ((#[1].lkT 0).map jF)):=dJ c1
 have lx2:=lx _ c2
 have sx:∀{j a:Nat},#[1].szT[j]?=some a->bv (.loc s1.length) (.int j) (s1++[.lst (cZ #[1].szT)])=.ok (.int a) (s1++[.lst (cZ #[1].szT)]):=fun e=>zi [] e
 have x0:bv (jF (l.tp (pA C).length,r.tp ((pA C).length+l.size))) (.int 0) (s1++[.lst (cZ #[1].szT)])=.ok (oW (l.tp (pA C).length)) (s1++[.lst (cZ #[1].szT)]):=rfl
 have x1:bv (jF (l.tp (pA C).length,r.tp ((pA C).length+l.size))) (.int 1) (s1++[.lst (cZ #[1].szT)])=.ok (oW (r.tp ((pA C).length+l.size))) (s1++[.lst (cZ #[1].szT)]):=rfl
 generalize u8:s1++[au.lst (cZ #[1].szT)]=s2 at *
 generalize hT:cb #[1].po=T at *
 have tpn:∀(t:MT) (o:Nat),(t.size=0/\t.tp o=none)\/(0<t.size/\t.tp o=some (o+t.size-1)):=fun t o=>by
  cases t with
  |nil=>exact .inl ⟨rfl,rfl⟩
  |nd a b c=>exact .inr ⟨by rw[MT.size_nd];omega,MT.tp_nd a b c o⟩
 have e4:gA (eP (iC (e2 bv (e2 bv (ag 2) (ag 1)) (eI 1)))) (bd 4 (e2 lF (ag 1) (e2 bv (ag 3) (e2 bv (e2 bv (ag 2) (ag 1)) (eI 1))))) bX [some T,iO (pq C l r:Nat),lO (st.length+1),lO s1.length,iO (pq C l r:Nat),none] s2=.nx [some T,iO (pq C l r:Nat),lO (st.length+1),lO s1.length,iO ((pA C).length+l.size:Nat),none] s2:=by
  rcases tpn r ((pA C).length+l.size)with⟨h0,e⟩|⟨h0,e⟩
  ·rw[e]at x1 lx2
   rw[show pq C l r=(pA C).length+l.size by unfold pq;omega]at lx2 ⊢
   exact cC (aY (fB (bw (bw kv kv lx2) bJ x1) rfl)) rfl
  ·rw[e]at x1 lx2
   have:((pA C).length+l.size:Nat)=((pq C l r:Nat):Int)-(r.size:Nat):=by unfold pq;omega
   rw[this]
   exact dh (aY (fB (bw (bw kv kv lx2) bJ x1) rfl)) (bb (bw kv (bw kv (bw (bw kv kv lx2) bJ x1) (sx (zr h0))) rfl))
 have e5:gA (eP (iC (e2 bv (e2 bv (ag 2) (ag 1)) (eI 0)))) (bd 5 (e2 lF (ag 4) (e2 bv (ag 3) (e2 bv (e2 bv (ag 2) (ag 1)) (eI 0))))) bX [some T,iO (pq C l r:Nat),lO (st.length+1),lO s1.length,iO ((pA C).length+l.size:Nat),iO ((pA C).length+l.size:Nat)] s2=.nx [some T,iO (pq C l r:Nat),lO (st.length+1),lO s1.length,iO ((pA C).length+l.size:Nat),iO ((pA C).length:Nat)] s2:=by
  rcases tpn l (pA C).length with⟨h0,e⟩|⟨h0,e⟩
  ·rw[e]at x0 lx2
   rw[show(pA C).length+l.size=(pA C).length by omega]at lx2 x0 ⊢
   exact cC (aY (fB (bw (bw kv kv lx2) bJ x0) rfl)) rfl
  ·rw[e]at x0 lx2
   have:((pA C).length:Nat)=(((pA C).length+l.size:Nat):Int)-(l.size:Nat):=by omega
   refine(dh (aY (fB (bw (bw kv kv lx2) bJ x0) rfl)) (bb (bw kv (bw kv (bw (bw kv kv lx2) bJ x0) (sx (zl h0))) rfl))).trans ?_
   rw[this];rfl
 refine fv ?_ rfl
 apply az
 ·exact bb (bV kn el rfl)
 apply az
 ·exact bb (bV kn es rfl)
 apply az
 ·exact bb kv
 apply az
 ·exact e4
 apply az
 ·exact bb kv
 apply az
 ·exact e5
 apply bQ
 ·exact eR (am kv kn) (ao rfl)
 ·exact⟨_,_,rfl,rfl,_,by rw[<- u8,<- hs1,al]⟩
theorem TQ(a:List Pl)(st:List au):Gf [.bl (decide ((0:Int)<(a.length:Int)))] st=.ok (.int (qX a:Nat)) st:=by
 by_cases h:0<a.length
 ·rw[bG #[0]];unfold qX;rw[aK h];rfl
 ·rw[a7 #[0]];unfold qX;rw[aU h];rfl
theorem CI(C:List Fm)(l r x:MT)(m:List Nat)(s:Bool)(h:#[1].size<=900)(hx:x.size<=900)(st:List au):Cj [cb #[1].po,.int (pq C l r:Nat),vz s,cb x.po] st=.ok (cb (bf C #[14]).po) st:=by
 have z1:=f_ C (.nd l r m) (by rw[MT.size_nd];omega)
 rw[MT.size_nd]at z1
 have hl:=MT.po_len #[1]
 have hxl:=MT.po_len x
 have b:=GF C l r m h st
 have c1:=D' (a:=#[1].po) (i:=(pA C).length) (j:=(pA C).length+l.size) #[0] #[0] st
 have c2:=D' (a:=#[1].po) (i:=(pA C).length+l.size) (j:=pq C l r) (by unfold pq;omega) (by unfold pq;omega) st
 have d1:(#[1].po.drop (pA C).length).take ((pA C).length+l.size-(pA C).length)=l.po:=by
  rw[dg,show(MT.nd l r m).po=l.po++(r.po++[⟨l.one+2*r.one,m⟩])from al _ _ _]
  exact v9 (q:=0) rfl (by rw[MT.po_len];omega)
 have d2:(#[1].po.drop ((pA C).length+l.size)).take (pq C l r-((pA C).length+l.size))=r.po:=by
  rw[dg,show pA C++(MT.nd l r m).po++pB C=(pA C++l.po)++(r.po++[⟨l.one+2*r.one,m⟩])++pB C by show pA C++(l.po++r.po++_)++_=_;simp only[al]]
  exact v9 (q:=0) (by rw[ai,MT.po_len]) (by rw[MT.po_len];unfold pq;omega)
 rw[d1]at c1
 rw[d2]at c2
 have w1:#[1].po.take (pA C).length=pA C:=by rw[dg,al,gZ]
 have w2:#[1].po.drop (pq C l r+1)=pB C:=by
  rw[dg]
  exact im (by rw[ai,MT.po_len,MT.size_nd];unfold pq;omega)
 have s1:=xy (a:=#[1].po) (q:=(pA C).length) #[0] st
 have s2:=xz (a:=#[1].po) (q:=pq C l r+1) (by unfold pq;omega) st
 rw[w1]at s1
 rw[w2]at s2
 have s2:wG (cb #[1].po) (some ((pq C l r:Int)+1)) none st=.ok (cb (pB C)) st:=s2
 have hB:(pB C).length<=900:=by rw[<- w2,cm];omega
 have hA:(pA C).length<=900:=by omega
 have eS:kz (vz s) (.str [108,101,102,116]) st=.ok (.bl s) st:=by cases s<;>exact dZ rfl
 have e7:gA (eP (e2 kz (ag 2) (eC (.str [108,101,102,116])))) (bd 6 (ag 3)) (bd 7 (ag 3)) [some (cb #[1].po),iO (pq C l r:Nat),some (vz s),some (cb x.po),iO ((pA C).length:Nat),iO ((pA C).length+l.size:Nat),some (cb l.po),some (cb r.po),none] st=.nx [some (cb #[1].po),iO (pq C l r:Nat),some (vz s),some (cb x.po),iO ((pA C).length:Nat),iO ((pA C).length+l.size:Nat),some (cb (MT.po (if s then x else l))),some (cb (MT.po (if s then r else x))),none] st:=by
  cases s
  ·exact cC (aY (bw kv bJ eS)) (bb kv)
  ·exact dh (aY (bw kv bJ eS)) (bb kv)
 have hl2:(MT.po (if s then x else l)).length<=900:=by cases s<;>simp only[gG,fQ,gX,MT.po_len]<;>omega
 have hr2:(MT.po (if s then r else x)).length<=900:=by cases s<;>simp only[gG,fQ,gX,MT.po_len]<;>omega
 generalize (if s then x else l)=l' at *
 generalize (if s then r else x)=r' at *
 have t1:=TQ l'.po st
 have t2:=TQ r'.po st
 rw[MT.one_bit]at t1 t2
 refine fv ?_ (by simp only[undWs,mB,dM])
 apply az
 ·exact zc (bV (am kv kn) b rfl) rfl
 apply az
 ·exact bb (nC kv (nz kv) (nz kv) c1)
 apply az
 ·exact bb (nC kv (nz kv) (nz kv) c2)
 apply az
 ·exact e7
 apply az
 ·refine bb (w:=.tup [.int (l'.one+2*r'.one:Nat),.str m]) (eR (am ?_ (am (bw (bw kv kv (tY (oV C l r m) st)) bJ (D6 _ st)) aQ)) (ao rfl))
  rw[show((l'.one+2*r'.one:Nat):Int)=(l'.one:Int)+2*(r'.one:Int) by omega]
  exact bw (cr (am (bw (cr kn (gR l'.po st)) bJ (lY rfl)) aQ) t1) (bw bJ (cr (am (bw (cr kn (gR r'.po st)) bJ (lY rfl)) aQ) t2) (sk (.inl #[3]))) dN
 apply bQ
 ·refine bw (bw (bw (bw (nC kv tz (nz kv) s1) kv (j' _ _ ?_ st)) kv (j' _ _ ?_ st)) (eR kn (ao rfl)) (j' _ [⟨l'.one+2*r'.one,m⟩] ?_ st)) (nC kv (nz (bw kv bJ dN)) tz s2) (j' _ _ ?_ st)
  ·rw[ai];omega
  ·rw[ai,ai];omega
  ·rw[ai,ai,ai,bu];omega
  ·rw[ai,ai,ai,ai,bu];omega
 ·refine⟨_,_,rfl,?_,[],by simp⟩
  rw[dg]
  show _=cb (pA C++(l'.po++r'.po++[⟨l'.one+2*r'.one,m⟩])++pB C)
  simp only[al]
end
theorem El(h:l.Pairwise (· < ·)):g_ l=l:=zR (j7 l) h fun _=>jM
def xH(t:MT):Prop:=∀p∈t.po,rd p.m
theorem xH.plg{C:List Fm}{l r l' r':MT}{m':List Nat}(h:xH #[1])(hl:xH l')(hr:xH r')(hm:rd m'):xH (bf C (.nd l' r' m')):=fun p hp=>by
 rw[dg]at hp
 rcases aV.mp hp with hp|hp
 ·rcases aV.mp hp with hp|hp
  ·exact h p (by rw[dg];exact bB _ (bB _ hp))
  ·rcases aV.mp hp with hp|hp
   ·rcases aV.mp hp with hp|hp
    ·exact hl p hp
    ·exact hr p hp
   ·rw[aZ.mp hp];exact hm
 ·exact h p (by rw[dg];exact aP _ hp)
theorem xH.at{C:List Fm}{l r:MT}(h:xH #[1]):xH l/\xH r/\rd m:=
  ⟨fun p hp=>h p (by rw[dg];exact bB _ (aP _ (bB _ (bB _ hp)))),
   fun p hp=>h p (by rw[dg];exact bB _ (aP _ (bB _ (aP _ hp)))),
   h ⟨_,m⟩ (by rw[dg];exact bB _ (aP _ (aP _ (aZ.mpr rfl))))⟩
theorem rd.ln(h:rd m):m.length<=52:=ny (h.1.imp fun h=>a9 h) h.2
theorem rd.take(h:rd m)(c:Nat):rd (m.filter fun d=>d != c):=⟨h.1.sublist List.filter_sublist,fun d hd=>h.2 d (jw.mp hd).1⟩
theorem rd.put(h:rd m){c:Nat}(hc:c∈LL):rd (g_ (m++[c])):=⟨j7 _,fun d hd=>by
 rcases aV.mp (jM.mp hd)with hd|hd
 ·exact h.2 d hd
 ·rw[aZ.mp hd];exact hc⟩
theorem rd.srt_take(h:rd m)(c:Nat):D7 (m.filter fun d=>d != c)=m.filter fun d=>d != c:=by
 rw[u6 ((h.take c).1.imp fun h=>a9 h),El (h.take c).1]
theorem rd.srt_put(h:rd m)(c:Nat):D7 ((m.filter fun d=>d != c)++[c])=g_ (m++[c]):=by
 rw[u6]
 ·refine zR (j7 _) (j7 _) fun d=>?_
  rw[jM,jM,aV,aV,jw,aZ,bne_iff_ne]
  by_cases e:d=c
  ·simp[e]
  ·simp[e]
 ·refine nn.mpr ⟨(h.take c).1.imp fun h=>a9 h,by simp,fun d hd e he=>?_⟩
  rw[aZ.mp he]
  exact bne_iff_ne.mp (jw.mp hd).2
theorem TR{p q:List Nat}{k:Bool}(h:(!(p==q))=k):KB (.str p) (.str q) st=.ok (.bl k) st:=by rw[<- h];rfl
theorem L_{fe:FE}(T:Nat->Bool)(h:fe ρ st=.ok (.str l) st1)(hl:l.length<=10000)(h0:0<cap.length)
  (ht:∀c∈l,t ((uI cap ρ).set 0 (some (.str [c]))) st1=.ok (T c) st1) :
  lg cap (ie fe) (kJ 0) t (ag 0) ρ st=.ok (.loc st1.length) (st1++[.lst (((l.filter T).map fun c=>[c]).map W.str)]):=by
 have cg:=DT (cap:=cap) (ρ:=ρ) (st:=st) (st1:=st1) (f:=kJ 0) (t:=t) (el:=ag 0) (fun w=>match w with|.str [c]=>T c|_=>false) id (AA h) (by rw[u5];show _<=1000000;omega) trivial fun w hw=>by
  obtain⟨c,hc,rfl⟩:=c8.mp hw
  exact⟨_,rfl,ht c hc,fun _=>kB (by rw[b9 (by simp[uI];exact h0)];rfl)⟩
 have e:((jg l).filter (fun w=>match w with|.str [c]=>T c|_=>false)).map id=((l.filter T).map fun c=>[c]).map W.str:=by
  rw[jU]
  unfold jg
  rw[List.filter_map,cq];rfl
 rwa[e]at cg
inductive Pn where
 |back|again
 |wh (x:MT)
 |mk (b:Bool) (q c:Nat)
 |br (q:Nat) (s:Bool) (x:MT)
def V8(b:Bool):W:=.str (if b then[112,117,116]else[116,97,107,101])
def Pn.w:Pn->W
 |back=>.tup [.str [98,97,99,107]]
 |again=>.tup [.str [97,103,97,105,110]]
 |wh x=>.tup [.str [119,104,111,108,101],cb x.po]
 |mk b q c=>.tup [V8 b,.int (q:Nat),.str [c]]
 |br q s x=>.tup [.str [98,114,97,110,99,104],.int (q:Nat),vz s,cb x.po]
def Pn.ok(n:Nat):Pn->Prop
 |back=>True
 |again=>True
 |wh x=>x.size<=10/\xH x
 |mk _ q c=>q<n/\c∈LL
 |br q _ x=>q<n/\x.size<=10/\xH x
theorem Em(T:W)(x:MT)(st:List au):qw [T,(Pn.wh x).w] st=.ok (cb x.po) st:=by
 apply fj
 apply eT
 ·exact aY (bw kx bJ (dZ rfl))
 apply eJ
 ·exact bw kv bJ ox
 ·exact⟨_,_,rfl,rfl,rfl⟩
theorem En(C:List Fm)(l r x:MT)(m:List Nat)(s:Bool)(h:#[1].size<=900)(hx:x.size<=900)(st:List au):qw [cb #[1].po,(Pn.br (pq C l r) s x).w] st=.ok (cb (bf C #[14]).po) st:=by
 apply fj
 apply bD
 ·exact aY (bw kx bJ (dZ rfl))
 apply bW
 apply eT
 ·exact aY (bw kx bJ (dZ rfl))
 apply eJ
 ·exact bV (am kv (am kx (am kx (am kx aQ)))) (CI C l r x m s h hx st) rfl
 ·exact⟨_,_,rfl,rfl,rfl⟩
def nm'(b:Bool)(m:List Nat)(c:Nat):List Nat:=if b then g_ (m++[c])else m.filter fun d=>d != c
theorem Eo(C:List Fm)(l r:MT)(m:List Nat)(b:Bool)(c:Nat)(h:#[1].size<=900)(hm:rd m)(st:List au):qw [cb #[1].po,(Pn.mk b (pq C l r) c).w] st=.ok (cb (bf C (.nd l r (nm' b m c))).po) st:=by
 have Wc:=hm.ln
 have z1:=f_ C (.nd l r m) (by rw[MT.size_nd];omega)
 rw[MT.size_nd]at z1
 have hl:=MT.po_len #[1]
 have w1:#[1].po.take (pq C l r)=pA C++(l.po++r.po):=by
  rw[dg,show pA C++(MT.nd l r m).po++pB C=(pA C++(l.po++r.po))++(⟨l.one+2*r.one,m⟩::pB C) by show pA C++(l.po++r.po++[_])++pB C=_;simp only[al];rfl]
  exact lX (by rw[ai,ai,MT.po_len,MT.po_len];unfold pq;omega)
 have w2:#[1].po.drop (pq C l r+1)=pB C:=by
  rw[dg]
  exact im (by rw[ai,MT.po_len,MT.size_nd];unfold pq;omega)
 have w3:∀m',(bf C (.nd l r m')).po=(pA C++(l.po++r.po))++[⟨l.one+2*r.one,m'⟩]++pB C:=fun m'=>by
  rw[dg];show pA C++(l.po++r.po++[_])++pB C=_;simp only[al]
 have hs:=il List.length (w3 m)
 rw[ai,ai,bu]at hs
 have s1:∀st,wG (cb #[1].po) none (some (pq C l r:Int)) st=.ok (cb (pA C++(l.po++r.po))) st:=fun st=>by
  have:=xy (a:=#[1].po) (q:=pq C l r) (by unfold pq;omega) st
  rwa[w1]at this
 have s2:∀st,wG (cb #[1].po) (some ((pq C l r:Int)+1)) none st=.ok (cb (pB C)) st:=fun st=>by
  have:=xz (a:=#[1].po) (q:=pq C l r+1) (by unfold pq;omega) st
  rwa[w2]at this
 have pk:=L_ (fe:=ag 3) (t:=eP (e2 KB (ag 0) (e2 bv (ag 1) (eI 2)))) (cap:=[none,some 1]) (ρ:=[some (cb #[1].po),some (Pn.mk b (pq C l r) c).w,iO (l.one+2*r.one:Nat),some (.str m)]) (st:=st) (st1:=st) (l:=m) (fun d=>d != c) kv #[0] #[3] fun d _=>aY (bw kv kx (TR (by simp[bne])))
 have c1:(st++[au.lst (((m.filter fun d=>d != c).map fun c=>[c]).map W.str)])[st.length]?=some (.lst (((m.filter fun d=>d != c).map fun c=>[c]).map W.str)):=dG
 have hfl:=kG (fun d=>d != c) m
 have ap:=qA (y:=.str [c]) c1 (by rw[aE,aE];omega)
 have kT:∀(l2:List Nat) (s:List au) (x:List au),s=st++x->D7 l2=nm' b m c->l2.length<64->s[st.length]?=some (.lst ((l2.map fun c=>[c]).map W.str)) ->
   k_ (A9 fun w' bh=>w'=cb (bf C (.nd l r (nm' b m c))).po/\∃x,bh=st++x) (cS (e2 cO (e2 cO (rC (ag 0) gN (eX (e2 bv (ag 1) (eI 1)))) (fK (ah (fK (ah (ag 2) (ah (KC pH (eC (.str [])) (ah (bK lG (ah (ag 3) aD)) aD)) aD))) aD))) (rC (ag 0) (eX (e2 cO (e2 bv (ag 1) (eI 1)) (eI 1))) gN)) [some (cb #[1].po),some (Pn.mk b (pq C l r) c).w,iO (l.one+2*r.one:Nat),lO st.length] s):=fun l2 s x u8 hsr hl2 hc=>by
  have sj:=Fe (fe:=ag 3) (ρ:=[some (cb #[1].po),some (Pn.mk b (pq C l r) c).w,iO (l.one+2*r.one:Nat),lO st.length]) (st:=s) kv (bY hc) hl2
  rw[hsr]at sj
  apply bQ
  ·exact bw (bw (nC kv tz (nz kx) (s1 _)) (eR (am (eR (am kv (am sj aQ)) (ao rfl)) aQ) (ao rfl)) (j' _ [⟨l.one+2*r.one,nm' b m c⟩] (by rw[ai,bu];omega) _)) (nC kv (nz (bw kx bJ dN)) tz (s2 _)) (j' _ _ (by rw[ai,ai,bu];omega) _)
  ·exact⟨_,_,rfl,by rw[w3],_,by rw[u8,al]⟩
 refine fv ?_ (by simp only[undWs,mB,dM])
 apply bD
 ·exact aY (bw kx bJ (dZ (by cases b<;>rfl)))
 apply bW
 apply bD
 ·exact aY (bw kx bJ (dZ (by cases b<;>rfl)))
 apply bW
 apply az
 ·exact zc (bw kv kx (tY (oV C l r m) st)) rfl
 apply az
 ·exact zc pk rfl
 cases b with
 |true=>
  apply eT
  ·exact aY (bw kx bJ (dZ rfl))
  apply az
  ·exact dX (jV kv (d9 c1) (am kx aQ) ap)
  ·rw[fY]
   refine kT ((m.filter fun d=>d != c)++[c]) _ _ rfl (hm.srt_put c) (by rw[ai,bu];omega) ?_
   rw[dR,bH,bH];rfl
 |false=>
  apply bD
  ·exact aY (bw kx bJ (dZ rfl))
  apply bW
  exact kT (m.filter fun d=>d != c) _ _ rfl (hm.srt_take c) #[0] c1
theorem NF{ps:List Pl}{sz:List Nat}{lk:List #[8]}(hp:pool.Nodup)(hL:∀d∈pool,d∈LL)(h:Gr ps S sz lk)(h1:S.length<=1)(hm:∀p∈ps,Gz pool p.m):∃t:MT,ps=t.po/\xH t:=by
 obtain⟨t,rfl⟩:=h.mt h1
 exact⟨t,rfl,fun p KI=>⟨(hm p KI).2.2 hp,fun d hd=>hL d ((hm p KI).2.1 d hd)⟩⟩
theorem L'(h:l.length<64):lG [.str l] st=.ok #[5] (st++[.lst ((jN (l.map fun c=>[c])).map W.str)]):=by
 unfold lG;simp only;rw[aK h]
theorem Ma{s1:List au}(h:fe ρ st=.ok (.str l) s1)(hl:l.length<64) :
  KC pH (eC (.str [])) (ah (bK lG (ah fe aD)) aD) ρ st=.ok (.str (D7 l)) (s1++[.lst ((jN (l.map fun c=>[c])).map W.str)]):=by
 have hcell2:lstOf (s1++[au.lst ((jN (l.map fun c=>[c])).map W.str)]) s1.length=some ((jN (l.map fun c=>[c])).map W.str):=bY dG
 have hj:=DR (sep:=[]) hcell2 (by rw[xw (hW _),t5];show _<=1000000;simp;omega)
 exact LQ bJ rfl (am (cr (am h aQ) (L' hl)) aQ) hj
theorem J0{a b:Nat}(h:a<1000000):jd (.int (a:Nat)) (.int (b:Nat)) st=.ok (.int ((a*b:Nat):Int)) st:=by
 rw[sk (.inl ⟨by omega,by omega⟩),jA]
theorem J1(h0:st[n]?=some (.ro (ns.map W.int))):∃(M:Mc) (r:Nat) (t:MT) (pool:List Nat),ng M r/\1<=r/\t.size<=80/\xH t/\pool.length=4/\(∀d∈pool,d∈LL)/\pool.Nodup/\Ck [.loc n] st=.ok (.tup [M.w,cb t.po,.str pool]) st:=by
 suffices hh:k_ (A9 fun w bh=>(∃x,bh=st++x)/\undWs st.length [w]=true/\∃(M:Mc) (r:Nat) (t:MT) (pool:List Nat),w=.tup [M.w,cb t.po,.str pool]/\ng M r/\1<=r/\t.size<=80/\xH t/\pool.length=4/\(∀d∈pool,d∈LL)/\pool.Nodup) (Nv ([W.loc n].map some++List.replicate (8-1) none) st) by
  obtain⟨w,⟨M,r,t,pool,rfl,h1,h2,h3,h4,h5,h6,h7⟩,e⟩:=tH hh
  exact⟨M,r,t,pool,h1,h2,h3,h4,h5,h6,h7,e⟩
 obtain⟨c0,e0⟩:=oQ h0 0
 obtain⟨ds,Ra,hdp,e1⟩:=qy c0 100003 4 #[0] st
 have e1:mz [.int c0,.int 4,.int 100003] st=_:=e1
 have hsh:(st++[au.lst (ds.map W.int)])[st.length]?=some (.lst (Az ds)):=dG
 have ish:∀(i:Nat),i<4->∃d:Int,∀x:List au,bv #[5] (.int (i:Nat)) (st++[au.lst (ds.map W.int)]++x)=.ok (.int d) (st++[au.lst (ds.map W.int)]++x):=fun i hi=>by
  obtain⟨d,hd⟩:∃d,ds[i]?=some d:=⟨_,aj #[0]⟩
  exact⟨d,fun x=>vZ (dJ hsh) hd⟩
 obtain⟨d0,i0⟩:=ish 0 #[0]
 obtain⟨d1,i1⟩:=ish 1 #[0]
 obtain⟨d2,i2⟩:=ish 2 #[0]
 obtain⟨d3,i3⟩:=ish 3 #[0]
 have h1:∀x:List au,(st++[au.lst (ds.map W.int)]++x)[n]?=some (.ro (ns.map W.int)):=fun x=>dJ (dJ h0)
 generalize hs1:st++[au.lst (ds.map W.int)]=s1 at *
 have j0:bv #[5] (.int 0) s1=.ok (.int d0) s1:=by have:=i0 [];rwa[a8]at this
 have j1:bv #[5] (.int 1) s1=.ok (.int d1) s1:=by have:=i1 [];rwa[a8]at this
 have g1:s1[n]?=some (.ro (ns.map W.int)):=by have:=h1 [];rwa[a8]at this
 obtain⟨c1,e2'⟩:=oQ g1 1
 obtain⟨pool,ou,Mg,AO,ep⟩:=LV c1 200017 4 #[0] s1
 have ep:za [.int c1,.int 4,.int 200017] s1=_:=ep
 obtain⟨a,ha,ea⟩:=hX (q:=d0) (n:=4) #[0]
 have ea:d0%4=(a:Int):=ea
 obtain⟨b,hb,eb⟩:=hX (q:=d1) (n:=3) #[0]
 have eb:d1%3=(b:Int):=eb
 apply az
 ·exact bb (bV (am (bV (am kv (am bJ aQ)) e0 rfl) (am bJ (am bJ aQ))) e1 rfl)
 apply az
 ·exact bb (bV (am (bV (am kv (am bJ aQ)) e2' rfl) (am bJ (am bJ aQ))) ep rfl)
 apply az
 ·exact bb (bw bJ (bw (bw kv bJ j0) bJ (jn #[3])) dN)
 rw[show(1:Int)+d0%4=((1+a:Nat):Int) by rw[ea,gf];rfl]
 have hpt:(pool.take b).length<=2:=by rw[aF];omega
 have esl:rC (ag 2) gN (eX (e2 iY (e2 bv (ag 1) (eI 1)) (eI 3))) [lO n,lO st.length,some (.str pool),iO (1+a:Nat),none,none,none,none] s1=.ok (.str (pool.take b)) s1:=by
  have c:j6 pool none (some (b:Int))=pool.take b:=m_ #[0]
  rw[<- c,<- eb]
  exact nC kv tz (nz (bw (bw kv bJ j1) bJ (jn #[3]))) (Ig (by show _<=1000000;omega))
 apply az
 ·exact bb (Ma esl #[0])
 generalize hN:D7 (pool.take b)=nm
 have hnl:nm.length<=2:=by rw[<- hN,Fd];exact hpt
 generalize u8:s1++[au.lst ((jN ((pool.take b).map fun c=>[c])).map W.str)]=s2
 have i2':∀x,bv #[5] (.int 2) (s2++x)=.ok (.int d2) (s2++x):=fun x=>by rw[<- u8,al];exact i2 _
 have i3':∀x,bv #[5] (.int 3) (s2++x)=.ok (.int d3) (s2++x):=fun x=>by rw[<- u8,al];exact i3 _
 have g2:s2[n]?=some (.ro (ns.map W.int)):=by rw[<- u8];exact dJ g1
 obtain⟨nm2,TW,e4⟩:∃nm2:List Nat,((1+a)*(1+a)*2^nm2.length+(1+a)<=68/\nm2.length<=2)/\gA (eP (e2 kz (ag 3) (eI 4))) (bd 4 (rC (ag 4) gN (eX (eI 1)))) bX [lO n,lO st.length,some (.str pool),iO (1+a:Nat),some (.str nm),none,none,none] s2=.nx [lO n,lO st.length,some (.str pool),iO (1+a:Nat),some (.str nm2),none,none,none] s2:=by
  by_cases h:a=3
  ·subst h
   refine⟨j6 nm none (some 1),?_,dh (aY (bw kv bJ (gk rfl))) (bb (nC kv tz (nz bJ) (Ig (by show _<=1000000;omega))))⟩
   have hc:(j6 nm none (some 1)).length<=1:=by
    by_cases h1:1<=nm.length
    ·rw[show j6 nm none (some 1)=nm.take 1 from m_ (q:=1) h1,aF];omega
    ·match nm,h1 with
     |[],_=>exact bZ 1
     |_::_,h=>simp at h
   have h1:(j6 nm none (some 1)).length=0\/(j6 nm none (some 1)).length=1:=by omega
   rcases h1 with e|e<;>rw[e]<;>decide
  ·refine⟨nm,?_,cC (aY (bw kv bJ (gk (by rw[bq];omega)))) rfl⟩
   have h1:nm.length=0\/nm.length=1\/nm.length=2:=by omega
   have h2:a=0\/a=1\/a=2:=by omega
   rcases h1 with e|e|e<;>rw[e]<;>rcases h2 with rfl|rfl|rfl<;>decide
 apply az
 ·exact e4
 have sh:Bu (.int 1) (.int nm2.length) s2=.ok (.int (2^nm2.length:Nat)) s2:=Hl #[0]
 have x2:(1+a)*(1+a)<=4*4:=Nat.mul_le_mul #[0] #[0]
 have eE:e2 cO (ag 3) (e2 jd (e2 jd (ag 3) (ag 3)) (e2 Bu (eI 1) (bK dH (ah (ag 4) aD)))) [lO n,lO st.length,some (.str pool),iO (1+a:Nat),some (.str nm2),none,none,none] s2=.ok (.int (((1+a)+(1+a)*(1+a)*2^nm2.length:Nat):Int)) s2:=by
  rw[show(((1+a)+(1+a)*(1+a)*2^nm2.length:Nat):Int)=((1+a:Nat):Int)+(((1+a)*(1+a)*2^nm2.length:Nat):Int) by omega]
  exact bw kv (bw (bw kv kv (J0 #[0])) (bw bJ (cr kn (zY (by show _<=1000000;omega))) sh) (J0 #[0])) dN
 apply az
 ·exact bb eE
 generalize hE:(1+a)+(1+a)*(1+a)*2^nm2.length=E
 obtain⟨c2,e5⟩:=oQ g2 2
 obtain⟨ds2,hdl2,_,e6⟩:=qy c2 300007 E #[0] s2
 have hd2:(s2++[au.lst (ds2.map W.int)])[s2.length]?=some (.lst (Az ds2)):=dG
 obtain⟨M,hMn,hM,e7⟩:=Ec nm2 (1+a) (1+a) s2.length ds2 _ #[0] #[0] #[0] #[0] (aA _) hd2 (by rw[hdl2,<- hE,Nat.mul_comm (2^_)];omega)
 have e5:my [.loc n,.int 2] s2=_:=e5
 have e6:mz [.int c2,.int E,.int 300007] s2=_:=e6
 apply az
 ·exact bb (bV (am kv (am kv (am kv (am (bV (am (bV (am kv (am bJ aQ)) e5 rfl) (am kv (am bJ aQ))) e6 rfl) aQ)))) e7 rfl)
 generalize hs3:s2++[au.lst (ds2.map W.int)]=s3
 have i2'':bv #[5] (.int 2) s3=.ok (.int d2) s3:=by rw[<- hs3];exact i2' _
 have i3'':bv #[5] (.int 3) s3=.ok (.int d3) s3:=by rw[<- hs3];exact i3' _
 have g3:s3[n]?=some (.ro (ns.map W.int)):=by rw[<- hs3];exact dJ g2
 obtain⟨q,hq,eq⟩:=hX (q:=d2) (n:=8) #[0]
 have eq:d2%8=(q:Int):=eq
 apply az
 ·exact bb (bw (bw kv bJ i2'') bJ (jn #[3]))
 rw[eq]
 obtain⟨hi,hh,e8⟩:∃hi:Nat,hi<=40/\gA (eP (e2 kz (e2 iY (e2 bv (ag 1) (eI 3)) (eI 4)) (eI 1))) (bd 7 (e2 iY (e2 bv (ag 1) (eI 2)) (eI 41))) bX [lO n,lO st.length,some (.str pool),iO (1+a:Nat),some (.str nm2),iO E,some M.w,iO q] s3=.nx [lO n,lO st.length,some (.str pool),iO (1+a:Nat),some (.str nm2),iO E,some M.w,iO hi] s3:=by
  by_cases h:d3%4=1
  ·obtain⟨q2,hq2,eq2⟩:=hX (q:=d2) (n:=41) #[0]
   have eq2:d2%41=(q2:Int):=eq2
   refine⟨q2,by omega,?_⟩
   rw[<- eq2]
   exact dh (aY (bw (bw (bw kv bJ i3'') bJ (jn #[3])) bJ (gk (by rw[dv];exact h)))) (bb (bw (bw kv bJ i2'') bJ (jn #[3])))
  ·exact⟨q,by omega,cC (aY (bw (bw (bw kv bJ i3'') bJ (jn #[3])) bJ (gk (by rw[bq];exact h)))) rfl⟩
 apply az
 ·exact e8
 obtain⟨c3,e9⟩:=oQ g3 3
 obtain⟨ds3,hdl3,_,e10⟩:=qy c3 400009 hi #[0] s3
 have hd3:(s3++[au.lst (ds3.map W.int)])[s3.length]?=some (.lst (Az ds3)):=dG
 obtain⟨ps,S,sz,lk,hg,hS,hpsl,hpm,e11⟩:=Fh (pool:=pool) hd3 #[0] #[0]
 obtain⟨t,rfl,ht⟩:=NF Mg AO hg hS hpm
 have e9:my [.loc n,.int 3] s3=_:=e9
 have e10:mz [.int c3,.int hi,.int 400009] s3=_:=e10
 rw[MT.po_len]at hpsl
 apply bQ
 ·exact eR (am kv (am (bV (am (bV (am (bV (am kv (am bJ aQ)) e9 rfl) (am kv (am bJ aQ))) e10 rfl) kn) e11 rfl) kn)) (ao rfl)
 ·exact⟨_,_,rfl,⟨_,by rw[<- hs3,<- u8,<- hs1,al,al,al]⟩,by simp[undWs,Ju,mB,W.und],M,1+a,t,pool,rfl,hM,by omega,by omega,ht,ou,AO,Mg⟩
theorem xI(h0:st[n]?=some (.ro (ns.map W.int)))(k:Int){t:MT}(ou:pool.length=4)(AO:∀d∈pool,d∈LL)(Mg:pool.Nodup)(mo:Nat)(Wv:0<mo) :
  ∃p:Pn,p.ok t.size/\(p=.back\/p=.again->8<mo)/\rM [.loc n,.int k,.int (mo:Nat),cb t.po,.str pool] st=.ok p.w st:=by
 suffices hh:k_ (A9 fun w bh=>(∃x,bh=st++x)/\undWs st.length [w]=true/\∃p:Pn,w=p.w/\p.ok t.size/\(p=.back\/p=.again->8<mo)) (Nw ([W.loc n,.int k,.int (mo:Nat),cb t.po,.str pool].map some++List.replicate (9-5) none) st) by
  obtain⟨w,⟨p,rfl,h1,h2⟩,e⟩:=tH hh
  exact⟨p,h1,h2,e⟩
 obtain⟨c0,e0⟩:=oQ h0 (4+k)
 obtain⟨ds,Ra,hdp,e1⟩:=qy c0 (500009+101*k) 12 #[0] st
 have e1:mz [.int c0,.int 12,.int (500009+101*k)] st=_:=e1
 have hsh:(st++[au.lst (ds.map W.int)])[st.length]?=some (.lst (Az ds)):=dG
 have ish:∀(i:Nat),i<12->∃d:Int,∀x:List au,bv #[5] (.int (i:Nat)) (st++[au.lst (ds.map W.int)]++x)=.ok (.int d) (st++[au.lst (ds.map W.int)]++x):=fun i hi=>by
  obtain⟨d,hd⟩:∃d,ds[i]?=some d:=⟨_,aj #[0]⟩
  exact⟨d,fun x=>vZ (dJ hsh) hd⟩
 obtain⟨d0,i0⟩:=ish 0 #[0]
 obtain⟨d1,i1⟩:=ish 1 #[0]
 obtain⟨d2,i2⟩:=ish 2 #[0]
 obtain⟨d3,i3⟩:=ish 3 #[0]
 obtain⟨d4,i4⟩:=ish 4 #[0]
 obtain⟨d5,i5⟩:=ish 5 #[0]
 generalize hs1:st++[au.lst (ds.map W.int)]=s1 at *
 have j5:bv #[5] (.int 5) s1=.ok (.int d5) s1:=by have:=i5 [];rwa[a8]at this
 obtain⟨m,hm,em⟩:=hX (q:=d5) (n:=6) #[0]
 have em:d5%6=(m:Int):=em
 apply az
 ·exact bb (bV (am (bV (am kv (am (bw bJ kv dN) aQ)) e0 rfl) (am bJ (am (bw bJ (bw bJ kv (sk (.inl #[3]))) dN) aQ))) e1 rfl)
 have hsl:wG #[5] (some 6) (some ((6:Int)+d5%6)) s1=.ok (.loc s1.length) (s1++[.lst (Az ((ds.drop 6).take m))]):=by
  rw[MH (bY hsh),em,show((6:Int)+(m:Int))=((6+m:Nat):Int)from rfl,show(6:Int)=((6:Nat):Int)from rfl,Im (by unfold Az;rw[aE];omega) #[0]]
  unfold Az
  rw[<- nL,<- nK,show 6+m-6=m by omega]
 obtain⟨ps,S,sz,lk,hg,hS,hpsl,hpm,e2'⟩:=Fh (st:=s1++[.lst (Az ((ds.drop 6).take m))]) (nd:=s1.length) (ds:=(ds.drop 6).take m) (pool:=pool) dG (by rw[aF,cm];omega) #[0]
 obtain⟨x,rfl,hx⟩:=NF Mg AO hg hS hpm
 have hxs:x.size<=10:=by rw[MT.po_len,aF,cm]at hpsl;omega
 generalize u8:s1++[au.lst (Az ((ds.drop 6).take m))]=s2 at *
 have i0':bv #[5] (.int 0) s2=.ok (.int d0) s2:=by rw[<- u8];exact i0 _
 have i1':bv #[5] (.int 1) s2=.ok (.int d1) s2:=by rw[<- u8];exact i1 _
 have i2':bv #[5] (.int 2) s2=.ok (.int d2) s2:=by rw[<- u8];exact i2 _
 have i3':∀y,bv #[5] (.int 3) (s2++y)=.ok (.int d3) (s2++y):=fun y=>by rw[<- u8,al];exact i3 _
 have i4':∀y,bv #[5] (.int 4) (s2++y)=.ok (.int d4) (s2++y):=fun y=>by rw[<- u8,al];exact i4 _
 have hs:s2=st++([au.lst (ds.map W.int)]++[.lst (Az ((ds.drop 6).take m))]):=by rw[<- u8,<- hs1,al]
 apply az
 ·exact bb (bV (am (nC kv (nz bJ) (nz (bw bJ (bw (bw kv bJ j5) bJ (jn #[3])) dN)) hsl) kn) e2' rfl)
 obtain⟨kd,hkd,ek⟩:=hX (q:=d0) (n:=mo) Wv
 apply az
 ·exact bb (bw (bw kv bJ i0') kv (jn #[0]))
 rw[ek]
 have hln:dH [cb t.po] s2=.ok (.int (t.size:Nat)) s2:=by have:=gR t.po s2;rwa[MT.po_len]at this
 by_cases h8:kd=8
 ·subst h8
  apply eT
  ·exact aY (bw kv bJ (gk rfl))
  apply eJ
  ·exact eR (am bJ aQ) (ao rfl)
  ·exact⟨_,_,rfl,⟨_,hs⟩,rfl,.back,rfl,trivial,fun _=>by omega⟩
 apply bD
 ·exact aY (bw kv bJ (gk (by rw[bq];omega)))
 apply bW
 by_cases h9:kd=9
 ·subst h9
  apply eT
  ·exact aY (bw kv bJ (gk rfl))
  apply eJ
  ·exact eR (am bJ aQ) (ao rfl)
  ·exact⟨_,_,rfl,⟨_,hs⟩,rfl,.again,rfl,trivial,fun _=>by omega⟩
 apply bD
 ·exact aY (bw kv bJ (gk (by rw[bq];omega)))
 apply bW
 by_cases h7:kd=7\/t.size=0
 ·apply eT
  ·refine Ih (a:=decide (kd=7)) (b:=decide (t.size=0)) (aY (bw kv bJ (gk ?_))) (aY (bw (cr kn hln) bJ (gk ?_)))|>.trans ?_
   ·rw[pS,dv,mT];omega
   ·rw[pS,dv,mT];omega
   ·rcases h7 with h|h
    ·rw[bG h];rfl
    ·rw[bG h,Bool.or_true]
  apply eJ
  ·exact eR (am bJ kn) (ao rfl)
  ·exact⟨_,_,rfl,⟨_,hs⟩,by simp[undWs,mB,W.und],.wh x,rfl,⟨hxs,hx⟩,fun e=>by rcases e with e|e<;>cases e⟩
 apply bD
 ·refine m8 (aY (bw kv bJ (gk ?_))) (aY (bw (cr kn hln) bJ (gk ?_)))
  ·rw[bq];omega
  ·rw[bq];omega
 apply bW
 have ht0:0<t.size:=by omega
 obtain⟨q,hq,eq⟩:=hX (q:=64*d1+d2) (n:=t.size) ht0
 apply az
 ·exact bb (bw (bw (bw bJ (bw kv bJ i1') (sk (.inl #[3]))) (bw kv bJ i2') dN) (cr kn hln) (jn #[0]))
 rw[eq]
 by_cases h4:kd<4
 ·obtain⟨m3,hm3,em3⟩:=hX (q:=d3) (n:=4) #[0]
  have em3:d3%4=(m3:Int):=em3
  obtain⟨c,hc⟩:∃c,pool[m3]?=some c:=⟨_,aj #[0]⟩
  have hcL:=AO c (cz hc)
  have hix:∀s,bv (.str pool) (.int (d3%4)) s=.ok (.str [c]) s:=fun s=>by rw[em3];exact Ie (by show _<=1000000;omega) (fX hc)
  have hk2:∃b:Bool,∀s:List au,s[s2.length]?=some (.lst [.str [112,117,116],.str [116,97,107,101]])->bv (.loc s2.length) (.int ((kd:Int)/2)) s=.ok (V8 b) s:=by
   obtain rfl|rfl|rfl|rfl:kd=0\/kd=1\/kd=2\/kd=3:=by omega
   ·exact⟨true,fun s hs=>jO (bY hs) rfl⟩
   ·exact⟨true,fun s hs=>jO (bY hs) rfl⟩
   ·exact⟨false,fun s hs=>jO (bY hs) rfl⟩
   ·exact⟨false,fun s hs=>jO (bY hs) rfl⟩
  obtain⟨b,hb⟩:=hk2
  apply eT
  ·exact aY (bw kv bJ (lY (bG #[0])))
  apply eJ
  ·exact eR (am (bw (qj (am bJ (am bJ aQ)) (ao rfl)) (bw kv bJ (jn #[3])) (hb _ dG)) (am kv (am (bw kv (bw (bw kv bJ (i3' _)) bJ (jn #[3])) (hix _)) aQ))) (ao rfl)
  ·exact⟨_,_,rfl,⟨_,by rw[hs,al]⟩,by cases b<;>rfl,.mk b q c,rfl,⟨hq,hcL⟩,fun e=>by rcases e with e|e<;>cases e⟩
 apply bD
 ·exact aY (bw kv bJ (lY (a7 #[0])))
 apply bW
 have hk2:∃b:Bool,∀s:List au,s[s2.length]?=some (.lst [.str [108,101,102,116],.str [114,105,103,104,116]])->bv (.loc s2.length) (.int (d4%2)) s=.ok (vz b) s:=by
  obtain⟨m4,hm4,em4⟩:=hX (q:=d4) (n:=2) #[0]
  have em4:d4%2=(m4:Int):=em4
  rw[em4]
  obtain rfl|rfl:m4=0\/m4=1:=by omega
  ·exact⟨true,fun s hs=>jO (bY hs) rfl⟩
  ·exact⟨false,fun s hs=>jO (bY hs) rfl⟩
 obtain⟨b,hb⟩:=hk2
 apply bQ
 ·exact eR (am bJ (am kv (am (bw (qj (am bJ (am bJ aQ)) (ao rfl)) (bw (bw kv bJ (i4' _)) bJ (jn #[3])) (hb _ dG)) kn))) (ao rfl)
 ·exact⟨_,_,rfl,⟨_,by rw[hs,al]⟩,by cases b<;>simp[undWs,mB,W.und,vz],.br q b x,rfl,⟨hq,hxs,hx⟩,fun e=>by rcases e with e|e<;>cases e⟩
section
variable{M:Mc}{z':List au}{a b:Nat}{t:MT}{sd tk:List Dd}{d:Dd}
theorem NG{c:Nat}{B:Bool}(hm:(if B then kQ else jP) [.loc L,.int (q:Nat),.str [c]] z=.ok .non z')(hz:z[L]?=some (.obj "Kept" (kF M t k a b)))(ht:iM z z' [.non]=z'):ik [.loc L,(Pn.mk B q c).w] z=.ok .non z':=by
 rw[<- ht]
 cases B with
 |true=>exact jt (si (dh (aY (bw kx bJ (dZ rfl))) (tD (h_ kv hz rfl (am kx (am kx aQ)) rfl hm))))
 |false=>exact jt (c5 (cC (aY (bw kx bJ (dZ rfl))) c_) (si (dh (aY (bw kx bJ (dZ rfl))) (tD (h_ kv hz rfl (am kx (am kx aQ)) rfl hm)))))
theorem TU{s:Bool}{x:MT}(hm:iq [.loc L,.int (q:Nat),vz s,cb x.po] z=.ok .non z')(hz:z[L]?=some (.obj "Kept" (kF M t k a b)))(ht:iM z z' [.non]=z'):ik [.loc L,(Pn.br q s x).w] z=.ok .non z':=by
 rw[<- ht]
 exact jt (c5 #[9] (c5 #[9] (si (dh (aY (bw kx bJ (dZ rfl))) (tD (h_ kv hz rfl (am kx (am kx (am kx aQ))) rfl hm))))))
theorem NH{x:MT}(hm:gl [.loc L,cb x.po] z=.ok .non z')(hz:z[L]?=some (.obj "Kept" (kF M t k a b)))(ht:iM z z' [.non]=z'):ik [.loc L,(Pn.wh x).w] z=.ok .non z':=by
 rw[<- ht]
 exact jt (c5 #[9] (c5 #[9] (c5 #[9] (si (dh (aY (bw kx bJ (dZ rfl))) (tD (h_ kv hz rfl (am kx aQ) rfl hm)))))))
theorem Mb(hm:gn [.loc L] z=.ok .non z')(hz:z[L]?=some (.obj "Kept" (kF M t k a b)))(ht:iM z z' [.non]=z'):ik [.loc L,Pn.back.w] z=.ok .non z':=by
 rw[<- ht]
 exact jt (c5 #[9] (c5 #[9] (c5 #[9] (c5 #[9] (si (dh (aY (bw kx bJ (dZ rfl))) (tD (h_ kv hz rfl aQ rfl hm))))))))
theorem J2(hm:hZ [.loc L] z=.ok .non z')(hz:z[L]?=some (.obj "Kept" (kF M t k a b)))(ht:iM z z' [.non]=z'):ik [.loc L,Pn.again.w] z=.ok .non z':=by
 rw[<- ht]
 exact jt (c5 #[9] (c5 #[9] (c5 #[9] (c5 #[9] (c5 #[9] (tD (h_ kv hz rfl aQ rfl hm)))))))
theorem kg.fr(h:kg M L a b t k sd tk z)(hL:z'[L]?=z[L]?)(ha:z'[a]?=z[a]?)(hb:z'[b]?=z[b]?):kg M L a b t k sd tk z':=⟨hL.trans h.ob,ha.trans h.s,hb.trans h.u,h.la,h.lb,h.ab,h.ls,h.lu⟩
theorem NI(hM:ng M n)(hn:1<=n){p:Pn}(hp:p.ok t.size)(hb:p≠.back)(hA:p≠.again)(AL:t.size<=100)(UG:xH t):∃(t2:MT) (s:List Nat) (ws:List W),xH t2/\p.w=.tup (.str s::ws)/\0<ws.length/\(s==[98,97,99,107])=false/\(s==[97,103,97,105,110])=false/\(∀z,qw [cb t.po,p.w] z=.ok (cb t2.po) z) /\
  (t2.size<=100->∃d:Dd,d.ok/\d.a=t/\d.b=t2/\∀{L a b k:Nat} {sd tk:List Dd} {z1:List au},kg M L a b t k sd tk z1->sd.length<1000->∃z2,ik [.loc L,p.w] z1=.ok .non z2/\kg M L a z1.length t2 (d.ct M) (d::sd) [] z2/\K3 L a b z1 z2):=by
 cases p with
 |back=>exact absurd rfl hb
 |again=>exact absurd rfl hA
 |wh x=>
  exact⟨x,[119,104,111,108,101],_,hp.2,rfl,jb 0,rfl,rfl,fun z=>Em _ x z,fun h=>⟨.wh t x,⟨AL,h⟩,rfl,rfl,fun hk1 hl=>by
   obtain⟨z2,e2',hk2,h3⟩:=xG hM hn AL h hk1 hl
   exact⟨z2,NH e2' hk1.ob (jo _ hk1 hk2),hk2,h3⟩⟩⟩
 |mk B q c=>
  obtain⟨hq,hcL⟩:=hp
  obtain⟨C,l,r,m,rfl,rfl⟩:=v7 t q hq
  obtain⟨g1,g2,gm⟩:=UG.at
  refine⟨bf C (.nd l r (nm' B m c)),if B then[112,117,116]else[116,97,107,101],_,UG.plg g1 g2 (by cases B;exact gm.take c;exact gm.put hcL),rfl,jb 1,by cases B<;>rfl,by cases B<;>rfl,fun z=>Eo C l r m B c #[0] gm z,fun h=>?_⟩
  cases B with
  |true=>
   exact⟨.mk C l r m l r (g_ (m++[c])) none,⟨AL,h,fun _=>rfl,fun _=>rfl⟩,rfl,rfl,fun hk1 hl=>by
    obtain⟨z2,e2',hk2,h3⟩:=Ei hM hn AL h gm.2 (by have:=gm.ln;omega) hcL hk1 hl
    exact⟨z2,NG (B:=true) e2' hk1.ob (jo _ hk1 hk2),hk2,h3⟩⟩
  |false=>
   exact⟨.mk C l r m l r (m.filter fun d=>d != c) none,⟨AL,h,fun _=>rfl,fun _=>rfl⟩,rfl,rfl,fun hk1 hl=>by
    obtain⟨z2,e2',hk2,h3⟩:=CG hM hn AL h (by have:=gm.ln;omega) hk1 hl
    exact⟨z2,NG (B:=false) e2' hk1.ob (jo _ hk1 hk2),hk2,h3⟩⟩
 |br q s x=>
  obtain⟨hq,hx,NQ⟩:=hp
  obtain⟨C,l,r,m,rfl,rfl⟩:=v7 t q hq
  obtain⟨g1,g2,gm⟩:=UG.at
  exact⟨bf C #[14],[98,114,97,110,99,104],_,UG.plg (by cases s;exact g1;exact NQ) (by cases s;exact NQ;exact g2) gm,rfl,jb 2,rfl,rfl,fun z=>En C l r x m s #[0] #[0] z,fun h=>⟨.mk C l r m (if s then x else l) (if s then r else x) m (some s),⟨AL,h,fun e=>by cases s<;>first|rfl|exact absurd rfl e,fun e=>by cases s<;>first|rfl|exact absurd rfl e⟩,rfl,rfl,fun hk1 hl=>by
   obtain⟨z2,e2',hk2,h3⟩:=GC hM hn AL #[0] h hk1 hl
   exact⟨z2,TU e2' hk1.ob (jo _ hk1 hk2),hk2,h3⟩⟩⟩
end
def Vz(d:Dd):Prop:=d.ok/\xH d.a/\xH d.b
def Ep:MT->List Dd->Prop
 |_,[]=>True
 |t,d::ds=>d.a=t/\Vz d/\Ep d.b ds
noncomputable def oX:MT->List Dd->MT
 |t,[]=>t
 |_,d::ds=>oX d.b ds
theorem Ep.app:∀{t:MT} {ds:List Dd} {d:Dd},Ep t ds->d.a=oX t ds->Vz d->Ep t (ds++[d])
 |_,[],d,_,h,h2=>⟨h,h2,trivial⟩
 |_,e::ds,d,⟨h1,h2,h3⟩,h,h4=>⟨h1,h2,Ep.app h3 h h4⟩
theorem t9:∀(t:MT) (ds:List Dd) (d:Dd),oX t (ds++[d])=d.b
 |_,[],d=>rfl
 |_,e::ds,d=>t9 e.b ds d
theorem Ep.take:∀{t:MT} {ds:List Dd} (i:Nat),Ep t ds->Ep t (ds.take i)
 |_,ds,0,_=>by rw[qL];trivial
 |_,[],i+1,_=>trivial
 |_,e::ds,i+1,⟨h1,h2,h3⟩=>⟨h1,h2,Ep.take i h3⟩
def t_(t:MT)(ds:List Dd)(i:Nat):MT:=oX t (ds.take i)
theorem Er:∀{t:MT} {ds:List Dd} {i:Nat} {d:Dd},Ep t ds->ds[i]?=some d->d.a=t_ t ds i/\d.b=t_ t ds (i+1)/\Vz d
 |_,[],i,d,_,h=>by simp at h
 |t,e::ds,0,d,⟨h1,h2,h3⟩,h=>by cases h;exact⟨h1,rfl,h2⟩
 |t,e::ds,i+1,d,⟨h1,h2,h3⟩,h=>Er (t:=e.b) (i:=i) h3 (by simpa using h)
theorem xJ:∀{t:MT} {ds:List Dd},Ep t ds->xH t->t.size<=100->∀i,xH (t_ t ds i)/\(t_ t ds i).size<=100
 |_,ds,_,h,h2,0=>by unfold t_;rw[qL];exact⟨h,h2⟩
 |_,[],_,h,h2,i+1=>⟨h,h2⟩
 |t,e::ds,⟨_,h2,h3⟩,_,_,i+1=>xJ (t:=e.b) h3 h2.2.2 (Dd.ok_b h2.1) i
def re(t:MT)(ds:List Dd):List W:=(List.range (ds.length+1)).map fun i=>cb (t_ t ds i).po
theorem sF{t:MT}{ds:List Dd}{i:Nat}(h:i<=ds.length):(re t ds)[i]?=some (cb (t_ t ds i).po):=by
 unfold re;rw[aG,gI #[0]];rfl
theorem me(t:MT)(ds:List Dd):(re t ds).length=ds.length+1:=by unfold re;rw[aE,ni]
theorem uc(t:MT)(ds:List Dd):t_ t ds ds.length=oX t ds:=by unfold t_;rw[cK]
theorem Fq(t:MT)(ds:List Dd)(d:Dd)(i:Nat)(hi:i<=ds.length):(re t ds).take (i+1)++[cb d.b.po]=re t (ds.take i++[d]):=by
 refine iJ fun j=>?_
 have l1:((re t ds).take (i+1)).length=i+1:=by rw[aF,me];omega
 have l2:(ds.take i++[d]).length=i+1:=by rw[ai,aF,bu];omega
 by_cases h:j<i+1
 ·rw[aR #[0],cy h,sF #[0],sF #[0]]
  unfold t_
  rw[b_ (by rw[aF];omega),mS,gc #[0]]
 ·by_cases h2:j=i+1
  ·subst h2
   rw[aS #[0],l1,Nat.sub_self,sF #[0]]
   unfold t_
   rw[bn #[0],t9];rfl
  ·rw[bE (by rw[ai,l1,bu];omega),bE (by rw[me,l2];omega)]
section
variable{M:Mc}{z':List au}{a b:Nat}{t:MT}{sd tk ds:List Dd}{d:Dd}
theorem CJ(hM:ng M n)(hn:1<=n)(hc:Ep t ds)(hl:ds.length<900)(hz:kg M L a b (t_ t ds i) k (ds.take i).reverse (ds.drop i) z) :
  (∀j,i=j+1->i<=ds.length->∃z' k',ik [.loc L,Pn.back.w] z=.ok .non z'/\kg M L a b (t_ t ds j) k' (ds.take j).reverse (ds.drop j) z'/\K3 L a b z z'/\z'.length=z.length) /\
  (i<ds.length->∃z' k',ik [.loc L,Pn.again.w] z=.ok .non z'/\kg M L a b (t_ t ds (i+1)) k' (ds.take (i+1)).reverse (ds.drop (i+1)) z'/\K3 L a b z z'/\z'.length=z.length):=by
 refine⟨fun j hj hi=>?_,fun hi=>?_⟩
 ·subst hj
  obtain⟨d,hd⟩:∃d,ds[j]?=some d:=⟨_,aj hi⟩
  obtain⟨d1,d2,d3⟩:=Er hc hd
  rw[ml hd,gK,<- d2]at hz
  obtain⟨z',e,h,h3,hl2⟩:=Fl hM hn d3.1 hz (by rw[cm];omega)
  refine⟨z',d.tn.ct M,Mb e hz.ob (mq hl2),?_,h3,hl2⟩
  rw[dE hi,<- d1]
  have:ds[j]=d:=by rw[aj hi]at hd;exact bg hd
  rw[this];exact h
 ·obtain⟨d,hd⟩:∃d,ds[i]?=some d:=⟨_,aj hi⟩
  obtain⟨d1,d2,d3⟩:=Er hc hd
  have hg:ds[i]=d:=by rw[aj hi]at hd;exact bg hd
  rw[dE hi,hg,<- d1]at hz
  obtain⟨z',e,h,h3,hl2⟩:=JZ hM hn d3.1 hz (by rw[gJ,aF];omega)
  refine⟨z',d.ct M,J2 e hz.ob (mq hl2),?_,h3,hl2⟩
  rw[ml hd,gK,<- d2];exact h
theorem K3.refl:K3 L a b z z:=⟨aA _,fun _ _ _ _ _=>rfl⟩
theorem K3.trans{V':List au}(h:K3 L a b z z')(h2:K3 L a b z' V'):K3 L a b z V':=⟨aN h.1 h2.1,fun i hi h3 h4 h5=>(h2.2 i (aL hi h.1) h3 h4 h5).trans (h.2 i hi h3 h4 h5)⟩
theorem q5(hM:ng M n)(hn:1<=n)(hc:Ep t ds)(hl:ds.length<900)(hg:xH t)(A_:t.size<=100){F e:Nat}(hF:z[F]?=some (.lst (re t ds)))(nF:F≠L/\F≠a/\F≠b)(hi:i<=ds.length)(he:e<=ds.length)(hz:kg M L a b (t_ t ds i) k (ds.take i).reverse (ds.drop i) z) :
  ∃z' k',vy [.loc L,M.w,.loc F,.int (i:Nat),.int (e:Nat)] z=.ok (.bl true) z'/\kg M L a b (t_ t ds e) k' (ds.take e).reverse (ds.drop e) z'/\K3 L a b z z'/\z'.length=z.length:=by
 suffices hh:k_ (A9 fun w z'=>w=.bl true/\∃k',kg M L a b (t_ t ds e) k' (ds.take e).reverse (ds.drop e) z'/\K3 L a b z z'/\z'.length=z.length) (Ny ([W.loc L,M.w,.loc F,.int (i:Nat),.int (e:Nat)].map some++List.replicate (7-5) none) z) by
  obtain⟨w,z',eq,rfl,k',h1,h2,h3⟩:=hh
  refine⟨z',k',?_,h1,h2,h3⟩
  have:=jt (N:=7) eq
  rwa[mq h3]at this
 refine y4 (fun m ρ s=>∃(j ke:Nat) (o5 o6:Option W),m=(j-e)+(e-j)/\ρ=[lO L,some M.w,lO F,iO (j:Nat),iO (e:Nat),o5,o6]/\j<=ds.length/\kg M L a b (t_ t ds j) ke (ds.take j).reverse (ds.drop j) s/\K3 L a b z s/\s.length=z.length) ((i-e)+(e-i)) ⟨i,k,none,none,rfl,rfl,hi,hz,K3.refl,rfl⟩ ?_ ?_
 ·rintro m ρ s ⟨j,ke',o5,o6,rfl,rfl,hj,hk,h3,hsl⟩
  have hFs:s[F]?=some (.lst (re t ds)):=(h3.2 F (ec hF) nF.1 nF.2.1 nF.2.2).trans hF
  by_cases h:j=e
  ·subst h
   exact .inl (aY (bw kv kv (E_ #[15])))
  refine .inr ⟨aY (bw kv kv (E_ (by rw[fm,bq];omega))),?_⟩
  obtain⟨sB,sA⟩:=CJ hM hn hc hl hk
  have one:∀(p:Pn) (q:Nat) (s':List au) (k2:Nat),q<=ds.length->(q-e)+(e-q)<(j-e)+(e-j)->ik [.loc L,p.w] s=.ok .non s'->kg M L a b (t_ t ds q) k2 (ds.take q).reverse (ds.drop q) s'->K3 L a b s s'->s'.length=s.length ->
    k_ (KD fun ρ2 de=>∃m,m<(j-e)+(e-j)/\∃(j ke:Nat) (o5 o6:Option W),m=(j-e)+(e-j)/\ρ2=[lO L,some M.w,lO F,iO (j:Nat),iO (e:Nat),o5,o6]/\j<=ds.length/\kg M L a b (t_ t ds j) ke (ds.take j).reverse (ds.drop j) de/\K3 L a b z de/\de.length=z.length)
     ((aM (gA (F_ (eP (iC (b8 2 ik (ah (ag 0) (ah (ag 5) aD))))) (A8 (eP (b8 4 qx (ah (ag 0) (ah (ag 1) (ah (e2 bv (ag 2) (ag 6)) (ah (ag 6) aD)))))))) (cS (eC (.bl false))) bX) (bd 3 (ag 6))) [lO L,some M.w,lO F,iO (j:Nat),iO (e:Nat),some p.w,iO (q:Nat)] s):=fun p q s' k2 hq hm ed hk2 h3' hl2=>by
   have hFs':s'[F]?=some (.lst (re t ds)):=(h3'.2 F (ec hFs) nF.1 nF.2.1 nF.2.2).trans hFs
   obtain⟨_,AL⟩:=xJ hc hg A_ q
   apply az
   ·exact cC (m8 (aY (fB (bV (am kv kn) ed rfl) rfl)) (nU (aY (bV (am kv (am kv (am (bw kv kv (jO (bY hFs') (fX (sF hq)))) kn))) (qZ hM hn #[0] hk2 q) rfl)) rfl)) c_
   apply dm
   ·exact bb kv
   ·exact⟨_,_,rfl,_,hm,q,k2,_,_,rfl,rfl,hq,hk2,h3.trans h3',hl2.trans hsl⟩
  apply az
  ·exact bb (w:=Pn.back.w) (eR (am bJ aQ) (ao rfl))
  apply az
  ·exact bb (w:=.int ((j:Int)-1)) (bw kv bJ rfl)
  by_cases hje:j<e
  ·obtain⟨s',k2,ed,hk2,h3',hl2⟩:=sA #[0]
   apply az
   ·exact dh (aY (bw kv kv (lY (bG #[0])))) (c5 (bb (w:=Pn.again.w) (eR (am bJ aQ) (ao rfl))) (bb (bw kv bJ dN)))
   exact one .again (j+1) s' k2 #[0] #[0] ed hk2 h3' hl2
  ·obtain⟨q,hq⟩:∃q,j=q+1:=⟨j-1,by omega⟩
   obtain⟨s',k2,ed,hk2,h3',hl2⟩:=sB q hq hj
   apply bD
   ·exact aY (bw kv kv (lY (a7 #[0])))
   apply bW
   rw[show((j:Int)-1)=((q:Nat):Int) by omega]
   exact one .back q s' k2 #[0] #[0] ed hk2 h3' hl2
 ·rintro m ρ s ⟨j,ke',o5,o6,rfl,rfl,hj,hk,h3,hsl⟩ hf
  have hje:j=e:=by
   by_cases h:j=e
   ·exact h
   ·have:=aY (bw (f:=KB) (fa:=ag 3) (fb:=ag 4) (ρ:=[lO L,some M.w,lO F,iO (j:Nat),iO (e:Nat),o5,o6]) (st:=s) kv kv (E_ (k:=true) (by rw[fm,bq];omega)))
    rw[this]at hf;cases hf
  subst hje
  apply bQ
  ·exact bJ
  ·exact⟨_,_,rfl,rfl,ke',hk,h3,hsl⟩
end
section
variable{M:Mc}{z':List au}{a b:Nat}{t:MT}{sd tk ds:List Dd}{d:Dd}
theorem zk{c m e:Str}{fs:FA}{z1 z2 z3:List au}{fl:List (Str×W)}(h:fo ρ z=.ok (.loc n) z1)(h3:z1[n]?=some (.obj c fl))(hm:fl.lookup m=none)(ha:fs ρ z1=.ok ws z2)(hn:ws.length+1=k)(hF:F (.loc n::ws) z2=.ex e z3):ig c m k F fo fs ρ z=.ex e z3:=by
 unfold ig
 rw[h];simp only[R.bind_ok,nS,h3]
 rw[aK ⟨trivial,hm⟩,ha];simp only[R.bind_ok]
 rw[aK hn,hF]
theorem Md(hz:kg M L a b t k [] tk z):ik [.loc L,Pn.back.w] z=.ex "NothingDone" z:=by
 have e:gn [.loc L] z=.ex "NothingDone" z:=vX (N:=2) (body:=qv) (ws:=[.loc L]) (eT (aY (bw (cr (am (dO kv hz.ob rfl) aQ) (oI (bY hz.s))) bJ (gk rfl))) (rG ⟨_,_,rfl,[],(a8 _).symm⟩))
 exact vX (N:=2) (body:=Jp) (ws:=[.loc L,Pn.back.w]) (az #[9] (az #[9] (az #[9] (az #[9] (DS (dh (aY (bw kx bJ (dZ rfl))) (BN (zk kv hz.ob rfl aQ rfl e))) ⟨_,_,rfl,[],(a8 _).symm⟩)))))
theorem CK(hz:kg M L a b t k sd [] z):ik [.loc L,Pn.again.w] z=.ex "NothingDone" z:=by
 have e:hZ [.loc L] z=.ex "NothingDone" z:=vX (N:=2) (body:=oP) (ws:=[.loc L]) (eT (aY (bw (cr (am (dO kv hz.ob rfl) aQ) (oI (bY hz.u))) bJ (gk rfl))) (rG ⟨_,_,rfl,[],(a8 _).symm⟩))
 exact vX (N:=2) (body:=Jp) (ws:=[.loc L,Pn.again.w]) (az #[9] (az #[9] (az #[9] (az #[9] (az #[9] (dm (BN (zk kv hz.ob rfl aQ rfl e)) ⟨_,_,rfl,[],(a8 _).symm⟩))))))
noncomputable abbrev VA:W:=.tup [.str [114,101,102,117,115,101,100],.bl true,.bl false,.bl false,.bl true,.bl false]
theorem Es{p:Pn}(e:ik [.loc L,p.w] z=.ex "NothingDone" z):Cm [.loc L,p.w] z=.ok VA z:=by
 have cx:(z++[au.exc "NothingDone"])[z.length]?=some (.exc "NothingDone"):=dG
 exact fv (N:=4) (body:=Nx) (ws:=[.loc L,p.w]) (az (bb bJ) (az (Ik (Ij (Ii (am kv kn) e rfl)) #[3] (bb (eR (am bJ (am (BO kv cx rfl) (am (BO kv cx rfl) (am (BO kv cx rfl) (am (BO kv cx rfl) (am (BO kv cx rfl) aQ)))))) (ao rfl)))) (bQ kv ⟨_,_,rfl,rfl,_,rfl⟩))) rfl
theorem QJ(st:List au):j_ 40 [VA,VA] st=.ok (.bl true) st:=t6 (k:=39) #[3] fun w hw=>by
 simp only[aX,eW,mO]at hw
 rcases hw with rfl|rfl|rfl|rfl|rfl|rfl
 ·exact Cr _ 38 st
 all_goals exact ze _ 38 st
theorem oY(hM:ng M n)(hn:1<=n)(ht:t.size<=100){p:Pn}(hz:kg M L a b t k sd tk z)(e:ik [.loc L,p.w] z=.ex "NothingDone" z):xr [.loc L,M.w,cb t.po,p.w] z=.ok (.bl true) z:=by
 refine fv (N:=5) (body:=Nz) (ws:=[.loc L,M.w,cb t.po,p.w]) ?_ rfl
 apply az
 ·exact bb (eR (am bJ (am bJ (am bJ (am bJ (am bJ (am bJ aQ)))))) (ao rfl))
 apply bQ
 ·exact qW (bV (am (bV (am kv kn) (Es e) rfl) kn) (QJ z) rfl) (bV (am kv (am kv (am kv (am bJ aQ)))) (qZ hM hn #[0] hz 1) rfl)
 ·exact⟨_,_,rfl,rfl,[],(a8 _).symm⟩
theorem K3.at{x:Nat}{c:au}(h:K3 L a b z z')(hx:z[x]?=some c)(hn:x≠L/\x≠a/\x≠b):z'[x]?=some c:=(h.2 x (ec hx) hn.1 hn.2.1 hn.2.2).trans hx
theorem kg.k3{L2 a2 b2:Nat}(h:kg M L2 a2 b2 t k sd tk z)(h3:K3 L a b z z')(n1:L2≠L/\L2≠a/\L2≠b)(n2:a2≠L/\a2≠a/\a2≠b)(n3:b2≠L/\b2≠a/\b2≠b):kg M L2 a2 b2 t k sd tk z':=⟨h3.at h.ob n1,h3.at h.s n2,h3.at h.u n3,h.la,h.lb,h.ab,h.ls,h.lu⟩
theorem Fs{F:Nat}(hF:z[F]?=some (.lst (re t ds))):bv (.loc F) (.int (-1)) z=.ok (cb (oX t ds).po) z:=by
 refine jO (bY hF) (q:=-(((0:Nat):Int)+1)) (w4 ?_)
 rw[fU (by rw[me];omega),me,show ds.length+1-1-0=ds.length by omega,sF (aA _),uc]
structure Sv(M:Mc)(ns:List Int)(L L2 a2 b2 F:Nat)(t:MT)(a b k kt:Nat)(ds:List Dd)(i:Nat)(z:List au):Prop where
 ks:kg M L a b (oX t ds) k ds.reverse [] z
 kt:kg M L2 a2 b2 t kt [] [] z
 r0:z[0]?=some (.ro (ns.map W.int))
 f:z[F]?=some (.lst (re t ds))
 ch:Ep t ds
 ln:ds.length<=i
 n0:0≠L/\0≠a/\0≠b
 nf:F≠L/\F≠a/\F≠b
 n1:L2≠L/\L2≠a/\L2≠b
 n2:a2≠L/\a2≠a/\a2≠b
 n3:b2≠L/\b2≠a/\b2≠b
 m:F≠0/\F≠L2/\F≠a2/\F≠b2/\0≠L2/\0≠a2/\0≠b2
abbrev lR(M:Mc)(t:MT)(pool:List Nat)(L L2 F:Nat)(many:Nat)(o8 o9 o10 Wu Wt:Option W):cW:=[lO 0,some M.w,some (cb t.po),some (.str pool),lO L,lO L2,lO F,iO (many:Nat),o8,o9,o10,Wu,Wt]
abbrev lB:FS:=(aM (bd 9 (b8 5 rM (ah (ag 0) (ah (ag 8) (ah (eI 8) (ah (e2 bv (ag 6) (sf (eI 1))) (ah (ag 3) aD))))))) (aM (bd 10 (b8 2 qw (ah (e2 bv (ag 6) (sf (eI 1))) (ah (ag 9) aD)))) (gA (eP (e2 Gi (bK dH (ah (ag 10) aD)) (eI 100))) (aM (dq (b8 2 ik (ah (ag 4) (ah (ag 9) aD)))) (dq (oG cv (ag 6) (ah (ag 10) aD)))) bX)))
theorem Me(hM:ng M n)(hn:1<=n)(ou:pool.length=4)(AO:∀d∈pool,d∈LL)(Mg:pool.Nodup){F L2 a2 b2 kt many:Nat}{o9 o10:Option W}(hg:xH t)(A_:t.size<=100)(hv:Sv M ns L L2 a2 b2 F t a b k kt ds i z)(hi:i<100) :
  ∃(a' b' k':Nat) (VL:List Dd) (QO VB:Option W) (z2:List au),lB (lR M t pool L L2 F many (iO (i:Nat)) o9 o10 none none) z=.nx (lR M t pool L L2 F many (iO (i:Nat)) QO VB none none) z2/\Sv M ns L L2 a2 b2 F t a' b' k' kt VL (i+1) z2:=by
 have hln:=hv.ln
 obtain⟨gE,sE⟩:=xJ hv.ch hg A_ ds.length
 rw[uc]at gE sE
 obtain⟨p,hp,hpm,e⟩:=xI hv.r0 (i:Nat) (t:=oX t ds) ou AO Mg 8 #[3]
 have e:rM [.loc 0,.int (i:Nat),.int 8,cb (oX t ds).po,.str pool] z=.ok p.w z:=e
 obtain⟨t2,s,ws,g2,hw,_,_,_,Fy,hdo⟩:=NI hM hn hp (fun e=>absurd (hpm (.inl e)) #[3]) (fun e=>absurd (hpm (.inr e)) #[3]) sE gE
 have hl:=Fs hv.f
 have e1:bd 9 (b8 5 rM (ah (ag 0) (ah (ag 8) (ah (eI 8) (ah (e2 bv (ag 6) (sf (eI 1))) (ah (ag 3) aD)))))) (lR M t pool L L2 F many (iO (i:Nat)) o9 o10 none none) z=.nx (lR M t pool L L2 F many (iO (i:Nat)) (some p.w) o10 none none) z:=bb (bV (am kv (am kv (am bJ (am (bw kv (vq bJ) hl) kn)))) e rfl)
 have e10:bd 10 (b8 2 qw (ah (e2 bv (ag 6) (sf (eI 1))) (ah (ag 9) aD))) (lR M t pool L L2 F many (iO (i:Nat)) (some p.w) o10 none none) z=.nx (lR M t pool L L2 F many (iO (i:Nat)) (some p.w) (some (cb t2.po)) none none) z:=bb (bV (am (bw kv (vq bJ) hl) kn) (Fy z) rfl)
 have hl2:dH [cb t2.po] z=.ok (.int (t2.size:Nat)) z:=by have:=gR t2.po z;rwa[MT.po_len]at this
 by_cases h:t2.size<=100
 ·obtain⟨d,dk,da,db,hdo⟩:=hdo h
  obtain⟨z2,ed,hk2,h3⟩:=hdo hv.ks (by rw[gJ];omega)
  have zF:=h3.at hv.f hv.nf
  have z0:=h3.at hv.r0 hv.n0
  have kt2:=hv.kt.k3 h3 hv.n1 hv.n2 hv.n3
  have lz:=ec hv.f
  have eB:lB (lR M t pool L L2 F many (iO (i:Nat)) o9 o10 none none) z=.nx (lR M t pool L L2 F many (iO (i:Nat)) (some p.w) (some (cb t2.po)) none none) (z2.set F (.lst (re t ds++[cb t2.po]))):=
   c5 e1 (c5 e10 (dh (aY (bw (cr kn hl2) bJ (BJ (bG #[0])))) (c5 (dX (bV (am kv kn) ed rfl)) (dX (jV kv (d9 zF) kn (qA zF (by rw[me];omega)))))))
  have ew:=Fq t ds d ds.length (aA _)
  rw[bn (by rw[me];omega),cK,db]at ew
  refine⟨a,z.length,d.ct M,ds++[d],_,_,_,eB,?_⟩
  have lt0:=ec hv.r0
  have l1:=ec hv.kt.ob
  have l2:=ec hv.kt.s
  have l3:=ec hv.kt.u
  refine⟨?_,kt2.fr (cQ hv.m.2.1) (cQ hv.m.2.2.1) (cQ hv.m.2.2.2.1),by rw[cQ hv.m.1];exact z0,by rw[<- ew];exact fw zF,hv.ch.app da ⟨dk,by rw[da];exact gE,by rw[db];exact g2⟩,by rw[ai,bu];omega,⟨hv.n0.1,hv.n0.2.1,by omega⟩,⟨hv.nf.1,hv.nf.2.1,by omega⟩,⟨hv.n1.1,hv.n1.2.1,by omega⟩,⟨hv.n2.1,hv.n2.2.1,by omega⟩,⟨hv.n3.1,hv.n3.2.1,by omega⟩,hv.m⟩
  rw[t9,gK,db]
  exact hk2.fr (cQ hv.nf.1) (cQ hv.nf.2.1) (cQ #[0])
 ·have eB:lB (lR M t pool L L2 F many (iO (i:Nat)) o9 o10 none none) z=.nx (lR M t pool L L2 F many (iO (i:Nat)) (some p.w) (some (cb t2.po)) none none) z:=
   c5 e1 (c5 e10 (cC (aY (bw (cr kn hl2) bJ (BJ (a7 #[0])))) c_))
  exact⟨a,b,k,ds,_,_,z,eB,{ hv with ln:=by omega }⟩
end
theorem Mf{x y:Int}(h0:st[0]?=some (.ro (ns.map W.int)))(hρ:ρ[0]?=some (lO 0))(hx:0<=x/\x<=58):∃m:Nat,m<=58/\bK Ge (ah (eC (.int x)) (ah (bK DC (ah (eI 3) (ah (e2 lF (bK dH (ah (ag 0) aD)) (eC (.int y))) aD))) aD)) ρ st=.ok (.int (m:Nat)) st:=by
 have hln:=oI (tF h0)
 have a1:bK Ge (ah (eC (.int x)) (ah (bK DC (ah (eI 3) (ah (e2 lF (bK dH (ah (ag 0) aD)) (eC (.int y))) aD))) aD)) ρ st=.ok (.int (if (if ((ns.map W.int).length:Int)-y>3 then((ns.map W.int).length:Int)-y else 3)<x then(if ((ns.map W.int).length:Int)-y>3 then((ns.map W.int).length:Int)-y else 3)else x)) st:=
  cr (am bJ (am (cr (am bJ (am (bw (cr (am (kB hρ) aQ) hln) bJ rfl) aQ)) SD) aQ)) rfl
 generalize hq:(if (if ((ns.map W.int).length:Int)-y>3 then((ns.map W.int).length:Int)-y else 3)<x then(if ((ns.map W.int).length:Int)-y>3 then((ns.map W.int).length:Int)-y else 3)else x)=q at a1
 have hq1:0<=q/\q<=x:=by rw[<- hq];split<;>split<;>omega
 obtain⟨m,rfl⟩:∃m:Nat,q=m:=⟨q.toNat,by omega⟩
 exact⟨m,by omega,a1⟩
theorem law_ok:MG f_q45:=by
 intro ns VS
 suffices hh:k_ (A9 fun w bh=>w=.bl true) (NA ([W.loc 0].map some++List.replicate (13-1) none) [.ro (ns.map W.int)]) by
  obtain⟨w,bh,e,rfl⟩:=hh
  exact⟨_,jt e⟩
 have h0:([au.ro (ns.map W.int)]:List au)[0]?=some (.ro (ns.map W.int)):=rfl
 have hl0:([au.ro (ns.map W.int)]:List au).length=1:=rfl
 generalize hs0:([au.ro (ns.map W.int)]:List au)=s0 at h0 hl0
 obtain⟨M,n,t,pool,hM,hn,A_,htg,ou,AO,Mg,es⟩:=J1 h0
 have A_:t.size<=100:=by omega
 apply az
 ·exact zc (bV kn es rfl) rfl
 obtain⟨z1,ei,hk,CS⟩:=Fp hM hn (t:=t) #[0] s0
 rw[hl0]at hk
 apply az
 ·exact bb (JX (am kv kn) rfl ei)
 rw[hl0]
 have r1:z1[0]?=some (.ro (ns.map W.int)):=pre_get CS h0
 obtain⟨z2,ei2,hk2,hpre2⟩:=Fp hM hn (t:=t) #[0] z1
 apply az
 ·exact bb (JX (am kv kn) rfl ei2)
 have r2:z2[0]?=some (.ro (ns.map W.int)):=pre_get hpre2 r1
 have hk':kg M 1 2 3 t t.size [] [] z2:=⟨pre_get hpre2 hk.ob,pre_get hpre2 hk.s,pre_get hpre2 hk.u,hk.la,hk.lb,hk.ab,hk.ls,hk.lu⟩
 have l1:=ec hk.u
 have l2:=ec hk2.u
 generalize z1.length=L2 at *
 apply az
 ·exact bb (qj kn (ao rfl))
 have hF:(z2++[au.lst [cb t.po]])[z2.length]?=some (.lst (re t [])):=dG
 have r3:(z2++[au.lst [cb t.po]])[0]?=some (.ro (ns.map W.int)):=dJ r2
 obtain⟨many,hmany,em⟩:=Mf (ρ:=[lO 0,some M.w,some (cb t.po),some (.str pool),lO 1,lO L2,lO z2.length,none,none,none,none,none,none]) (x:=58) (y:=5) r3 rfl #[3]
 apply az
 ·exact bb em
 have hv0:Sv M ns 1 L2 (L2+1) (L2+2) z2.length t 2 3 t.size t.size [] 0 (z2++[au.lst [cb t.po]]):=⟨hk'.app,hk2.app,r3,hF,trivial,aA _,⟨by omega,by omega,by omega⟩,⟨by omega,by omega,by omega⟩,⟨by omega,by omega,by omega⟩,⟨by omega,by omega,by omega⟩,⟨by omega,by omega,by omega⟩,⟨by omega,by omega,by omega,by omega,by omega,by omega,by omega⟩⟩
 generalize z2.length=F at *
 generalize z2++[au.lst [cb t.po]]=z at *
 obtain⟨ρ2,de,e2',a,b,k,ds,o8,o9,o10,rfl,hv⟩:=wZ (f:=kJ 8) (body:=lB) (ck:=none) (fun i ρ st=>∃a b k ds o8 o9 o10,ρ=lR M t pool 1 L2 F many o8 o9 o10 none none/\Sv M ns 1 L2 (L2+1) (L2+2) F t a b k t.size ds i st) (ws:=gO 0 many) (ρ:=lR M t pool 1 L2 F many none none none none none) (st:=z) 0 ⟨2,3,t.size,[],none,none,none,rfl,hv0⟩ (fun _ _ _ _=>trivial) fun i w ρ st hw hI=>by
  obtain⟨a,b,k,ds,o8,o9,o10,rfl,UK⟩:=hI
  obtain⟨hi,rfl⟩:=kL hw
  rw[mi]at UK ⊢
  obtain⟨a',b',k',VL,p9,p10,z2,er2,hv2⟩:=Me (many:=many) (o9:=o9) (o10:=o10) hM hn ou AO Mg htg A_ UK #[0]
  exact⟨lR M t pool 1 L2 F many (iO (i:Nat)) o9 o10 none none,_,z2,by rw[uj];rfl,er2,a',b',k',VL,_,p9,p10,rfl,hv2⟩
 have er:dQ (ah (ag 7) aD) (lR M t pool 1 L2 F many none none none none none) z=.ok (gO 0 many,none) z:=by
  have:=j9 (fs:=ah (ag 7) aD) (ρ:=lR M t pool 1 L2 F many none none none none none) (st:=z) (q:=(many:Int)) kn #[0]
  rwa[cf]at this
 rw[mi,show(gO 0 many).length=many from fL 0 many]at hv
 apply az
 ·exact(E7 er).trans e2'
 have hln:=hv.ln
 obtain⟨gE,sE⟩:=xJ hv.ch htg A_ ds.length
 rw[uc]at gE sE
 have hl:=Fs hv.f
 obtain⟨z3,ew,hk3,k3⟩:=xG hM hn A_ sE hv.kt (jb 999)
 have n1:=hv.n1
 have n2:=hv.n2
 have n3:=hv.n3
 have m:=hv.m
 have lz1:=ec hv.ks.ob
 have lz2:=ec hv.ks.s
 have lz3:=ec hv.ks.u
 have lz4:=ec hv.kt.ob
 have lz5:=ec hv.kt.s
 have lz6:=ec hv.f
 have lz7:=ec hv.r0
 have hkk:kg M 1 a b (oX t ds) k ds.reverse [] z3:=hv.ks.k3 k3 ⟨by omega,by omega,by omega⟩ ⟨by omega,by omega,by omega⟩ ⟨by omega,by omega,by omega⟩
 have f3:=k3.at hv.f ⟨m.2.1,m.2.2.1,m.2.2.2.1⟩
 have r3:=k3.at hv.r0 ⟨m.2.2.2.2.1,m.2.2.2.2.2.1,m.2.2.2.2.2.2⟩
 apply az
 ·exact dX (h_ kv hv.kt.ob rfl (am (bw kv (vq bJ) hl) aQ) rfl ew)
 obtain⟨B2,hB2⟩:∃B2,B2=de.length:=⟨_,rfl⟩
 rw[<- hB2]at hk3
 have hlF:dH [.loc F] z3=.ok (.int (ds.length+1:Nat)) z3:=by have:=oI (bY f3);rwa[me]at this
 obtain⟨c1,ec1⟩:=oQ r3 1
 obtain⟨x1,_,ex1⟩:=xu c1 0 600011 #[3] z3
 obtain⟨m1,hm1,em1⟩:=hX (q:=x1) (n:=ds.length+1) #[0]
 apply az
 ·exact bb (w:=.int (((ds.length+1:Nat):Int)-1-x1%((ds.length+1:Nat):Int))) (bw (bw (cr kn hlF) bJ rfl) (bw (bV (am (bV (am kv (am bJ aQ)) ec1 rfl) (am bJ (am bJ aQ))) ex1 rfl) (cr kn hlF) (jn #[0])) rfl)
 obtain⟨dn,hdn⟩:∃dn:Nat,dn=ds.length-m1:=⟨_,rfl⟩
 rw[em1,show((ds.length+1:Nat):Int)-1-(m1:Int)=(dn:Int) by omega]
 have yw:(0:Int)<((ds.length+1:Nat):Int)-(dn:Int):=by omega
 obtain⟨c2,ec2⟩:=oQ r3 2
 obtain⟨x2,_,ex2⟩:=xu c2 0 700001 #[3] z3
 obtain⟨m2,hm2,em2⟩:=hX (q:=x2) (n:=ds.length+1-dn) #[0]
 apply az
 ·exact bb (w:=.int ((dn:Int)+x2%(((ds.length+1:Nat):Int)-(dn:Int)))) (bw kv (bw (bV (am (bV (am kv (am bJ aQ)) ec2 rfl) (am bJ (am bJ aQ))) ex2 rfl) (bw (cr kn hlF) kv rfl) (jn yw)) dN)
 obtain⟨up,hup⟩:∃up:Nat,up=dn+m2:=⟨_,rfl⟩
 rw[show((ds.length+1:Nat):Int)-(dn:Int)=((ds.length+1-dn:Nat):Int) by omega,em2,show(dn:Int)+(m2:Int)=(up:Int) by omega]
 have hupl:up<=ds.length:=by omega
 have hk4:kg M 1 a b (t_ t ds ds.length) k (ds.take ds.length).reverse (ds.drop ds.length) z3:=by rw[uc,cK,List.drop_length];exact hkk
 obtain⟨z4,k4,ew4,hk5,k34,hl4⟩:=q5 hM hn hv.ch #[0] htg A_ f3 hv.nf (aA _) (show dn<=ds.length by omega) hk4
 apply az
 ·refine cC (nU (aY (bV (am kv (am kv (am kv (am (x:=.int (ds.length:Nat)) ?_ kn)))) ew4 rfl)) rfl) c_
  have:=bw (f:=lF) (fa:=bK dH (ah (ag 6) aD)) (fb:=eC (.int 1)) (z:=.int (((ds.length+1:Nat):Int)-1)) (ρ:=lR M t pool 1 L2 F many o8 o9 o10 (iO (dn:Nat)) (iO (up:Nat))) (cr kn hlF) bJ rfl
  rw[show((ds.length+1:Nat):Int)-1=(ds.length:Int) by omega]at this
  exact this
 have f4:=k34.at f3 hv.nf
 obtain⟨z5,k5,ew5,hk6,k45,hl5⟩:=q5 hM hn hv.ch #[0] htg A_ f4 hv.nf (show dn<=ds.length by omega) hupl hk5
 apply az
 ·exact cC (nU (aY (bV (am kv (am kv (am kv (am kv kn)))) ew5 rfl)) rfl) c_
 have k35:=k34.trans k45
 have f5:=k35.at f3 hv.nf
 have r5:=k35.at r3 hv.n0
 have tw5:kg M L2 (L2+1) B2 (oX t ds) (oX t ds).size [Dd.wh t (oX t ds)] [] z5:=hk3.k3 k35 n1 n2 ⟨by omega,by omega,by omega⟩
 have q1:=ec tw5.ob
 have q2:=ec tw5.s
 have q3:=ec tw5.u
 obtain⟨gU,sU⟩:=xJ hv.ch htg A_ up
 obtain⟨p,hp,hpm,ep⟩:=xI r5 (many:Nat) (t:=t_ t ds up) ou AO Mg 8 #[3]
 have ep:rM [.loc 0,.int (many:Nat),.int 8,cb (t_ t ds up).po,.str pool] z5=.ok p.w z5:=ep
 obtain⟨t2,s,ws,g2,_,_,_,_,Fy,hdo⟩:=NI hM hn hp (fun e=>absurd (hpm (.inl e)) #[3]) (fun e=>absurd (hpm (.inr e)) #[3]) sU gU
 have iU:bv (.loc F) (.int (up:Nat)) z5=.ok (cb (t_ t ds up).po) z5:=jO (bY f5) (fX (sF hupl))
 have i0:bv (.loc F) (.int 0) z5=.ok (cb t.po) z5:=jO (bY f5) (fX (q:=0) (sF (i:=0) (bZ _)))
 apply az
 ·exact bb (bV (am kv (am kv (am bJ (am (bw kv kv iU) kn)))) ep rfl)
 apply az
 ·exact bb (bV (am (bw kv kv iU) kn) (Fy z5) rfl)
 have hl2:dH [cb t2.po] z5=.ok (.int (t2.size:Nat)) z5:=by have:=gR t2.po z5;rwa[MT.po_len]at this
 obtain⟨pw,d,t3,dk,da,db,g3,s3,e9,z6,ed,hk7,k56⟩:∃(pw:Pn) (d:Dd) (t3:MT),d.ok/\d.a=t_ t ds up/\d.b=t3/\xH t3/\t3.size<=100/\gA (eP (e2 Gb (bK dH (ah (ag 10) aD)) (eI 100))) (aM (bd 9 (fK (ah (eC (.str [119,104,111,108,101])) (ah (e2 bv (ag 6) (eI 0)) aD)))) (bd 10 (e2 bv (ag 6) (eI 0)))) bX ([lO 0,some M.w,some (cb t.po),some (.str pool),lO 1,lO L2,lO F,iO (many:Nat),o8,some p.w,some (cb t2.po),iO (dn:Nat),iO (up:Nat)]) z5=.nx [lO 0,some M.w,some (cb t.po),some (.str pool),lO 1,lO L2,lO F,iO (many:Nat),o8,some pw.w,some (cb t3.po),iO (dn:Nat),iO (up:Nat)] z5/\∃z6,ik [.loc 1,pw.w] z5=.ok .non z6/\kg M 1 a z5.length t3 (d.ct M) (d::(ds.take up).reverse) [] z6/\K3 1 a b z5 z6:=by
  by_cases h:t2.size<=100
  ·obtain⟨d,dk,da,db,hdo⟩:=hdo h
   obtain⟨z6,ed,hk7,k56⟩:=hdo hk6 (by rw[gJ,aF];omega)
   exact⟨p,d,t2,dk,da,db,g2,h,cC (aY (bw (cr kn hl2) bJ (lY (a7 #[0])))) c_,z6,ed,hk7,k56⟩
  ·obtain⟨z6,ed,hk7,k56⟩:=xG hM hn sU A_ hk6 (by rw[gJ,aF];omega)
   exact⟨.wh t,.wh (t_ t ds up) t,t,⟨sU,A_⟩,rfl,rfl,htg,A_,dh (aY (bw (cr kn hl2) bJ (lY (bG #[0])))) (c5 (bb (eR (am bJ (am (bw kv bJ i0) aQ)) (ao rfl))) (bb (bw kv bJ i0))),z6,NH ed hk6.ob (jo _ hk6 hk7),hk7,k56⟩
 apply az
 ·exact e9
 apply az
 ·exact dX (bV (am kv kn) ed rfl)
 have f6:=k56.at f5 hv.nf
 have tw6:=tw5.k3 k56 n1 n2 ⟨by omega,by omega,by omega⟩
 have wa:=Fq t ds d up hupl
 rw[db]at wa
 have hch2:Ep t (ds.take up++[d]):=(hv.ch.take up).app da ⟨dk,by rw[da];exact gU,by rw[db];exact g3⟩
 have Ra:(ds.take up++[d]).length=up+1:=by rw[ai,aF,bu];omega
 have esl:wG (.loc F) none (some ((up:Int)+1)) z6=.ok (.loc z6.length) (z6++[.lst ((re t ds).take (up+1))]):=by
  rw[MH (bY f6),show((up:Int)+1)=((up+1:Nat):Int)from rfl,m_ (by rw[me];omega)]
 have e6:e2 cO (rC (ag 6) gN (eX (e2 cO (ag 12) (eI 1)))) (l8 (ah (ag 10) aD)) [lO 0,some M.w,some (cb t.po),some (.str pool),lO 1,lO L2,lO F,iO (many:Nat),o8,some pw.w,some (cb t3.po),iO (dn:Nat),iO (up:Nat)] z6=.ok (.loc (z6.length+2)) (z6++[.lst ((re t ds).take (up+1)),.lst [cb t3.po],.lst (re t (ds.take up++[d]))]):=by
  have a1:=Ph (st:=z6++[.lst ((re t ds).take (up+1)),.lst [cb t3.po]]) (n:=z6.length) (m:=z6.length+1) (ws:=(re t ds).take (up+1)) (xs:=[cb t3.po]) (by rw[dR];rfl) (by rw[iD];rfl) (by rw[wa,me];show _<=1000000;omega)
  rw[wa]at a1
  have a2:z6++[au.lst ((re t ds).take (up+1))]++[.lst [cb t3.po]]=z6++[.lst ((re t ds).take (up+1)),.lst [cb t3.po]]:=by rw[al];rfl
  have a3:(z6++[au.lst ((re t ds).take (up+1)),.lst [cb t3.po]]).length=z6.length+2:=by simp
  have a4:(z6++[au.lst ((re t ds).take (up+1))]).length=z6.length+1:=by simp
  rw[a3]at a1
  have a5:=qj (fs:=ah (ag 10) aD) (ρ:=[lO 0,some M.w,some (cb t.po),some (.str pool),lO 1,lO L2,lO F,iO (many:Nat),o8,some pw.w,some (cb t3.po),iO (dn:Nat),iO (up:Nat)]) (st:=z6++[.lst ((re t ds).take (up+1))]) kn (ao rfl)
  rw[a2,a4]at a5
  refine(bw (nC kv tz (nz (bw kv bJ dN)) esl) a5 a1).trans ?_
  rw[al];rfl
 apply az
 ·exact bb e6
 have hk8:=hk7.app (x:=[.lst ((re t ds).take (up+1)),.lst [cb t3.po],.lst (re t (ds.take up++[d]))])
 have tw8:=tw6.app (x:=[.lst ((re t ds).take (up+1)),.lst [cb t3.po],.lst (re t (ds.take up++[d]))])
 have f8:(z6++[.lst ((re t ds).take (up+1)),.lst [cb t3.po],.lst (re t (ds.take up++[d]))])[z6.length+2]?=some (.lst (re t (ds.take up++[d]))):=by rw[iD];rfl
 have hz56:=k56.1
 have hz35:=k35.1
 have k3l:=k3.1
 have twl:=ec tw6.u
 have hkl:=ec hk7.u
 generalize z6++[au.lst ((re t ds).take (up+1)),.lst [cb t3.po],.lst (re t (ds.take up++[d]))]=z7 at *
 generalize hF2:z6.length+2=F2 at *
 generalize hB:z5.length=B at *
 generalize hD:ds.take up++[d]=D at *
 have nF2:F2≠1/\F2≠a/\F2≠B:=⟨by omega,by omega,by omega⟩
 have tE:t_ t D (up+1)=t3:=by
  rw[<- Ra,uc,<- hD,t9,db]
 have t0:t_ t D 0=t:=rfl
 have hrv:(d::(ds.take up).reverse)=(D.take (up+1)).reverse:=by
  rw[<- Ra,cK,<- hD,gK];rfl
 have hdr:D.drop (up+1)=[]:=by rw[<- Ra,List.drop_length]
 have hk8:kg M 1 a B (t_ t D (up+1)) (d.ct M) (D.take (up+1)).reverse (D.drop (up+1)) z7:=by rw[tE,<- hrv,hdr];exact hk8
 have hk8n:kg M 1 a B t3 (d.ct M) (D.take (up+1)).reverse [] z7:=by rw[<- tE,<- hdr];exact hk8
 apply az
 ·exact cC (nU (aY (bV (am kv (am kv (am kv (am (x:=Pn.again.w) (eR (am bJ aQ) (ao rfl)) aQ)))) (oY hM hn s3 hk8n (CK hk8n)) rfl)) rfl) c_
 obtain⟨z8,k8,ew8,hk9,k78,hl8⟩:=q5 hM hn hch2 #[0] htg A_ f8 nF2 (show up+1<=D.length by omega) (bZ _) hk8
 have hk9n:kg M 1 a B t k8 [] (D.drop 0) z8:=hk9
 apply az
 ·refine cC (m8 (nU (aY (bV (am kv (am kv (am kv (am (bw kv bJ dN) (am bJ aQ))))) ew8 rfl)) rfl) (nU (aY (bV (am kv (am kv (am kv (am (x:=Pn.back.w) (eR (am bJ aQ) (ao rfl)) aQ)))) (oY hM hn A_ hk9n (Md hk9n)) rfl)) rfl)) c_
 have f9:=k78.at f8 nF2
 obtain⟨z9,k9,ew9,hk10,k89,hl9⟩:=q5 hM hn hch2 #[0] htg A_ f9 nF2 (bZ _) (show up+1<=D.length by omega) hk9
 have hk10n:kg M 1 a B t3 k9 (D.take (up+1)).reverse [] z9:=by rw[<- tE,<- hdr];exact hk10
 apply az
 ·exact cC (m8 (nU (aY (bV (am kv (am kv (am kv (am bJ (am (bw kv bJ dN) aQ))))) ew9 rfl)) rfl) (nU (aY (bV (am kv (am kv (am kv (am (x:=Pn.again.w) (eR (am bJ aQ) (ao rfl)) aQ)))) (oY hM hn s3 hk10n (CK hk10n)) rfl)) rfl)) c_
 have k79:=k78.trans k89
 have tw9:kg M L2 (L2+1) B2 (Dd.wh t (oX t ds)).b (oX t ds).size [Dd.wh t (oX t ds)] [] z9:=tw8.k3 k79 ⟨by omega,by omega,by omega⟩ ⟨by omega,by omega,by omega⟩ ⟨by omega,by omega,by omega⟩
 obtain⟨z10,eb,hkb,k910,_⟩:=Fl hM hn (d:=Dd.wh t (oX t ds)) ⟨A_,sE⟩ tw9 (jb 999)
 have hkb:kg M L2 (L2+1) B2 t ((Dd.wh t (oX t ds)).tn.ct M) [] [Dd.wh t (oX t ds)] z10:=hkb
 have hk11:=hk10n.k3 k910 ⟨by omega,by omega,by omega⟩ ⟨by omega,by omega,by omega⟩ ⟨by omega,by omega,by omega⟩
 apply az
 ·exact dX (h_ kv tw9.ob rfl aQ rfl eb)
 apply bQ
 ·exact qW (bV (am kv (am kv (am kv (am bJ aQ)))) (qZ hM hn #[0] hkb 1) rfl) (bV (am kv (am kv (am kv (am bJ aQ)))) (qZ hM hn #[0] hk11 2) rfl)
 ·exact⟨_,_,rfl,rfl⟩
theorem all_mk{l:PySem.W.OpenLaw}{w:World}{fa:Addr}(X:K.In h)(G:h.Ns mainGlobals mg)(WB:mg "law"=some (.ref fa))
  {EB:Addr} {QK Kq:Option Addr} {QL:Array (Option Value)} {QT Ko Kf J3 Eu Kr:Value} {fC:Addr} {bA:Addr} {n6:Addr} {iu:Addr} {cV:Addr} {kS:Addr} {cG:Addr} {og:Addr} {n_:Addr} {bF:Addr} {iw:Addr} {yz:Tok}
  (ED:DefIn K "in_order" Pp)
  (CO:DefIn K "letter_of" Pq)
  (Ex:DefIn K "has_left" Pr)
  (CN:DefIn K "has_right" Ps)
  (EE:DefIn K "links_of" Pt)
  (Kt:DefIn K "ups_of" Pu)
  (GI:DefIn K "up_from" Pv)
  (EC:DefIn K "sizes_of" Pw)
  (yq:DefIn K "check_place" Px)
  (AY:DefIn K "check_size" Ir)
  (GJ:DefIn K "part_at" Iu)
  (yC:DefIn K "branches_at" Iv)
  (Ev:DefIn K "with_top" Iw)
  (AV:DefIn K "branch_put" Iy)
  (AS:DefIn K "room_below" Iz)
  (GH:DefIn K "room_at" IA)
  (Et:DefIn K "rooms_of" IC)
  (Kb:DefIn K "turned" ID)
  (AU:DefIn K "with_marks" IF)
  (xQ:DefIn K "branch_rooms" IG)
  (GG:DefIn K "climbed" IH)
  (CL:DefIn K "_law_cell" II)
  (AW:DefIn K "_law_mixed" IJ)
  (A6:DefIn K "_law_draws" IL)
  (C2:DefIn K "_law_same" IM)
  (CQ:DefIn K "_law_pool" IQ)
  (AX:DefIn K "_law_marks" IR)
  (C1:DefIn K "_law_tree" IS)
  (AN:DefIn K "_law_links" IT)
  (xR:DefIn K "_law_machine" IU)
  (yp:DefIn K "_law_letter" IV)
  (EA:DefIn K "_law_run" IW)
  (CT:DefIn K "_law_lets" IX)
  (AQ:DefIn K "_law_sizes" IY)
  (yu:DefIn K "_law_bounds" IZ)
  (vQ:DefIn K "_law_branched" I_)
  (AI:DefIn K "_law_start" Ja)
  (xM:DefIn K "_law_planned" Jb)
  (xP:DefIn K "_law_changed" Jc)
  (AJ:DefIn K "_law_doing" Jd)
  (yB:DefIn K "_law_stands" Je)
  (xK:DefIn K "_law_refused" Jf)
  (yr:DefIn K "_law_walked" Jg)
  (va:DefIn K "_law_none_left" Jh)
  (NO:nsIn K mainGlobals "law"=some (some (.ref EB)))
  (T_:K.lookup EB=some ⟨QT,QK,.func (fnOf "law" "law" (iW tO) (hU tO) (aO tO) .none Ko Kf J3 Kq Eu Kr),QL⟩)
  (GL:codeIn K Eu "law"=true)
  (T9:keepIn K (.ref EB)=true)
  (kh:nsIn K mainGlobals "Kept"=some (some (.ref fC)))
  (cl_Kept:L2.Cls K fC)
  (vP:findIn K (.ref fC) "machine"=some none)
  (AT:findIn K (.ref fC) "many"=some none)
  (yy:findIn K (.ref fC) "rooms"=some none)
  (u9:findIn K (.ref fC) "standing"=some none)
  (sH:findIn K (.ref fC) "taken_back"=some none)
  (AR:findIn K (.ref fC) "tree"=some none)
  (Mh:makesIn K fC=true)
  (Mj:keepIn K (.ref fC)=true)
  (dm_Kept___init__:DefM K fC "Kept.__init__" "__init__" lJ)
  (dm_Kept_carry_out:DefM K fC "Kept.carry_out" "carry_out" kM)
  (dm_Kept_do_deed:DefM K fC "Kept.do_deed" "do_deed" mx)
  (dm_Kept_mark_deed:DefM K fC "Kept.mark_deed" "mark_deed" kN)
  (dm_Kept_put:DefM K fC "Kept.put" "put" su)
  (dm_Kept_take:DefM K fC "Kept.take" "take" ql)
  (dm_Kept_branch:DefM K fC "Kept.branch" "branch" nD)
  (dm_Kept_whole:DefM K fC "Kept.whole" "whole" oM)
  (dm_Kept_back:DefM K fC "Kept.back" "back" qo)
  (dm_Kept_again:DefM K fC "Kept.again" "again" oN)
  (dm_Kept_tree_now:DefM K fC "Kept.tree_now" "tree_now" lK)
  (dm_Kept_rooms_now:DefM K fC "Kept.rooms_now" "rooms_now" kO)
  (dm_Kept_lets_now:DefM K fC "Kept.lets_now" "lets_now" lM)
  (ef:nsIn K mainGlobals "TrunkError"=some (some (.ref bA)))
  (J5:nsIn K mainGlobals "NoTree"=some (some (.ref n6)))
  (yA:nsIn K mainGlobals "NoStatement"=some (some (.ref iu)))
  (jR:nsIn K mainGlobals "NoPlace"=some (some (.ref cV)))
  (Ez:nsIn K mainGlobals "NoNumber"=some (some (.ref kS)))
  (iP:nsIn K mainGlobals "TooGreat"=some (some (.ref cG)))
  (Kd:nsIn K mainGlobals "NoName"=some (some (.ref og)))
  (J6:nsIn K mainGlobals "NoLine"=some (some (.ref n_)))
  (fG:nsIn K mainGlobals "NothingDone"=some (some (.ref bF)))
  (yo:nsIn K mainGlobals "NothingHeld"=some (some (.ref iw)))
  (x_TrunkError:excIn K bA q_ rF=true)
  (jp:findIn K (.ref bA) "__getattribute__"=some (some (.builtin "BaseException.__getattribute__")))
  (jq:findIn K (.ref bA) "__getattr__"=some none)
  (jr:findIn K (.ref bA) "__class__"=some (some (.builtin "object.__class__")))
  (w_TrunkError_NoPlace:kitOne K (.ref bA) (.ref cV)=some false)
  (w_TrunkError_NothingDone:kitOne K (.ref bA) (.ref bF)=some false)
  (w_TrunkError_TooGreat:kitOne K (.ref bA) (.ref cG)=some false)
  (w_TrunkError_t0:kitAny K (.ref bA) ([n6,iu,kS,og,n_,iw].map Value.ref)=some false)
  (w_TrunkError_VE:kitOne K (.ref bA) (.type "ValueError")=some true)
  (x_NoPlace:excIn K cV q_ rF=true)
  (mE:findIn K (.ref cV) "__getattribute__"=some (some (.builtin "BaseException.__getattribute__")))
  (mD:findIn K (.ref cV) "__getattr__"=some none)
  (mC:findIn K (.ref cV) "__class__"=some (some (.builtin "object.__class__")))
  (w_NoPlace_NoPlace:kitOne K (.ref cV) (.ref cV)=some true)
  (w_NoPlace_NothingDone:kitOne K (.ref cV) (.ref bF)=some false)
  (w_NoPlace_TooGreat:kitOne K (.ref cV) (.ref cG)=some false)
  (w_NoPlace_t0:kitAny K (.ref cV) ([n6,iu,kS,og,n_,iw].map Value.ref)=some false)
  (w_NoPlace_VE:kitOne K (.ref cV) (.type "ValueError")=some true)
  (x_TooGreat:excIn K cG q_ rF=true)
  (li:findIn K (.ref cG) "__getattribute__"=some (some (.builtin "BaseException.__getattribute__")))
  (lr:findIn K (.ref cG) "__getattr__"=some none)
  (lj:findIn K (.ref cG) "__class__"=some (some (.builtin "object.__class__")))
  (w_TooGreat_NoPlace:kitOne K (.ref cG) (.ref cV)=some false)
  (w_TooGreat_NothingDone:kitOne K (.ref cG) (.ref bF)=some false)
  (w_TooGreat_TooGreat:kitOne K (.ref cG) (.ref cG)=some true)
  (w_TooGreat_t0:kitAny K (.ref cG) ([n6,iu,kS,og,n_,iw].map Value.ref)=some false)
  (w_TooGreat_VE:kitOne K (.ref cG) (.type "ValueError")=some true)
  (x_NothingDone:excIn K bF q_ rF=true)
  (iQ:findIn K (.ref bF) "__getattribute__"=some (some (.builtin "BaseException.__getattribute__")))
  (iR:findIn K (.ref bF) "__getattr__"=some none)
  (iS:findIn K (.ref bF) "__class__"=some (some (.builtin "object.__class__")))
  (w_NothingDone_NoPlace:kitOne K (.ref bF) (.ref cV)=some false)
  (w_NothingDone_NothingDone:kitOne K (.ref bF) (.ref bF)=some true)
  (w_NothingDone_TooGreat:kitOne K (.ref bF) (.ref cG)=some false)
  (w_NothingDone_t0:kitAny K (.ref bF) ([n6,iu,kS,og,n_,iw].map Value.ref)=some false)
  (w_NothingDone_VE:kitOne K (.ref bF) (.type "ValueError")=some true)
  (u_TrunkError_TrunkError:(BD K bA).contains (.ref bA)=true)
  (u_NoPlace_TrunkError:(BD K cV).contains (.ref bA)=true)
  (u_TooGreat_TrunkError:(BD K cG).contains (.ref bA)=true)
  (u_NothingDone_TrunkError:(BD K bF).contains (.ref bA)=true)
  (A7:nsIn K mainGlobals "ValueError"=some none)
  (QY:nsIn K mainGlobals "bool"=some none)
  (CY:nsIn K mainGlobals "enumerate"=some none)
  (T3:nsIn K mainGlobals "int"=some none)
  (AK:nsIn K mainGlobals "isinstance"=some none)
  (Uj:nsIn K mainGlobals "len"=some none)
  (QU:nsIn K mainGlobals "list"=some none)
  (Ug:nsIn K mainGlobals "max"=some none)
  (T7:nsIn K mainGlobals "min"=some none)
  (Ml:nsIn K mainGlobals "range"=some none)
  (T5:nsIn K mainGlobals "set"=some none)
  (Kc:nsIn K mainGlobals "sorted"=some none)
  (T':nsIn K mainGlobals "str"=some none)
  (Mi:nsIn K mainGlobals "tuple"=some none)
  (T0:nsIn K mainGlobals "zip"=some none)
  (yt:nsIn K mainGlobals "MOST_PLACES"=some (some (.int 100 yz))) :
  ∃fd:FuncData,fd.scope.names.lookup ("_law_script":Str)=some .local/\(∀(s:Shared) (v:Value),BindsTo s fd ⟨[v],[]⟩ [("_law_script",v)])/\∀base:Heap,K.In base->base.Ns mainGlobals mg->c7 l.prog w K mg base (iK l.prog w) 43 fa fd Jj (iZ K mg 1 f_q45):=by
 have e:=WB.symm.trans (mg_of X G NO)
 cases e
 obtain⟨_,_,F_q1,m_q1⟩:=ED.fn X G
 obtain⟨_,_,F_q2,m_q2⟩:=CO.fn X G
 obtain⟨_,_,F_q3,m_q3⟩:=Ex.fn X G
 obtain⟨_,_,F_q4,m_q4⟩:=CN.fn X G
 obtain⟨_,_,F_q5,m_q5⟩:=EE.fn X G
 obtain⟨_,_,F_q6,m_q6⟩:=Kt.fn X G
 obtain⟨_,_,F_q7,m_q7⟩:=GI.fn X G
 obtain⟨_,_,F_q8,m_q8⟩:=EC.fn X G
 obtain⟨_,_,F_q9,m_q9⟩:=yq.fn X G
 obtain⟨_,_,F_q10,m_q10⟩:=AY.fn X G
 obtain⟨_,_,F_q11,m_q11⟩:=GJ.fn X G
 obtain⟨_,_,F_q12,m_q12⟩:=yC.fn X G
 obtain⟨_,_,F_q13,m_q13⟩:=Ev.fn X G
 obtain⟨_,_,F_q14,m_q14⟩:=AV.fn X G
 obtain⟨_,_,F_q15,m_q15⟩:=AS.fn X G
 obtain⟨_,_,F_q16,m_q16⟩:=GH.fn X G
 obtain⟨_,_,F_q17,m_q17⟩:=Et.fn X G
 obtain⟨_,_,F_q18,m_q18⟩:=Kb.fn X G
 obtain⟨_,_,F_q19,m_q19⟩:=AU.fn X G
 obtain⟨_,_,F_q20,m_q20⟩:=xQ.fn X G
 obtain⟨_,_,F_q21,m_q21⟩:=GG.fn X G
 obtain⟨_,_,F_q22,m_q22⟩:=CL.fn X G
 obtain⟨_,_,F_q23,m_q23⟩:=AW.fn X G
 obtain⟨_,_,F_q24,m_q24⟩:=A6.fn X G
 obtain⟨_,_,zq,CV⟩:=C2.fn X G
 obtain⟨_,_,F_q26,m_q26⟩:=CQ.fn X G
 obtain⟨_,_,F_q27,m_q27⟩:=AX.fn X G
 obtain⟨_,_,F_q28,m_q28⟩:=C1.fn X G
 obtain⟨_,_,F_q29,m_q29⟩:=AN.fn X G
 obtain⟨_,_,F_q30,m_q30⟩:=xR.fn X G
 obtain⟨_,_,F_q31,m_q31⟩:=yp.fn X G
 obtain⟨_,_,F_q32,m_q32⟩:=EA.fn X G
 obtain⟨_,_,F_q33,m_q33⟩:=CT.fn X G
 obtain⟨_,_,F_q34,m_q34⟩:=AQ.fn X G
 obtain⟨_,_,F_q35,m_q35⟩:=yu.fn X G
 obtain⟨_,_,F_q36,m_q36⟩:=vQ.fn X G
 obtain⟨_,_,F_q37,m_q37⟩:=AI.fn X G
 obtain⟨_,_,F_q38,m_q38⟩:=xM.fn X G
 obtain⟨_,_,F_q39,m_q39⟩:=xP.fn X G
 obtain⟨_,_,F_q40,m_q40⟩:=AJ.fn X G
 obtain⟨_,_,F_q41,m_q41⟩:=yB.fn X G
 obtain⟨_,_,F_q42,m_q42⟩:=xK.fn X G
 obtain⟨_,_,F_q43,m_q43⟩:=yr.fn X G
 obtain⟨_,_,F_q44,m_q44⟩:=va.fn X G
 have F_q45:=zE (st:=tO) T_ GL T9
 have m_q45:=mg_of X G NO
 have B:Bl mg:=⟨mg_none_of X G A7,mg_none_of X G QY,mg_none_of X G CY,mg_none_of X G T3,mg_none_of X G AK,mg_none_of X G Uj,mg_none_of X G QU,mg_none_of X G Ug,mg_none_of X G T7,mg_none_of X G Ml,mg_none_of X G T5,mg_none_of X G Kc,mg_none_of X G T',mg_none_of X G Mi,mg_none_of X G T0⟩
 have C:Cls K mg:=⟨⟨bA,mg_of X G ef,x_TrunkError⟩,⟨cV,mg_of X G jR,x_NoPlace⟩,⟨cG,mg_of X G iP,x_TooGreat⟩,⟨bF,mg_of X G fG,x_NothingDone⟩,⟨cV,mg_of X G jR,⟨fun c b hb=>by by_cases e0:c="TrunkError";(· subst e0;rw[show jE "TrunkError"=some false from by decide +kernel]at hb;cases hb;exact⟨bA,mg_of X G ef,x_TrunkError,⟨jp,jq,jr⟩,w_TrunkError_NoPlace⟩);by_cases e1:c="NoPlace";(· subst e1;rw[show jE "NoPlace"=some true from by decide +kernel]at hb;cases hb;exact⟨cV,mg_of X G jR,x_NoPlace,⟨mE,mD,mC⟩,w_NoPlace_NoPlace⟩);by_cases e2:c="TooGreat";(· subst e2;rw[show jE "TooGreat"=some false from by decide +kernel]at hb;cases hb;exact⟨cG,mg_of X G iP,x_TooGreat,⟨li,lr,lj⟩,w_TooGreat_NoPlace⟩);by_cases e3:c="NothingDone";(· subst e3;rw[show jE "NothingDone"=some false from by decide +kernel]at hb;cases hb;exact⟨bF,mg_of X G fG,x_NothingDone,⟨iQ,iR,iS⟩,w_NothingDone_NoPlace⟩);simp only[jE,e0,e1,e2,e3,gX,reduceCtorEq]at hb⟩⟩,⟨bF,mg_of X G fG,⟨fun c b hb=>by by_cases e0:c="TrunkError";(· subst e0;rw[show fM "TrunkError"=some false from by decide +kernel]at hb;cases hb;exact⟨bA,mg_of X G ef,x_TrunkError,⟨jp,jq,jr⟩,w_TrunkError_NothingDone⟩);by_cases e1:c="NoPlace";(· subst e1;rw[show fM "NoPlace"=some false from by decide +kernel]at hb;cases hb;exact⟨cV,mg_of X G jR,x_NoPlace,⟨mE,mD,mC⟩,w_NoPlace_NothingDone⟩);by_cases e2:c="TooGreat";(· subst e2;rw[show fM "TooGreat"=some false from by decide +kernel]at hb;cases hb;exact⟨cG,mg_of X G iP,x_TooGreat,⟨li,lr,lj⟩,w_TooGreat_NothingDone⟩);by_cases e3:c="NothingDone";(· subst e3;rw[show fM "NothingDone"=some true from by decide +kernel]at hb;cases hb;exact⟨bF,mg_of X G fG,x_NothingDone,⟨iQ,iR,iS⟩,w_NothingDone_NothingDone⟩);simp only[fM,e0,e1,e2,e3,gX,reduceCtorEq]at hb⟩⟩,⟨cG,mg_of X G iP,⟨fun c b hb=>by by_cases e0:c="TrunkError";(· subst e0;rw[show iN "TrunkError"=some false from by decide +kernel]at hb;cases hb;exact⟨bA,mg_of X G ef,x_TrunkError,⟨jp,jq,jr⟩,w_TrunkError_TooGreat⟩);by_cases e1:c="NoPlace";(· subst e1;rw[show iN "NoPlace"=some false from by decide +kernel]at hb;cases hb;exact⟨cV,mg_of X G jR,x_NoPlace,⟨mE,mD,mC⟩,w_NoPlace_TooGreat⟩);by_cases e2:c="TooGreat";(· subst e2;rw[show iN "TooGreat"=some true from by decide +kernel]at hb;cases hb;exact⟨cG,mg_of X G iP,x_TooGreat,⟨li,lr,lj⟩,w_TooGreat_TooGreat⟩);by_cases e3:c="NothingDone";(· subst e3;rw[show iN "NothingDone"=some false from by decide +kernel]at hb;cases hb;exact⟨bF,mg_of X G fG,x_NothingDone,⟨iQ,iR,iS⟩,w_NothingDone_TooGreat⟩);simp only[iN,e0,e1,e2,e3,gX,reduceCtorEq]at hb⟩⟩,⟨n6,iu,kS,og,n_,iw,mg_of X G J5,mg_of X G yA,mg_of X G Ez,mg_of X G Kd,mg_of X G J6,mg_of X G yo,⟨fun c b hb=>by by_cases e0:c="TrunkError";(· subst e0;rw[show xk "TrunkError"=some false from by decide +kernel]at hb;cases hb;exact⟨bA,mg_of X G ef,x_TrunkError,⟨jp,jq,jr⟩,w_TrunkError_t0⟩);by_cases e1:c="NoPlace";(· subst e1;rw[show xk "NoPlace"=some false from by decide +kernel]at hb;cases hb;exact⟨cV,mg_of X G jR,x_NoPlace,⟨mE,mD,mC⟩,w_NoPlace_t0⟩);by_cases e2:c="TooGreat";(· subst e2;rw[show xk "TooGreat"=some false from by decide +kernel]at hb;cases hb;exact⟨cG,mg_of X G iP,x_TooGreat,⟨li,lr,lj⟩,w_TooGreat_t0⟩);by_cases e3:c="NothingDone";(· subst e3;rw[show xk "NothingDone"=some false from by decide +kernel]at hb;cases hb;exact⟨bF,mg_of X G fG,x_NothingDone,⟨iQ,iR,iS⟩,w_NothingDone_t0⟩);simp only[xk,e0,e1,e2,e3,gX,reduceCtorEq]at hb⟩⟩,⟨fun c b hb=>by by_cases e0:c="TrunkError";(· subst e0;rw[show gu "TrunkError"=some true from by decide +kernel]at hb;cases hb;exact⟨bA,mg_of X G ef,x_TrunkError,⟨jp,jq,jr⟩,w_TrunkError_VE⟩);by_cases e1:c="NoPlace";(· subst e1;rw[show gu "NoPlace"=some true from by decide +kernel]at hb;cases hb;exact⟨cV,mg_of X G jR,x_NoPlace,⟨mE,mD,mC⟩,w_NoPlace_VE⟩);by_cases e2:c="TooGreat";(· subst e2;rw[show gu "TooGreat"=some true from by decide +kernel]at hb;cases hb;exact⟨cG,mg_of X G iP,x_TooGreat,⟨li,lr,lj⟩,w_TooGreat_VE⟩);by_cases e3:c="NothingDone";(· subst e3;rw[show gu "NothingDone"=some true from by decide +kernel]at hb;cases hb;exact⟨bF,mg_of X G fG,x_NothingDone,⟨iQ,iR,iS⟩,w_NothingDone_VE⟩);simp only[gu,e0,e1,e2,e3,gX,reduceCtorEq]at hb⟩,⟨fun c hc=>by simp only[aX,eW,mO]at hc;rcases hc with rfl|rfl|rfl|rfl;(· exact⟨bA,bA,mg_of X G ef,mg_of X G ef,x_TrunkError,x_TrunkError,u_TrunkError_TrunkError⟩);(· exact⟨cV,bA,mg_of X G jR,mg_of X G ef,x_NoPlace,x_TrunkError,u_NoPlace_TrunkError⟩);(· exact⟨cG,bA,mg_of X G iP,mg_of X G ef,x_TooGreat,x_TrunkError,u_TooGreat_TrunkError⟩);(· exact⟨bF,bA,mg_of X G fG,mg_of X G ef,x_NothingDone,x_TrunkError,u_NothingDone_TrunkError⟩)⟩⟩
 have O:Ow K mg:=⟨⟨fC,mg_of X G kh,cl_Kept,fun f hf=>by simp only[aX,eW,mO]at hf;rcases hf with rfl|rfl|rfl|rfl|rfl|rfl;(· exact vP);(· exact AT);(· exact yy);(· exact u9);(· exact sH);(· exact AR)⟩⟩
 have Gg:Gc K mg:=⟨⟨_,.int 100,mg_of X G yt,⟨_,rfl⟩,fun μ H=>.int⟩⟩
 refine⟨fnOf "law" "law" (iW tO) (hU tO) (aO tO) .none Ko Kf J3 Kq Eu Kr,rfl,fun s v=>.of_eq rfl,fun base _ _=>?_⟩
 have Q1:bR l.prog w K mg base 1 "in_order" 1 Jk:=cP F_q1 m_q1 (S8 F_q1 B)
 have QZ:bR l.prog w K mg base 1 "letter_of" 2 Jl:=cP F_q2 m_q2 (S_ F_q2)
 have QV:bR l.prog w K mg base 1 "has_left" 1 As:=cP F_q3 m_q3 (Tb F_q3)
 have GK:bR l.prog w K mg base 1 "has_right" 1 xl:=cP F_q4 m_q4 (Tc F_q4)
 have vO:bR l.prog w K mg base 2 "links_of" 1 xn:=cP F_q5 m_q5 (Te F_q5 B  QV GK)
 have QM:bR l.prog w K mg base 3 "ups_of" 1 Jm:=cP F_q6 m_q6 (Tf F_q6 B  vO)
 have QP:bR l.prog w K mg base 1 "up_from" 2 Gs:=cP F_q7 m_q7 (Tg F_q7)
 have GM:bR l.prog w K mg base 3 "sizes_of" 1 D4:=cP F_q8 m_q8 (Ti F_q8 B  vO)
 have AM:bR l.prog w K mg base 1 "check_place" 2 Au:=cP F_q9 m_q9 (Tl F_q9 B C)
 have Ki:bR l.prog w K mg base 1 "check_size" 1 y8:=cP F_q10 m_q10 (PN F_q10 Gg C)
 have J7:bR l.prog w K mg base 4 "part_at" 2 B4:=cP F_q11 m_q11 (PP F_q11   AM GM)
 have xN:bR l.prog w K mg base 5 "branches_at" 2 rL:=cP F_q12 m_q12 (PQ F_q12 B  GK J7 GM)
 have J4:bR l.prog w K mg base 1 "with_top" 3 B5:=cP F_q13 m_q13 (PR F_q13 B)
 have Kx:bR l.prog w K mg base 6 "branch_put" 4 B6:=cP F_q14 m_q14 (PU F_q14 B  xN Ki J4)
 have Ft:bR l.prog w K mg base 1 "room_below" 2 y9:=cP F_q15 m_q15 (PV F_q15)
 have zn:bR l.prog w K mg base 2 "room_at" 4 tP:=cP F_q16 m_q16 (PX F_q16   QZ Ft)
 have rO:bR l.prog w K mg base 3 "rooms_of" 2 pM:=cP F_q17 m_q17 (PY F_q17 B  vO zn)
 have Kp:bR l.prog w K mg base 1 "turned" 1 B8:=cP F_q18 m_q18 (PZ F_q18)
 have Kn:bR l.prog w K mg base 1 "with_marks" 3 B9:=cP F_q19 m_q19 (P0 F_q19)
 have Kj:bR l.prog w K mg base 6 "branch_rooms" 3 y_:=cP F_q20 m_q20 (P1 F_q20 B  xN rO)
 have Km:bR l.prog w K mg base 4 "climbed" 4 B_:=cP F_q21 m_q21 (P2 F_q21 B  vO zn QP QM)
 have jv:LP l.prog w K mg base 4 "Kept" 3 fZ:=Pf dm_Kept___init__ (mg_of X G kh) Mh Mj (fun F=>uY F B O rO)
 have dC:iz l.prog w K mg base 7 "Kept" "carry_out" 2 dB:=lI dm_Kept_carry_out (mg_of X G kh) cl_Kept (fun F=>tQ F B O Kj Km rO)
 have eh:iz l.prog w K mg base 8 "Kept" "do_deed" 2 d_:=lI dm_Kept_do_deed (mg_of X G kh) cl_Kept (fun F=>vK F O dC)
 have fI:iz l.prog w K mg base 9 "Kept" "mark_deed" 3 eU:=lI dm_Kept_mark_deed (mg_of X G kh) cl_Kept (fun F=>tU F O eh Kn)
 have sL:iz l.prog w K mg base 10 "Kept" "put" 3 kQ:=lI dm_Kept_put (mg_of X G kh) cl_Kept (fun F=>B' F O fI AM Q1)
 have qD:iz l.prog w K mg base 10 "Kept" "take" 3 jP:=lI dm_Kept_take (mg_of X G kh) cl_Kept (fun F=>Av F O fI AM)
 have nH:iz l.prog w K mg base 9 "Kept" "branch" 4 iq:=lI dm_Kept_branch (mg_of X G kh) cl_Kept (fun F=>xo F B O eh Kx)
 have i9:iz l.prog w K mg base 9 "Kept" "whole" 2 gl:=lI dm_Kept_whole (mg_of X G kh) cl_Kept (fun F=>yl F O eh)
 have jQ:iz l.prog w K mg base 8 "Kept" "back" 1 gn:=lI dm_Kept_back (mg_of X G kh) cl_Kept (fun F=>Ax F B C O dC Kp)
 have o_:iz l.prog w K mg base 8 "Kept" "again" 1 hZ:=lI dm_Kept_again (mg_of X G kh) cl_Kept (fun F=>ym F B C O dC)
 have lQ:iz l.prog w K mg base 1 "Kept" "tree_now" 1 ii:=lI dm_Kept_tree_now (mg_of X G kh) cl_Kept (fun F=>u0 F O)
 have kR:iz l.prog w K mg base 1 "Kept" "rooms_now" 1 gQ:=lI dm_Kept_rooms_now (mg_of X G kh) cl_Kept (fun F=>tV F O)
 have lP:iz l.prog w K mg base 1 "Kept" "lets_now" 1 ij:=lI dm_Kept_lets_now (mg_of X G kh) cl_Kept (fun F=>u4 F B O)
 have n9:bR l.prog w K mg base 1 "_law_cell" 2 my:=cP F_q22 m_q22 (P3 F_q22 B)
 have xS:bR l.prog w K mg base 1 "_law_mixed" 3 tW:=cP F_q23 m_q23 (P4 F_q23)
 have qG:bR l.prog w K mg base 2 "_law_draws" 3 mz:=cP F_q24 m_q24 (P5 F_q24 B  xS)
 have rQ:=Fc (P:=l.prog) (w:=w) (base:=base) zq CV B  40
 have Ke:bR l.prog w K mg base 3 "_law_pool" 3 za:=cP F_q26 m_q26 (P6 F_q26 B  qG)
 have J_:bR l.prog w K mg base 1 "_law_marks" 2 Cd:=cP F_q27 m_q27 (P7 F_q27 B)
 have zm:bR l.prog w K mg base 2 "_law_tree" 2 xp:=cP F_q28 m_q28 (P8 F_q28 B  J_)
 have Ks:bR l.prog w K mg base 1 "_law_links" 1 Ce:=cP F_q29 m_q29 (P9 F_q29 B)
 have Ka:bR l.prog w K mg base 1 "_law_machine" 4 Cf:=cP F_q30 m_q30 (P_ F_q30 B)
 have Kg:bR l.prog w K mg base 1 "_law_letter" 2 zb:=cP F_q31 m_q31 (P' F_q31 B)
 have zu:bR l.prog w K mg base 2 "_law_run" 2 xq:=cP F_q32 m_q32 (Qa F_q32   Kg)
 have Ku:bR l.prog w K mg base 3 "_law_lets" 2 Cg:=cP F_q33 m_q33 (Qb F_q33 B  zu)
 have Kl:bR l.prog w K mg base 1 "_law_sizes" 1 Ch:=cP F_q34 m_q34 (Qc F_q34)
 have Kv:bR l.prog w K mg base 2 "_law_bounds" 2 Ci:=cP F_q35 m_q35 (Qd F_q35   Ks Kl)
 have J9:bR l.prog w K mg base 3 "_law_branched" 4 Cj:=cP F_q36 m_q36 (Qe F_q36 B  Kv)
 have J8:bR l.prog w K mg base 4 "_law_start" 1 Ck:=cP F_q37 m_q37 (Qf F_q37 B  n9 qG Ka Ke zm)
 have Fv:bR l.prog w K mg base 3 "_law_planned" 5 rM:=cP F_q38 m_q38 (Qg F_q38 B  n9 qG zm)
 have Fu:bR l.prog w K mg base 4 "_law_changed" 2 qw:=cP F_q39 m_q39 (Qh F_q39 B  J9)
 have rN:bR l.prog w K mg base 11 "_law_doing" 2 ik:=cP F_q40 m_q40 (Qi F_q40   o_ jQ nH sL qD i9)
 have rP:bR l.prog w K mg base 41 "_law_stands" 4 qx:=cP F_q41 m_q41 (Qj F_q41 B  lP kR lQ Ku zu rQ)
 have Kw:bR l.prog w K mg base 12 "_law_refused" 2 Cm:=cP F_q42 m_q42 (Ql F_q42 B C  rN)
 have zp:bR l.prog w K mg base 42 "_law_walked" 5 vy:=cP F_q43 m_q43 (Qm F_q43   rN rP)
 have CZ:bR l.prog w K mg base 42 "_law_none_left" 4 xr:=cP F_q44 m_q44 (Qn F_q44   Kw rQ rP)
 exact Qo F_q45 B  jv jQ i9 n9 Fu rN xS CZ Fv rP J8 zp
end P
end
namespace PySem.W.Fast
def tw2297909254804871903:=tv0
def tw7898461155023063103:=tv0
def tw12420259433655228094:=tv0
def tw6939501629812900349:=tv0
def tw6293648939730291773:=tv0
def tw5806408391194429500:=tv0
def tw15489487797452696475:=tv0
def tw17335659889757178777:=tv0
def tw14766147140900174521:=tv0
def tw16150897793909449337:=tv0
def tw6621349312971490745:=tv0
def tw4484909076770981049:=tv0
def tw8824327840188396534:=tv0
def tw13542608212755478421:=tv0
def tw1520770395929189204:=tv0
def tw7551958836279258260:=tv0
def tw9306587353198681619:=tv0
def tw6480181339471683121:=tv0
def tw2662480364244396784:=tv0
def tw1530302367570984592:=tv0
def tw17398913913746640112:=tv0
def tw4784865394670421806:=tv0
def tw9167533741942935433:=tv0
def tw6739046812864507848:=tv0
def tw2687023848988802504:=tv0
def tw12211577137987819944:=tv0
def tw6298632058239196935:=tv0
def tw5899366256893223302:=tv0
def tw18446562939731026821:=tv0
def tw7363920555027640805:=tv0
def tw6343753143315176741:=tv0
def tw7723930000032339364:=tv0
def tw11107750497074717571:=tv0
def tw17635609799104993283:=tv0
def tw3919192300954864514:=tv0
def tw10329984180148995424:=tv0
def tw17921441161216346336:=tv0
def tw1841397147312677952:=tv0
def tw12866662263014906868:=tv0
def tw10390233921647938539:=tv0
def tw15466556371332373034:=tv0
def tw3520390145786488683:=tv0
def tw15191487121427153032:=tv0
def tw2494471280739333489:=tv0
def tw16958300717008443617:=tv0
def tw7244997161475186307:=tv0
def tw18007359782490822600:=tv0
def tw18220375276615567517:=tv0
def tw15605133296508510298:=tv0
def tw11076201743643436301:=tv0
def tw5951003581039305934:=tv0
def tw7901564082026866435:=tv0
def tw8554893749209280657:=tv0
def tw17980883701266090648:=tv0
def tw17193240164682250253:=tv0
def tw1188176189370034767:=tv0
def tw10548864613203859467:=tv0
def tw10222992652018642874:=tv0
def tw18267032336286453946:=tv0
def tw9971762238427234082:=tv0
def tw14769666919721590869:=tv0
def tw14936833585418978213:=tv0
def tw3555544056556948075:=tv0
def tw7404248637083761730:=tv0
def tw11672182806108860806:=tv0
def tw762578034352441080:=tv0
def tw236711931740364325:=tv0
def tw4732371981487348716:=tv0
def tw16550677490054787362:=tv0
def tw1896601261855474971:=tv0
def tw16792348911062155659:=tv0
def tw6646336970436375795:=tv0
def tw7941116699712779220:=tv0
def tw4550958722956383336:=tv0
def tw18386307833286263678:=tv0
def tw391012817815167235:=tv0
def tw16846868185410151594:=tv0
def tw12438378608994839494:=tv0
def tw14047566564532192433:=tv0
def tw10905618650198470416:=tv0
def tw993728490379242558:=tv0
def tw7528466727691440649:=tv0
def tw16564314079782980557:=tv0
def tw8717296316896828857:=tv0
def tw13292183310655751814:=tv0
def tw4808253438360324053:=tv0
def tw3062287844133337243:=tv0
def tw14252311322081374377:=tv0
def tw5037262208673241011:=tv0
def tw10842636851312958148:=tv0
def tw7304525930442406937:=tv0
def tw8897213769351430569:=tv0
def tw16105949869278569656:=tv0
def tw4425426411466177256:=tv0
def tw18371977005489105924:=tv0
def tw4510365303676511540:=tv0
def tw10600977307599484434:=tv0
def tw769140185609546958:=tv0
def tw1673447167657769196:=tv0
def tw12429699401863518883:=tv0
def tw14454334836707304559:=tv0
def tw10972797222393955890:=tv0
def tw10426496636536771391:=tv0
def tw4386791686981808742:=tv0
def tw776295015598137149:=tv0
def tw4906821355369506240:=tv0
def tw2996265919815723443:=tv0
def tw3109662893935987179:=tv0
def tw8050032385406618550:=tv0
def tw701393511816855003:=tv0
def tw17150855190325737957:=tv0
def tw9632566496230077559:=tv0
def tw12501301184861434969:=tv0
def tw1774498752586952571:=tv0
def tw17190968630035698089:=tv0
def tw10777217431360091647:=tv0
def tw11058254601522657051:=tv0
def tw13812743344955197575:=tv0
def tw1149330631744785652:=tv0
def tw328866659860297740:=tv0
def tw2972705125407097598:=tv0
def tw13560505105736129414:=tv0
def tw1447375353834267836:=tv0
def tw1297274711653268498:=tv0
def tw2390371124016614173:=tv0
def tw248392087665687138:=tv0
def tw7865660164654754006:=tv0
def tw770627447422046417:=tv0
def tw7282335220993882703:=tv0
def tw17593686765642302820:=tv0
def tw7719420241204583127:=tv0
def tw14267417645052457434:=tv0
def tw15073802311717091469:=tv0
def tw12615730587890350954:=tv0
def tw16642470099716061456:=tv0
def tw13066348410303962354:=tv0
def tw3819217457804108263:=tv0
def tw825545306153210247:=tv0
def tw8992385230896581723:=tv0
def tw8748439756182861199:=tv0
def tw7299491739079911100:=tv0
def tw13923779931711078457:=tv0
def tw14292170225619349565:=tv0
def tw8777237690196792092:=tv0
def tw5112110415586702666:=tv0
def tw16081735288961855703:=tv0
def tw1371682259593966000:=tv0
def tw7252651827498832256:=tv0
def tw9443024073522166709:=tv0
def tw13836234776820461849:=tv0
def tw1465818569580969637:=tv0
def tw13060432896619800502:=tv0
def tw8929340221647210808:=tv0
def tw5720130302574720220:=tv0
def tw5311738469078517242:=tv0
def tw3816907092544593112:=tv0
def tw3300739775581646846:=tv0
def tw346268383820017944:=tv0
def tw15422228246467852197:=tv0
def tw12654631251498424719:=tv0
def tw9102613980523368666:=tv0
def tw3587264450005901620:=tv0
def tw2173961581280390377:=tv0
def tw9757792903882010791:=tv0
def tw1701508379798313286:=tv0
def tw13375767606894158178:=tv0
def tw214344657757687752:=tv0
def tw9960086754055778564:=tv0
def tw5230728134659971608:=tv0
def tw7306979279773260477:=tv0
def tw10900970693732605304:=tv0
def tw817160554950637239:=tv0
def tw10996850525500406410:=tv0
def tw9265795355030358815:=tv0
def tw5025209435093576728:=tv0
def tw17164369693208083940:=tv0
def tw6717936246040771308:=tv0
def tw17838733291080007256:=tv0
def tw11234990379009777685:=tv0
def tw11140382136543532438:=tv0
def tw17334316173147113409:=tv0
def tw1875754091321111168:=tv0
def tw6175629874974136503:=tv0
def tw9995677803894140945:=tv0
def tw525165222368149391:=tv0
def tw3438423902560381636:=tv0
def tw5249203965573937465:=tv0
def tw12463707693219696219:=tv0
def tw6731953026725202208:=tv0
def tw14033091730404206768:=tv0
def tw3964844559617425959:=tv0
def tw7751414939248034816:=tv0
def tw7349444952037855586:=tv0
def tw14098196705735739567:=tv0
def tw3284627897400137193:=tv0
def tw16247078834668035538:=tv0
def tw15759080012754019437:=tv0
def tw14635468299397800402:=tv0
def tw7074798024745589176:=tv0
def tw17886664938832930895:=tv0
def tw16141896064350554649:=tv0
def tw13416513292238481364:=tv0
def tw11914650776442070677:=tv0
def tw989213163449233481:=tv0
def tw11752421458596022233:=tv0
def tw6244246207639557001:=tv0
def tw15503349218013106538:=tv0
def tw573322732097687434:=tv0
def tw131114866141795978:=tv0
def tw1256369634552902099:=tv0
def tw13858900690516020517:=tv0
def tw10138217521228419194:=tv0
def tw8901375168622444535:=tv0
def tw11242383844381563063:=tv0
def tw16207635835087826919:=tv0
def tw9609230204442210735:=tv0
def tw8655488781020745036:=tv0
def tw6564005594486193617:=tv0
def tw4281570797537647137:=tv0
def tw16941401628964733221:=tv0
def tw15292750599240633207:=tv0
def tw11256930504113671493:=tv0
def tw3326826431622382221:=tv0
def tw11936760430165411874:=tv0
def tw11687210552339224199:=tv0
def tw5974866432711469084:=tv0
def tw3683522588619703063:=tv0
def tw3029930299013839117:=tv0
def tw11264549625704750058:=tv0
def tw2873454998683621544:=tv0
def tw12825092142261628450:=tv0
def tw13564804680588260163:=tv0
def tw14327211476311949964:=tv0
def tw15777776543829148705:=tv0
def tw9252157583552750951:=tv0
def tw4172332557430646936:=tv0
def tw17412829878514945584:=tv0
def tw16931376471915511673:=tv0
def tw5795244282034847128:=tv0
def tw17072672792308000124:=tv0
def tw5165955672799555158:=tv0
def tw17091672441493640051:=tv0
def tw10667898062981081014:=tv0
def tw9683432045844121936:=tv0
def tw14435311879128364720:=tv0
def tw9616808798576096870:=tv0
def tw4580209543655973735:=tv0
def tw15926282206199717546:=tv0
def tw11783233348593018506:=tv0
def tw549653093197280717:=tv0
def tw2171406765591998576:=tv0
def tw10480513342973295999:=tv0
def tw11010720911403421190:=tv0
def tw6246537846144107813:=tv0
def tw3263294904198048337:=tv0
def tw8779454297724694687:=tv0
def tw6798800378500083296:=tv0
def tw14140689109297887207:=tv0
def tw3817436828092394142:=tv0
def tw17817546878439969453:=tv0
def tw17011759964614259129:=tv0
def tw15157104336550951724:=tv0
def tw2154687802006017489:=tv0
def tw11368565850266780010:=tv0
def tw4787436358477702000:=tv0
def tw9801821477428215393:=tv0
def tw4458803537718061701:=tv0
def tw6003560745352892031:=tv0
def tw1516445237255813699:=tv0
def tw455016401748934258:=tv0
def tw10058075401394778892:=tv0
def tw8040057401930163085:=tv0
def tw10476743679572215172:=tv0
def tw7343161850028347226:=tv0
def tw17469388447629482951:=tv0
def tw13019601304776470778:=tv0
def tw6442982139534903332:=tv0
def tw14856482756623113430:=tv0
def tw12272603988916406206:=tv0
def tw13894590667358426494:=tv0
def tw10952424181660726257:=tv0
def tw12511528550788559430:=tv0
def tw12207016976654203600:=tv0
def tw15935331482222429829:=tv0
def tw16487234629972029360:=tv0
def tw17869241854461465285:=tv0
def tw15848911547926809873:=tv0
def tw8525923455572443774:=tv0
def tw10552120302917658385:=tv0
def tw9079655442214368274:=tv0
def tw7305094185152220095:=tv0
def tw1479957307386415081:=tv0
def tw13093392035022113042:=tv0
def tw7501423786622994552:=tv0
def tw15919579480120855376:=tv0
def tw15029122367294234432:=tv0
def tw5143733104668832891:=tv0
def tw4186944274031056509:=tv0
def tw11925515636794129971:=tv0
def tw11106513189134489145:=tv0
def tw8624436227477954465:=tv0
def tw6786629150071214712:=tv0
def tw9260922765416828852:=tv0
def tw7594294066067800047:=tv0
def tw3000350343718246301:=tv0
def tw18292349462706896665:=tv0
def tw11098709984247440452:=tv0
def tw10619269435001892766:=tv0
def tw10378895890930208186:=tv0
def tw3779259828917650304:=tv0
end PySem.W.Fast
open PySem PySem.W PyProof.Rows
set_option maxRecDepth 100000 in
set_option maxHeartbeats 0 in
theorem PySem.Challenge.cw_trunksay_k66_whole_to_and_fro_holds : PySem.Challenge.rw_trunksay_k66_whole_to_and_fro.Holds := by
 w_on; o_law; k_head; (case hw => w_witness2)
 k_fill
 refine L2.walkW (l := PySem.Challenge.rw_trunksay_k66_whole_to_and_fro) (k := 43) (x := "_law_script") (G := P.f_q45) rfl rfl ⟨rfl, by decide, by decide⟩ (fun w h Y => PySem.W.kIn_of Y) ?F P.law_ok
 case F =>
  intro w mg fa h KX G hmg
  refine' P.all_mk KX G hmg ?_ ?_ ?_ ?_ ?_ ?_ ?_ ?_ ?_ ?_ ?_ ?_ ?_ ?_ ?_ ?_ ?_ ?_ ?_ ?_ ?_ ?_ ?_ ?_ ?_ ?_ ?_ ?_ ?_ ?_ ?_ ?_ ?_ ?_ ?_ ?_ ?_ ?_ ?_ ?_ ?_ ?_ ?_ ?_ ?_ ?_ ?_ ?_ ?_ ?cl_Kept ?_ ?_ ?_ ?_ ?_ ?_ ?_ ?_ ?dm_Kept___init__ ?dm_Kept_carry_out ?dm_Kept_do_deed ?dm_Kept_mark_deed ?dm_Kept_put ?dm_Kept_take ?dm_Kept_branch ?dm_Kept_whole ?dm_Kept_back ?dm_Kept_again ?dm_Kept_tree_now ?dm_Kept_rooms_now ?dm_Kept_lets_now ?_ ?_ ?_ ?_ ?_ ?_ ?_ ?_ ?_ ?_ ?x_TrunkError ?_ ?_ ?_ ?w_TrunkError_NoPlace ?w_TrunkError_NothingDone ?w_TrunkError_TooGreat ?w_TrunkError_t0 ?w_TrunkError_VE ?x_NoPlace ?_ ?_ ?_ ?w_NoPlace_NoPlace ?w_NoPlace_NothingDone ?w_NoPlace_TooGreat ?w_NoPlace_t0 ?w_NoPlace_VE ?x_TooGreat ?_ ?_ ?_ ?w_TooGreat_NoPlace ?w_TooGreat_NothingDone ?w_TooGreat_TooGreat ?w_TooGreat_t0 ?w_TooGreat_VE ?x_NothingDone ?_ ?_ ?_ ?w_NothingDone_NoPlace ?w_NothingDone_NothingDone ?w_NothingDone_TooGreat ?w_NothingDone_t0 ?w_NothingDone_VE ?u_TrunkError_TrunkError ?u_NoPlace_TrunkError ?u_TooGreat_TrunkError ?u_NothingDone_TrunkError ?_ ?_ ?_ ?_ ?_ ?_ ?_ ?_ ?_ ?_ ?_ ?_ ?_ ?_ ?_ ?_
  any_goals (refine' L2.DefIn.mk ?a ?l ?c ?k; (case a => k_is); (case l => k_is); (case c => k_is); (case k => k_is))
  any_goals k_is
  (case cl_Kept => exact ⟨by kernel_rfl, by kernel_rfl, by kernel_rfl, by first | k_is | kernel_rfl⟩)
  (case dm_Kept___init__ => (refine' L2.DefM.mk ?a ?i ?l ?c ?k; (case a => k_is); (case i => first | k_is | kernel_rfl); (case l => k_is); (case c => k_is); (case k => k_is)))
  (case dm_Kept_carry_out => (refine' L2.DefM.mk ?a ?i ?l ?c ?k; (case a => k_is); (case i => first | k_is | kernel_rfl); (case l => k_is); (case c => k_is); (case k => k_is)))
  (case dm_Kept_do_deed => (refine' L2.DefM.mk ?a ?i ?l ?c ?k; (case a => k_is); (case i => first | k_is | kernel_rfl); (case l => k_is); (case c => k_is); (case k => k_is)))
  (case dm_Kept_mark_deed => (refine' L2.DefM.mk ?a ?i ?l ?c ?k; (case a => k_is); (case i => first | k_is | kernel_rfl); (case l => k_is); (case c => k_is); (case k => k_is)))
  (case dm_Kept_put => (refine' L2.DefM.mk ?a ?i ?l ?c ?k; (case a => k_is); (case i => first | k_is | kernel_rfl); (case l => k_is); (case c => k_is); (case k => k_is)))
  (case dm_Kept_take => (refine' L2.DefM.mk ?a ?i ?l ?c ?k; (case a => k_is); (case i => first | k_is | kernel_rfl); (case l => k_is); (case c => k_is); (case k => k_is)))
  (case dm_Kept_branch => (refine' L2.DefM.mk ?a ?i ?l ?c ?k; (case a => k_is); (case i => first | k_is | kernel_rfl); (case l => k_is); (case c => k_is); (case k => k_is)))
  (case dm_Kept_whole => (refine' L2.DefM.mk ?a ?i ?l ?c ?k; (case a => k_is); (case i => first | k_is | kernel_rfl); (case l => k_is); (case c => k_is); (case k => k_is)))
  (case dm_Kept_back => (refine' L2.DefM.mk ?a ?i ?l ?c ?k; (case a => k_is); (case i => first | k_is | kernel_rfl); (case l => k_is); (case c => k_is); (case k => k_is)))
  (case dm_Kept_again => (refine' L2.DefM.mk ?a ?i ?l ?c ?k; (case a => k_is); (case i => first | k_is | kernel_rfl); (case l => k_is); (case c => k_is); (case k => k_is)))
  (case dm_Kept_tree_now => (refine' L2.DefM.mk ?a ?i ?l ?c ?k; (case a => k_is); (case i => first | k_is | kernel_rfl); (case l => k_is); (case c => k_is); (case k => k_is)))
  (case dm_Kept_rooms_now => (refine' L2.DefM.mk ?a ?i ?l ?c ?k; (case a => k_is); (case i => first | k_is | kernel_rfl); (case l => k_is); (case c => k_is); (case k => k_is)))
  (case dm_Kept_lets_now => (refine' L2.DefM.mk ?a ?i ?l ?c ?k; (case a => k_is); (case i => first | k_is | kernel_rfl); (case l => k_is); (case c => k_is); (case k => k_is)))
  (case x_TrunkError => k_exc)
  (case w_TrunkError_NoPlace => kernel_rfl)
  (case w_TrunkError_NothingDone => kernel_rfl)
  (case w_TrunkError_TooGreat => kernel_rfl)
  (case w_TrunkError_t0 => kernel_rfl)
  (case w_TrunkError_VE => kernel_rfl)
  (case x_NoPlace => k_exc)
  (case w_NoPlace_NoPlace => kernel_rfl)
  (case w_NoPlace_NothingDone => kernel_rfl)
  (case w_NoPlace_TooGreat => kernel_rfl)
  (case w_NoPlace_t0 => kernel_rfl)
  (case w_NoPlace_VE => kernel_rfl)
  (case x_TooGreat => k_exc)
  (case w_TooGreat_NoPlace => kernel_rfl)
  (case w_TooGreat_NothingDone => kernel_rfl)
  (case w_TooGreat_TooGreat => kernel_rfl)
  (case w_TooGreat_t0 => kernel_rfl)
  (case w_TooGreat_VE => kernel_rfl)
  (case x_NothingDone => k_exc)
  (case w_NothingDone_NoPlace => kernel_rfl)
  (case w_NothingDone_NothingDone => kernel_rfl)
  (case w_NothingDone_TooGreat => kernel_rfl)
  (case w_NothingDone_t0 => kernel_rfl)
  (case w_NothingDone_VE => kernel_rfl)
  (case u_TrunkError_TrunkError => kernel_rfl)
  (case u_NoPlace_TrunkError => kernel_rfl)
  (case u_TooGreat_TrunkError => kernel_rfl)
  (case u_NothingDone_TrunkError => kernel_rfl)
